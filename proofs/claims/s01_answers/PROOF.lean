import PyProof.Rows.All
import Wide.All
import OpenK.AllK
import Wide.FinOn
import Open.SpecLaws
import KE.OsGo
import KE.KIntText
import HandS.ForSpec
import HandS.SortKw
import HandS.FromBytesMap
import HandS.Conv
import KE.SortKeyHeap
import HandS.Comp
import HandS.Iter
import HandS.NoneIn
import HandS.Walk
import HandS.Evl
import PyFlatLaws
import PySem.Challenge.RW_beaconcoasts_s01_answers
set_option Elab.async false
set_option maxRecDepth 100000
set_option maxHeartbeats 4200000
namespace Bc
open BnC
/-! ### the plane: what the program asks of two straights, and what the specification asks -/
def spans (a b c d : Int) : Bool := decide (min a b ≤ max c d) && decide (min c d ≤ max a b)
def way (a b : Point) : Point := (b.1 - a.1, b.2 - a.2)
def turn (a b : Point) : Int := a.1 * b.2 - a.2 * b.1
def sides (a b c d : Point) : Bool := decide (turn (way a b) (way a c) * turn (way a b) (way a d) ≤ 0)
def touch (a b c d : Point) : Bool := if (!spans a.1 b.1 c.1 d.1 || !spans a.2 b.2 c.2 d.2) = true then false else sides a b c d && sides c d a b
theorem way_is (a b : Point) : way a b = minus b a := rfl
theorem turn_is (a b : Point) : turn a b = cross a b := rfl
theorem touch_iff {a b c d : Point} : touch a b c d = true ↔ spans a.1 b.1 c.1 d.1 = true ∧ spans a.2 b.2 c.2 d.2 = true ∧ side a b c * side a b d ≤ 0 ∧ side c d a * side c d b ≤ 0 := by
  unfold touch sides
  show (if (!spans a.1 b.1 c.1 d.1 || !spans a.2 b.2 c.2 d.2) = true then false else decide (side a b c * side a b d ≤ 0) && decide (side c d a * side c d b ≤ 0)) = true ↔ _
  cases spans a.1 b.1 c.1 d.1 <;> cases spans a.2 b.2 c.2 d.2 <;> simp only [Bool.not_true, Bool.not_false, Bool.or_false, Bool.or_true, Bool.or_self, if_true, Bool.false_eq_true, if_false, false_and, and_false, true_and, Bool.and_eq_true, decide_eq_true_iff]
theorem spans_iff {a b c d : Int} : spans a b c d = true ↔ min a b ≤ max c d ∧ min c d ≤ max a b := by
  unfold spans
  rw [Bool.and_eq_true, decide_eq_true_iff, decide_eq_true_iff]
theorem spans_swap (a b c d : Int) : spans a b c d = spans c d a b := by
  unfold spans
  rw [Bool.and_comm]
theorem spans_flip (a b c d : Int) : spans a b c d = spans a b d c := by
  unfold spans
  rw [Int.max_comm c d, Int.min_comm c d]
theorem touch_swap (a b c d : Point) : touch a b c d = touch c d a b := by
  rw [Bool.eq_iff_iff, touch_iff, touch_iff, spans_swap a.1, spans_swap a.2]
  constructor <;> exact fun ⟨h1, h2, h3, h4⟩ => ⟨h1, h2, h4, h3⟩
theorem side_flip (a b p : Point) : side b a p = - side a b p := by
  simp only [side, cross, minus]
  grind
theorem touch_flip (a b c d : Point) : touch a b c d = touch a b d c := by
  rw [Bool.eq_iff_iff, touch_iff, touch_iff, spans_flip a.1, spans_flip a.2, side_flip d c, side_flip d c, Int.neg_mul_neg, Int.mul_comm (side a b c)]
/-- a part of a way: x lies between 0 and r -/
theorem ratio {n x e r : Int} (hn : 0 < n) (h : n * x = e * r) (h0 : 0 ≤ e) (h1 : e ≤ n) : (0 ≤ x ∧ x ≤ r) ∨ (r ≤ x ∧ x ≤ 0) := by
  have g0 : ∀ y : Int, 0 ≤ n * y → 0 ≤ y := fun y hy => by
    by_cases c : 0 ≤ y
    · exact c
    · have := Int.mul_neg_of_pos_of_neg hn (Int.not_le.mp c)
      omega
  have g1 : ∀ y : Int, n * y ≤ 0 → y ≤ 0 := fun y hy => by
    by_cases c : y ≤ 0
    · exact c
    · have := Int.mul_pos hn (Int.not_le.mp c)
      omega
  have e1 : n * (r - x) = (n - e) * r := by grind
  rcases Int.le_total 0 r with hr | hr
  · left
    refine ⟨g0 x ?_, ?_⟩
    · rw [h]; exact Int.mul_nonneg h0 hr
    · have := g0 (r - x) (by rw [e1]; exact Int.mul_nonneg (by omega) hr)
      omega
  · right
    refine ⟨?_, g1 x ?_⟩
    · have := g1 (r - x) (by rw [e1]; exact Int.mul_nonpos_of_nonneg_of_nonpos (by omega) hr)
      omega
    · rw [h]; exact Int.mul_nonpos_of_nonneg_of_nonpos h0 hr
theorem mul_nonpos_of {x y : Int} (h : (0 ≤ x ∧ y ≤ 0) ∨ (x ≤ 0 ∧ 0 ≤ y)) : x * y ≤ 0 := by
  rcases h with (⟨h1, h2⟩ | ⟨h1, h2⟩)
  · exact Int.mul_nonpos_of_nonneg_of_nonpos h1 h2
  · exact Int.mul_nonpos_of_nonpos_of_nonneg h1 h2
theorem mul_nonneg_of {x y : Int} (h : (0 ≤ x ∧ 0 ≤ y) ∨ (x ≤ 0 ∧ y ≤ 0)) : 0 ≤ x * y := by
  rcases h with (⟨h1, h2⟩ | ⟨h1, h2⟩)
  · exact Int.mul_nonneg h1 h2
  · exact Int.mul_nonneg_of_nonpos_of_nonpos h1 h2
theorem sq_pos {x : Int} (h : x ≠ 0) : 0 < x * x := by
  rcases Int.lt_or_gt_of_ne h with c | c
  · exact Int.mul_pos_of_neg_of_neg c c
  · exact Int.mul_pos c c
theorem sq_nonneg (x : Int) : 0 ≤ x * x := by
  rcases Int.le_total 0 x with c | c
  · exact Int.mul_nonneg c c
  · exact Int.mul_nonneg_of_nonpos_of_nonpos c c
theorem len_pos {a b : Point} (h : a ≠ b) : 0 < dot (minus b a) (minus b a) := by
  simp only [dot, minus]
  have : b.1 - a.1 ≠ 0 ∨ b.2 - a.2 ≠ 0 := by
    by_cases c : b.1 - a.1 = 0
    · right
      intro c2
      exact h (Prod.ext (by omega) (by omega))
    · exact .inl c
  have h1 := sq_nonneg (b.1 - a.1)
  have h2 := sq_nonneg (b.2 - a.2)
  rcases this with c | c
  · have := sq_pos c; omega
  · have := sq_pos c; omega
theorem between_iff {a b p : Point} : between a b p = true ↔ side a b p = 0 ∧ 0 ≤ dot (minus p a) (minus b a) ∧ dot (minus p a) (minus b a) ≤ dot (minus b a) (minus b a) := by
  simp only [between, Bool.and_eq_true, beq_iff_eq, decide_eq_true_iff]
/-- a point of the straight touches whatever straight ends there -/
theorem touch_of_between {a b c : Point} (d : Point) (h : a ≠ b) (hb : between a b c = true) : touch a b c d = true := by
  obtain ⟨h0, h1, h2⟩ := between_iff.mp hb
  have hn := len_pos h
  have k1 := ratio (n := dot (minus b a) (minus b a)) (x := c.1 - a.1) (e := dot (minus c a) (minus b a)) (r := b.1 - a.1) hn (by
    simp only [side, cross, dot, minus] at *
    grind) h1 h2
  have k2 := ratio (n := dot (minus b a) (minus b a)) (x := c.2 - a.2) (e := dot (minus c a) (minus b a)) (r := b.2 - a.2) hn (by
    simp only [side, cross, dot, minus] at *
    grind) h1 h2
  have k3 := ratio (n := dot (minus b a) (minus b a)) (x := side c d a) (e := dot (minus c a) (minus b a)) (r := side c d a - side c d b) hn (by
    simp only [side, cross, dot, minus] at *
    grind) h1 h2
  rw [touch_iff, spans_iff, spans_iff, h0]
  refine ⟨by omega, by omega, by omega, mul_nonpos_of (by omega)⟩
/-- in the box and on the line: on the straight -/
theorem between_of_box {a b c : Point} (h0 : side a b c = 0) (h1 : (a.1 ≤ c.1 ∧ c.1 ≤ b.1) ∨ (b.1 ≤ c.1 ∧ c.1 ≤ a.1)) (h2 : (a.2 ≤ c.2 ∧ c.2 ≤ b.2) ∨ (b.2 ≤ c.2 ∧ c.2 ≤ a.2)) : between a b c = true := by
  rw [between_iff]
  refine ⟨h0, ?_, ?_⟩
  · simp only [dot, minus]
    have e1 : 0 ≤ (c.1 - a.1) * (b.1 - a.1) := mul_nonneg_of (by omega)
    have e2 : 0 ≤ (c.2 - a.2) * (b.2 - a.2) := mul_nonneg_of (by omega)
    omega
  · simp only [dot, minus]
    have e1 : 0 ≤ (b.1 - c.1) * (b.1 - a.1) := mul_nonneg_of (by omega)
    have e2 : 0 ≤ (b.2 - c.2) * (b.2 - a.2) := mul_nonneg_of (by omega)
    grind
/-- on a line that goes across, between by one number is between by the other -/
theorem other {u v x y : Int} (hu : u ≠ 0) (h : u * y = v * x) (hx : (0 ≤ x ∧ x ≤ u) ∨ (u ≤ x ∧ x ≤ 0)) : (0 ≤ y ∧ y ≤ v) ∨ (v ≤ y ∧ y ≤ 0) := by
  rcases Int.lt_or_gt_of_ne hu with c | c
  · exact ratio (n := -u) (x := y) (e := -x) (r := v) (by omega) (by grind) (by omega) (by omega)
  · exact ratio (n := u) (x := y) (e := x) (r := v) (by omega) (by grind) (by omega) (by omega)
theorem between_x {a b c : Point} (h0 : side a b c = 0) (hne : b.1 - a.1 ≠ 0) (h1 : (a.1 ≤ c.1 ∧ c.1 ≤ b.1) ∨ (b.1 ≤ c.1 ∧ c.1 ≤ a.1)) : between a b c = true := by
  have k := other (u := b.1 - a.1) (v := b.2 - a.2) (x := c.1 - a.1) (y := c.2 - a.2) hne (by
    simp only [side, cross, minus] at h0
    grind) (by omega)
  exact between_of_box h0 h1 (by omega)
theorem between_y {a b c : Point} (h0 : side a b c = 0) (hne : b.2 - a.2 ≠ 0) (h1 : (a.2 ≤ c.2 ∧ c.2 ≤ b.2) ∨ (b.2 ≤ c.2 ∧ c.2 ≤ a.2)) : between a b c = true := by
  have k := other (u := b.2 - a.2) (v := b.1 - a.1) (x := c.2 - a.2) (y := c.1 - a.1) hne (by
    simp only [side, cross, minus] at h0
    grind) (by omega)
  exact between_of_box h0 (by omega) h1
theorem sign_ne {x y : Int} (h : x * y ≤ 0) (hne : x ≠ y) : sign x ≠ sign y := by
  unfold sign
  intro e
  by_cases c1 : 0 < x
  · by_cases c2 : 0 < y
    · have := Int.mul_pos c1 c2
      omega
    · rw [if_pos c1, if_neg c2] at e
      split at e <;> omega
  · by_cases c2 : 0 < y
    · rw [if_neg c1, if_pos c2] at e
      split at e <;> omega
    · rw [if_neg c1, if_neg c2] at e
      by_cases c3 : x < 0
      · by_cases c4 : y < 0
        · have := Int.mul_pos_of_neg_of_neg c3 c4
          omega
        · rw [if_pos c3, if_neg c4] at e
          omega
      · by_cases c4 : y < 0
        · rw [if_neg c3, if_pos c4] at e
          omega
        · omega
theorem sign_mul {x y : Int} (h : sign x ≠ sign y) : (x ≤ 0 ∧ 0 ≤ y) ∨ (0 ≤ x ∧ y ≤ 0) := by
  unfold sign at h
  split at h <;> split at h <;> (try split at h) <;> (try split at h) <;> omega
theorem box_of {x y z w a b c d : Int} (hk : y - x = z - w) (he : y * c - x * d = z * b - w * a) (hx : x ≤ 0) (hy : 0 ≤ y) (hz : 0 ≤ z) (hw : w ≤ 0) (hp : 0 < y - x) : min a b ≤ max c d ∧ min c d ≤ max a b := by
  have low : ∀ {p q m : Int}, m ≤ p → m ≤ q → ∀ {s t : Int}, 0 ≤ s → t ≤ 0 → (s - t) * m ≤ s * p - t * q := fun {p q m} h1 h2 {s t} h3 h4 => by
    have e1 : 0 ≤ s * (p - m) := Int.mul_nonneg h3 (by omega)
    have e2 : 0 ≤ (-t) * (q - m) := Int.mul_nonneg (by omega) (by omega)
    grind
  have up : ∀ {p q m : Int}, p ≤ m → q ≤ m → ∀ {s t : Int}, 0 ≤ s → t ≤ 0 → s * p - t * q ≤ (s - t) * m := fun {p q m} h1 h2 {s t} h3 h4 => by
    have e1 : 0 ≤ s * (m - p) := Int.mul_nonneg h3 (by omega)
    have e2 : 0 ≤ (-t) * (m - q) := Int.mul_nonneg (by omega) (by omega)
    grind
  have fin : ∀ {m k : Int}, (y - x) * m ≤ (y - x) * k → m ≤ k := fun {m k} h => Int.le_of_mul_le_mul_left h hp
  constructor
  · have h1 := low (p := b) (q := a) (m := min a b) (by omega) (by omega) hz hw
    have h2 := up (p := c) (q := d) (m := max c d) (by omega) (by omega) hy hx
    rw [← hk] at h1
    exact fin (by omega)
  · have h1 := low (p := c) (q := d) (m := min c d) (by omega) (by omega) hy hx
    have h2 := up (p := b) (q := a) (m := max a b) (by omega) (by omega) hz hw
    rw [← hk] at h2
    exact fin (by omega)
theorem box_any {x y z w a b c d : Int} (hk : y - x = z - w) (he : y * c - x * d = z * b - w * a) (h1 : sign x ≠ sign y) (h2 : sign z ≠ sign w) : min a b ≤ max c d ∧ min c d ≤ max a b := by
  have hne : y - x ≠ 0 := fun e => h1 (by rw [show x = y by omega])
  have s1 := sign_mul h1
  have s2 := sign_mul h2
  rcases Int.lt_or_gt_of_ne hne with c1 | c1
  · exact box_of (x := -x) (y := -y) (z := -z) (w := -w) (by omega) (by grind) (by omega) (by omega) (by omega) (by omega) (by omega)
  · exact box_of hk he (by omega) (by omega) (by omega) (by omega) (by omega)
theorem touch_meet {a b c d : Point} (h : a ≠ b) (g : c ≠ d) : touch a b c d = meet c d a b := by
  have hk : side a b d - side a b c = side c d a - side c d b := by
    simp only [side, cross, minus]
    grind
  rw [Bool.eq_iff_iff]
  unfold meet
  simp only [Bool.or_eq_true, Bool.and_eq_true, bne_iff_ne, Bool.not_eq_true', beq_eq_false_iff_ne]
  constructor
  · intro t
    obtain ⟨t1, t2, t3, t4⟩ := touch_iff.mp t
    rw [spans_iff] at t1 t2
    by_cases e : side a b c = side a b d
    · right
      have e2 : side c d a = side c d b := by omega
      rw [e] at t3
      rw [e2] at t4
      have z : ∀ x : Int, x * x ≤ 0 → x = 0 := fun x hx => by
        by_cases q : x = 0
        · exact q
        · have := sq_pos q
          omega
      have e3 := z _ t3
      have e4 := z _ t4
      have e5 : side a b c = 0 := by omega
      have e6 : side c d a = 0 := by omega
      have par : (b.1 - a.1) * (d.2 - c.2) = (b.2 - a.2) * (d.1 - c.1) := by
        simp only [side, cross, minus] at e3 e5
        grind
      by_cases q : b.1 - a.1 = 0
      · have q2 : b.2 - a.2 ≠ 0 := fun w => h (Prod.ext (by omega) (by omega))
        have q3 : d.2 - c.2 ≠ 0 := fun w => by
          rw [w, q] at par
          have : (b.2 - a.2) * (d.1 - c.1) = 0 := by omega
          rcases Int.mul_eq_zero.mp this with u | u
          · exact q2 u
          · exact g (Prod.ext (by omega) (by omega))
        have four : ((c.2 ≤ a.2 ∧ a.2 ≤ d.2) ∨ (d.2 ≤ a.2 ∧ a.2 ≤ c.2)) ∨ ((c.2 ≤ b.2 ∧ b.2 ≤ d.2) ∨ (d.2 ≤ b.2 ∧ b.2 ≤ c.2)) ∨ ((a.2 ≤ c.2 ∧ c.2 ≤ b.2) ∨ (b.2 ≤ c.2 ∧ c.2 ≤ a.2)) ∨ ((a.2 ≤ d.2 ∧ d.2 ≤ b.2) ∨ (b.2 ≤ d.2 ∧ d.2 ≤ a.2)) := by omega
        rcases four with w | w | w | w
        · exact .inl (between_y e6 q3 w)
        · exact .inr (.inl (between_y e4 q3 w))
        · exact .inr (.inr (.inl (between_y e5 q2 w)))
        · exact .inr (.inr (.inr (between_y e3 q2 w)))
      · have q3 : d.1 - c.1 ≠ 0 := fun w => by
          rw [w] at par
          have : (b.1 - a.1) * (d.2 - c.2) = 0 := by omega
          rcases Int.mul_eq_zero.mp this with u | u
          · exact q u
          · exact g (Prod.ext (by omega) (by omega))
        have four : ((c.1 ≤ a.1 ∧ a.1 ≤ d.1) ∨ (d.1 ≤ a.1 ∧ a.1 ≤ c.1)) ∨ ((c.1 ≤ b.1 ∧ b.1 ≤ d.1) ∨ (d.1 ≤ b.1 ∧ b.1 ≤ c.1)) ∨ ((a.1 ≤ c.1 ∧ c.1 ≤ b.1) ∨ (b.1 ≤ c.1 ∧ c.1 ≤ a.1)) ∨ ((a.1 ≤ d.1 ∧ d.1 ≤ b.1) ∨ (b.1 ≤ d.1 ∧ d.1 ≤ a.1)) := by omega
        rcases four with w | w | w | w
        · exact .inl (between_x e6 q3 w)
        · exact .inr (.inl (between_x e4 q3 w))
        · exact .inr (.inr (.inl (between_x e5 q w)))
        · exact .inr (.inr (.inr (between_x e3 q w)))
    · left
      exact ⟨⟨⟨sign_ne t4 (by omega), sign_ne t3 e⟩, g⟩, h⟩
  · rintro (⟨⟨⟨s1, s2⟩, _⟩, _⟩ | m | m | m | m)
    · have b1 := box_any (a := a.1) (b := b.1) (c := c.1) (d := d.1) hk (by
        simp only [side, cross, minus]
        grind) s2 s1
      have b2 := box_any (a := a.2) (b := b.2) (c := c.2) (d := d.2) hk (by
        simp only [side, cross, minus]
        grind) s2 s1
      rw [touch_iff, spans_iff, spans_iff]
      have m1 := sign_mul s1
      have m2 := sign_mul s2
      exact ⟨b1, b2, mul_nonpos_of (by omega), mul_nonpos_of (by omega)⟩
    · rw [touch_swap]
      exact touch_of_between b g m
    · rw [touch_swap, touch_flip]
      exact touch_of_between a g m
    · exact touch_of_between d h m
    · rw [touch_flip]
      exact touch_of_between c h m
end Bc

namespace Bc
open BnC
/-! ### shadows: where a coast touches the straight from a light -/
abbrev Bd := Int × Int × Int
def along (s w : Point) : Bd := (-w.2, w.1, cross s w)
def holds (b : Bd) (p : Point) : Bool := decide (0 ≤ b.1 * p.1 + b.2.1 * p.2 + b.2.2)
def nearer (f g : Point) : Point := if dot f f < dot g g then f else g
def lineShad (l : Point) (c : Coast) : List Bd :=
  let f := way l c.1
  let g := way l c.2
  if f.1 * g.1 + f.2 * g.2 ≤ 0 then [] else
    let w := nearer f g
    let n : Point := (l.1 + w.1, l.2 + w.2)
    [along n w, along n (-w.1, -w.2), along n (w.2, -w.1)]
def shad (l : Point) (c : Coast) : List Bd :=
  let s := cross (way l c.1) (way l c.2)
  if s = 0 then lineShad l c else
    let a := if s < 0 then c.2 else c.1
    let b := if s < 0 then c.1 else c.2
    [along l (way l a), along b (way b l), along b (way b a)]
def inShad (b : List Bd) (p : Point) : Bool := b.all fun x => holds x p
theorem holds_along (s w p : Point) : holds (along s w) p = decide (0 ≤ cross w (minus p s)) := by
  unfold holds along
  congr 1
  simp only [cross, minus, eq_iff_iff]
  have : -w.2 * p.1 + w.1 * p.2 + (s.1 * w.2 - s.2 * w.1) = w.1 * (p.2 - s.2) - w.2 * (p.1 - s.1) := by grind
  rw [this]
theorem sign_alike {x y s t : Int} (hs : 0 < s) (ht : 0 < t) (h : s * x = t * y) : sign x = sign y := by
  unfold sign
  rcases Int.lt_trichotomy x 0 with c | c | c
  · have h1 := Int.mul_neg_of_pos_of_neg hs c
    have : y < 0 := by
      by_cases q : y < 0
      · exact q
      · have := Int.mul_nonneg (Int.le_of_lt ht) (Int.not_lt.mp q)
        omega
    rw [if_neg (by omega), if_pos c, if_neg (by omega), if_pos this]
  · subst c
    have : t * y = 0 := by rw [← h]; simp
    rcases Int.mul_eq_zero.mp this with q | q
    · omega
    · rw [q]
  · have h1 := Int.mul_pos hs c
    have : 0 < y := by
      by_cases q : 0 < y
      · exact q
      · have := Int.mul_nonpos_of_nonneg_of_nonpos (Int.le_of_lt ht) (Int.not_lt.mp q)
        omega
    rw [if_pos c, if_pos this]
/-- a coast across: three borders -/
theorem shad_pos {l c d p : Point} (hs : 0 < side l c d) : (0 ≤ side l c p ∧ side l d p ≤ 0 ∧ side c d p ≤ 0) ↔ touch l p c d = true := by
  have e1 : side l p c = - side l c p := by simp only [side, cross, minus]; grind
  have e2 : side l p d = - side l d p := by simp only [side, cross, minus]; grind
  have e3 : side c d l = side l c d := by simp only [side, cross, minus]; grind
  have e4 : side c d p = side l c d + side l d p - side l c p := by simp only [side, cross, minus]; grind
  rw [touch_iff, spans_iff, spans_iff, e1, e2, e3]
  generalize ha : side l c p = α at *
  generalize hb : side l d p = β at *
  generalize hg : side c d p = γ at *
  generalize hq : side l c d = s at *
  constructor
  · rintro ⟨h1, h2, h3⟩
    have hk : (-β) - (-α) = s - γ := by omega
    have s1 : sign (-α) ≠ sign (-β) := sign_ne (by
      have := Int.mul_nonpos_of_nonneg_of_nonpos h1 h2
      rw [Int.neg_mul_neg]; exact this) (by omega)
    have s2 : sign s ≠ sign γ := sign_ne (Int.mul_nonpos_of_nonneg_of_nonpos (by omega) h3) (by omega)
    have q1 : ∀ (i : Point → Int), (i = fun x => x.1) ∨ (i = fun x => x.2) → min (i l) (i p) ≤ max (i c) (i d) ∧ min (i c) (i d) ≤ max (i l) (i p) := fun i hi => box_any hk (by
      rcases hi with rfl | rfl
      · simp only [side, cross, minus] at *
        grind
      · simp only [side, cross, minus] at *
        grind) s1 s2
    refine ⟨q1 (fun x => x.1) (.inl rfl), q1 (fun x => x.2) (.inr rfl), ?_, Int.mul_nonpos_of_nonneg_of_nonpos (by omega) h3⟩
    rw [Int.neg_mul_neg]
    exact Int.mul_nonpos_of_nonneg_of_nonpos h1 h2
  · rintro ⟨_, _, h3, h4⟩
    have g : γ ≤ 0 := by
      by_cases q : γ ≤ 0
      · exact q
      · have := Int.mul_pos hs (Int.not_le.mp q)
        omega
    rw [Int.neg_mul_neg] at h3
    refine ⟨?_, ?_, g⟩
    · by_cases q : 0 ≤ α
      · exact q
      · have := Int.mul_pos_of_neg_of_neg (a := α) (b := β) (by omega) (by omega)
        omega
    · by_cases q : β ≤ 0
      · exact q
      · have := Int.mul_pos (a := α) (b := β) (by omega) (by omega)
        omega
theorem all3 {b c d : Bd} {p : Point} : inShad [b, c, d] p = (holds b p && (holds c p && holds d p)) := by
  simp [inShad]
/-- numbers along a line -/
theorem line_fact {f q r : Point} (h : cross f q = 0) : dot q r * dot f f = dot f q * dot f r := by
  simp only [cross, dot] at *
  grind
theorem dot_pos {f : Point} (h : f ≠ (0, 0)) : 0 < dot f f := by
  have := len_pos (a := (0, 0)) (b := f) (fun z => h z.symm)
  simpa [minus] using this
theorem mul_le_of {x y s : Int} (hs : 0 < s) (h : s * x ≤ s * y) : x ≤ y := Int.le_of_mul_le_mul_left h hs
theorem shad_line {l c d p : Point} (hcd : c ≠ d) (hp : l ≠ p) (h0 : side l c d = 0) : inShad (lineShad l (c, d)) p = touch l p c d := by
  have hm := touch_meet hp hcd
  obtain ⟨f, hf⟩ : ∃ f, f = minus c l := ⟨_, rfl⟩
  obtain ⟨g, hg⟩ : ∃ g, g = minus d l := ⟨_, rfl⟩
  obtain ⟨q, hq⟩ : ∃ q, q = minus p l := ⟨_, rfl⟩
  have hfg : cross f g = 0 := by rw [hf, hg]; exact h0
  have qne : q ≠ (0, 0) := fun z => hp (by
    rw [hq] at z
    have z1 := congrArg Prod.fst z
    have z2 := congrArg Prod.snd z
    simp only [minus] at z1 z2
    exact Prod.ext (by omega) (by omega))
  have qq := dot_pos qne
  have fgne : f ≠ g := fun z => hcd (by
    rw [hf, hg] at z
    have z1 := congrArg Prod.fst z
    have z2 := congrArg Prod.snd z
    simp only [minus] at z1 z2
    exact Prod.ext (by omega) (by omega))
  have dd : 0 < dot (minus g f) (minus g f) := len_pos fgne
  -- the parts in f, g, q
  have s1 : side l p c = - cross f q := by rw [hf, hq]; simp only [side, cross, minus]; grind
  have s2 : side l p d = - cross g q := by rw [hg, hq]; simp only [side, cross, minus]; grind
  have b0 : between c d l = true ↔ 0 ≤ dot f f - dot f g ∧ 0 ≤ dot g g - dot f g := by
    rw [between_iff]
    have e1 : side c d l = cross f g := by rw [hf, hg]; simp only [side, cross, minus]; grind
    have e2 : dot (minus l c) (minus d c) = dot f f - dot f g := by rw [hf, hg]; simp only [dot, minus]; grind
    have e3 : dot (minus d c) (minus d c) = dot f f - dot f g + (dot g g - dot f g) := by rw [hf, hg]; simp only [dot, minus]; grind
    rw [e1, e2, e3, hfg]
    omega
  have b1 : between c d p = true ↔ (cross (minus g f) (minus q f) = 0) ∧ 0 ≤ dot (minus q f) (minus g f) ∧ dot (minus q f) (minus g f) ≤ dot (minus g f) (minus g f) := by
    rw [between_iff]
    have e0 : minus d c = minus g f := by rw [hf, hg]; simp only [minus]; exact Prod.ext (by dsimp only; omega) (by dsimp only; omega)
    have e1 : minus p c = minus q f := by rw [hf, hq]; simp only [minus]; exact Prod.ext (by dsimp only; omega) (by dsimp only; omega)
    unfold side
    rw [e0, e1]
  have b2 : between l p c = true ↔ cross f q = 0 ∧ 0 ≤ dot f q ∧ dot f q ≤ dot q q := by
    rw [between_iff, s1, ← hq, ← hf]
    constructor <;> rintro ⟨u, v⟩ <;> exact ⟨by omega, v⟩
  have b3 : between l p d = true ↔ cross g q = 0 ∧ 0 ≤ dot g q ∧ dot g q ≤ dot q q := by
    rw [between_iff, s2, ← hq, ← hg]
    constructor <;> rintro ⟨u, v⟩ <;> exact ⟨by omega, v⟩
  have fold : lineShad l (c, d) = if dot f g ≤ 0 then [] else [along (l.1 + (nearer f g).1, l.2 + (nearer f g).2) (nearer f g), along (l.1 + (nearer f g).1, l.2 + (nearer f g).2) (-(nearer f g).1, -(nearer f g).2), along (l.1 + (nearer f g).1, l.2 + (nearer f g).2) ((nearer f g).2, -(nearer f g).1)] := by
    rw [hf, hg]
    rfl
  rw [fold]
  by_cases hd : dot f g ≤ 0
  · rw [if_pos hd, hm]
    have fp : 0 ≤ dot f f := by have h1 := sq_nonneg f.1; have h2 := sq_nonneg f.2; unfold dot; omega
    have gp : 0 ≤ dot g g := by have h1 := sq_nonneg g.1; have h2 := sq_nonneg g.2; unfold dot; omega
    have := b0.mpr ⟨by omega, by omega⟩
    show true = _
    unfold meet
    rw [this]
    simp
  · rw [if_neg hd]
    have hG : 0 < dot f g := by omega
    have fne : f ≠ (0, 0) := fun z => by rw [z] at hG; simp [dot] at hG
    have gne : g ≠ (0, 0) := fun z => by rw [z] at hG; simp [dot] at hG
    have hF := dot_pos fne
    have hgg := dot_pos gne
    have k1 : dot g g * dot f f = dot f g * dot f g := line_fact hfg
    have fgcross : ∀ x, cross f x * dot f g = cross g x * dot f f := fun x => by simp only [cross, dot] at *; grind
    -- near on the line or not
    have key : ∀ n : Point, (n = f ∨ n = g) → (inShad [along (l.1 + n.1, l.2 + n.2) n, along (l.1 + n.1, l.2 + n.2) (-n.1, -n.2), along (l.1 + n.1, l.2 + n.2) (n.2, -n.1)] p = true ↔ cross f q = 0 ∧ dot n f ≤ dot f q) := fun n hn => by
      rw [all3, holds_along, holds_along, holds_along]
      simp only [Bool.and_eq_true, decide_eq_true_iff]
      have e1 : cross n (minus p (l.1 + n.1, l.2 + n.2)) = cross n q := by rw [hq]; simp only [cross, minus]; grind
      have e2 : cross (-n.1, -n.2) (minus p (l.1 + n.1, l.2 + n.2)) = - cross n q := by rw [hq]; simp only [cross, minus]; grind
      have e3 : cross (n.2, -n.1) (minus p (l.1 + n.1, l.2 + n.2)) = dot n q - dot n n := by rw [hq]; simp only [cross, minus, dot]; grind
      rw [e1, e2, e3]
      have z : cross n q = 0 ↔ cross f q = 0 := by
        rcases hn with rfl | rfl
        · exact Iff.rfl
        · have := fgcross q
          constructor
          · intro w
            rw [w, Int.zero_mul] at this
            rcases Int.mul_eq_zero.mp this with u | u
            · exact u
            · omega
          · intro w
            rw [w, Int.zero_mul] at this
            rcases Int.mul_eq_zero.mp this.symm with u | u
            · exact u
            · omega
      constructor
      · rintro ⟨h1, h2, h3⟩
        have w : cross f q = 0 := z.mp (by omega)
        refine ⟨w, ?_⟩
        rcases hn with rfl | rfl
        · omega
        · -- dot g q ≥ dot g g, so dot f q ≥ dot f g
          have a1 : dot q n * dot f f = dot f q * dot f n := line_fact w
          have a2 : dot q n = dot n q := by simp only [dot]; grind
          have a3 : dot n f = dot f n := by simp only [dot]; grind
          have a4 := Int.mul_le_mul_of_nonneg_right (show dot n n ≤ dot n q by omega) (Int.le_of_lt hF)
          rw [k1] at a4
          rw [a2] at a1
          rw [a1] at a4
          rw [a3]
          exact mul_le_of hG (by rw [Int.mul_comm (dot f n) (dot f q)]; exact a4)
      · rintro ⟨w, h3⟩
        have w2 := z.mpr w
        refine ⟨by omega, by omega, ?_⟩
        rcases hn with rfl | rfl
        · omega
        · have a1 : dot q n * dot f f = dot f q * dot f n := line_fact w
          have a2 : dot q n = dot n q := by simp only [dot]; grind
          have a3 : dot n f = dot f n := by simp only [dot]; grind
          rw [a3] at h3
          have a4 := Int.mul_le_mul_of_nonneg_left h3 (Int.le_of_lt hG)
          have a5 : dot n n ≤ dot n q := mul_le_of hF (by
            rw [Int.mul_comm _ (dot n n), k1, Int.mul_comm _ (dot n q), ← a2, a1, Int.mul_comm (dot f q)]
            exact a4)
          omega
    have near : inShad [along (l.1 + (nearer f g).1, l.2 + (nearer f g).2) (nearer f g), along (l.1 + (nearer f g).1, l.2 + (nearer f g).2) (-(nearer f g).1, -(nearer f g).2), along (l.1 + (nearer f g).1, l.2 + (nearer f g).2) ((nearer f g).2, -(nearer f g).1)] p = true ↔ cross f q = 0 ∧ (dot f f ≤ dot f q ∨ dot f g ≤ dot f q) := by
      have nr : nearer f g = f ∨ nearer f g = g := by
        unfold nearer
        split
        · exact .inl rfl
        · exact .inr rfl
      rw [key (nearer f g) nr]
      have gf : dot g f = dot f g := by simp only [dot]; grind
      unfold nearer
      -- the nearer one by numbers along the line
      have cmp1 : dot f f < dot g g → dot f f ≤ dot f g := fun h => by
        by_cases x : dot f f ≤ dot f g
        · exact x
        · have u1 := Int.mul_lt_mul_of_pos_left (show dot f g < dot f f by omega) hG
          have u2 := Int.mul_lt_mul_of_pos_right h hF
          have u3 := Int.mul_lt_mul_of_pos_right (show dot f g < dot f f by omega) hF
          omega
      have cmp2 : ¬ dot f f < dot g g → dot f g ≤ dot f f := fun h => by
        by_cases x : dot f g ≤ dot f f
        · exact x
        · have u1 := Int.mul_lt_mul_of_pos_left (show dot f f < dot f g by omega) hG
          have u2 := Int.mul_le_mul_of_nonneg_right (show dot g g ≤ dot f f by omega) (Int.le_of_lt hF)
          have u3 := Int.mul_lt_mul_of_pos_right (show dot f f < dot f g by omega) hF
          omega
      by_cases x : dot f f < dot g g
      · rw [if_pos x]
        have := cmp1 x
        constructor
        · rintro ⟨u, v⟩; exact ⟨u, .inl v⟩
        · rintro ⟨u, v | v⟩ <;> exact ⟨u, by omega⟩
      · rw [if_neg x, gf]
        have := cmp2 x
        constructor
        · rintro ⟨u, v⟩; exact ⟨u, .inr v⟩
        · rintro ⟨u, v | v⟩ <;> exact ⟨u, by omega⟩
    rw [Bool.eq_iff_iff, near, hm]
    have qpos : cross f q = 0 → dot f q ≠ 0 := fun w z => by
      have a := line_fact (r := q) w
      rw [z, Int.zero_mul] at a
      rcases Int.mul_eq_zero.mp a with u | u <;> omega
    unfold meet
    simp only [Bool.or_eq_true, Bool.and_eq_true, bne_iff_ne, Bool.not_eq_true', beq_eq_false_iff_ne]
    rw [b0, b1, b2, b3, s1, s2]
    constructor
    · rintro ⟨w, v⟩
      right
      have a1 : dot q q * dot f f = dot f q * dot f q := line_fact w
      have wg : cross g q = 0 := by
        have := fgcross q
        rw [w, Int.zero_mul] at this
        rcases Int.mul_eq_zero.mp this.symm with u | u
        · exact u
        · omega
      rcases v with v | v
      · right; right; left
        refine ⟨w, by omega, ?_⟩
        exact mul_le_of hF (by
          rw [Int.mul_comm _ (dot q q), a1]
          exact Int.mul_le_mul_of_nonneg_right v (by omega))
      · right; right; right
        have a2 : dot q g * dot f f = dot f q * dot f g := line_fact w
        have a3 : dot q g = dot g q := by simp only [dot]; grind
        rw [a3] at a2
        refine ⟨wg, ?_, ?_⟩
        · by_cases x : 0 ≤ dot g q
          · exact x
          · have u := Int.mul_neg_of_neg_of_pos (show dot g q < 0 by omega) hF
            have u2 := Int.mul_pos (show 0 < dot f q by omega) hG
            omega
        · exact mul_le_of hF (by
            rw [Int.mul_comm _ (dot g q), Int.mul_comm _ (dot q q), a1, a2]
            exact Int.mul_le_mul_of_nonneg_left v (by omega))
    · rintro (⟨⟨⟨_, hsg⟩, _⟩, _⟩ | ⟨u1, u2⟩ | ⟨u1, u2, u3⟩ | ⟨u1, u2, u3⟩ | ⟨u1, u2, u3⟩)
      · exfalso
        refine hsg (sign_alike hG hF ?_)
        have := fgcross q
        grind
      · exfalso
        -- both at one place
        have v1 := Int.mul_nonneg (a := dot g g) (b := dot f f - dot f g) (by omega) (by omega)
        have v2 := Int.mul_nonneg (a := dot f g) (b := dot g g - dot f g) (by omega) (by omega)
        have e : dot (minus g f) (minus g f) = (dot f f - dot f g) + (dot g g - dot f g) := by simp only [dot, minus]; grind
        rw [e] at dd
        have v3 : dot g g * (dot f f - dot f g) + dot f g * (dot g g - dot f g) = 0 := by grind
        have v4 : dot g g * (dot f f - dot f g) = 0 := by omega
        have v5 : dot f g * (dot g g - dot f g) = 0 := by omega
        rcases Int.mul_eq_zero.mp v4 with z | z
        · omega
        · rcases Int.mul_eq_zero.mp v5 with z2 | z2 <;> omega
      · -- on the coast
        have w : cross f q = 0 := by
          -- f and g - f go along one line
          have e1 : cross (minus g f) (minus q f) * dot f f = (dot f g - dot f f) * cross f q := by simp only [cross, dot, minus] at *; grind
          rw [u1, Int.zero_mul] at e1
          rcases Int.mul_eq_zero.mp e1.symm with z | z
          · exfalso
            have e2 : dot (minus g f) (minus g f) * dot f f = (dot f g - dot f f) * (dot f g - dot f f) := by simp only [cross, dot, minus] at *; grind
            rw [z, Int.zero_mul] at e2
            rcases Int.mul_eq_zero.mp e2 with y | y <;> omega
          · exact z
        refine ⟨w, ?_⟩
        have e1 : dot (minus q f) (minus g f) * dot f f = (dot f q - dot f f) * (dot f g - dot f f) := by simp only [cross, dot, minus] at *; grind
        have e2 : dot (minus g f) (minus g f) * dot f f = (dot f g - dot f f) * (dot f g - dot f f) := by simp only [cross, dot, minus] at *; grind
        by_cases x : dot f f ≤ dot f q
        · exact .inl x
        · right
          by_cases y : dot f g ≤ dot f q
          · exact y
          · exfalso
            -- below both
            have v0 := Int.mul_nonneg u2 (Int.le_of_lt hF)
            rw [e1] at v0
            have v1 := Int.mul_le_mul_of_nonneg_right u3 (Int.le_of_lt hF)
            rw [e1, e2] at v1
            have v2 : dot f g - dot f f ≤ 0 := by
              by_cases c : dot f g - dot f f ≤ 0
              · exact c
              · have := Int.mul_neg_of_neg_of_pos (show dot f q - dot f f < 0 by omega) (show 0 < dot f g - dot f f by omega)
                omega
            have v3 : dot f g - dot f f ≠ 0 := fun c => by
              rw [c, Int.zero_mul] at e2
              rcases Int.mul_eq_zero.mp e2 with z | z <;> omega
            have v4 := Int.mul_lt_mul_of_neg_right (show dot f q - dot f f < dot f g - dot f f by omega) (show dot f g - dot f f < 0 by omega)
            omega
      · refine ⟨u1, .inl ?_⟩
        have a1 : dot q q * dot f f = dot f q * dot f q := line_fact u1
        have := qpos u1
        have v := Int.mul_le_mul_of_nonneg_right u3 (Int.le_of_lt hF)
        rw [a1] at v
        exact mul_le_of (s := dot f q) (by omega) v
      · have w : cross f q = 0 := by
          have := fgcross q
          rw [u1, Int.zero_mul] at this
          rcases Int.mul_eq_zero.mp this with z | z
          · exact z
          · omega
        refine ⟨w, .inr ?_⟩
        have a1 : dot q q * dot f f = dot f q * dot f q := line_fact w
        have a2 : dot q g * dot f f = dot f q * dot f g := line_fact w
        have a3 : dot q g = dot g q := by simp only [dot]; grind
        rw [a3] at a2
        have := qpos w
        have v0 := Int.mul_nonneg u2 (Int.le_of_lt hF)
        rw [a2] at v0
        have v1 := Int.mul_le_mul_of_nonneg_right u3 (Int.le_of_lt hF)
        rw [a1, a2] at v1
        have pos : 0 < dot f q := by
          by_cases x : 0 < dot f q
          · exact x
          · have := Int.mul_neg_of_neg_of_pos (show dot f q < 0 by omega) hG
            omega
        exact mul_le_of pos v1
theorem shad_is {l c d p : Point} (hcd : c ≠ d) (hp : l ≠ p) : inShad (shad l (c, d)) p = meet c d l p := by
  rw [← touch_meet hp hcd]
  unfold shad
  dsimp only
  have e : cross (way l c) (way l d) = side l c d := rfl
  rw [e]
  by_cases h0 : side l c d = 0
  · rw [if_pos h0]
    exact shad_line hcd hp h0
  · rw [if_neg h0]
    have go : ∀ a b : Point, 0 < side l a b → inShad [along l (way l a), along b (way b l), along b (way b a)] p = touch l p a b := fun a b h => by
      rw [Bool.eq_iff_iff, ← shad_pos h, all3, holds_along, holds_along, holds_along]
      simp only [Bool.and_eq_true, decide_eq_true_iff]
      have e1 : cross (way l a) (minus p l) = side l a p := rfl
      have e2 : cross (way b l) (minus p b) = - side l b p := by simp only [side, cross, way, minus]; grind
      have e3 : cross (way b a) (minus p b) = - side a b p := by simp only [side, cross, way, minus]; grind
      rw [e1, e2, e3]
      omega
    by_cases h1 : side l c d < 0
    · rw [if_pos h1, if_pos h1, touch_flip]
      refine go d c ?_
      have : side l d c = - side l c d := by simp only [side, cross, minus]; grind
      omega
    · rw [if_neg h1, if_neg h1]
      exact go c d (by omega)
end Bc

namespace Bc
open BnC
/-! ### walks: places in a row -/
abbrev Wk := Point × Point × Nat
def atW (w : Wk) (k : Nat) : Point := (w.1.1 + (k : Int) * w.2.1.1, w.1.2 + (k : Int) * w.2.1.2)
def placesOn (w : Wk) : List Point := (List.range w.2.2).map (atW w)
def placesOver (ws : List Wk) : List Point := ws.flatMap placesOn
def within1 (s d : Point) (fl : Int × Int) (b : Bd) : Int × Int :=
  let e := b.1 * s.1 + b.2.1 * s.2 + b.2.2
  let g := b.1 * d.1 + b.2.1 * d.2
  if 0 < g then (max fl.1 (-(e / g)), fl.2) else if g < 0 then (fl.1, min fl.2 (e / -g)) else if e < 0 then (fl.1, -1) else fl
def within (bs : List Bd) (w : Wk) : Int × Int := bs.foldl (within1 w.1 w.2.1) (0, (w.2.2 : Int) - 1)
theorem holds_at (b : Bd) (w : Wk) (k : Nat) : holds b (atW w k) = decide (0 ≤ (b.1 * w.1.1 + b.2.1 * w.1.2 + b.2.2) + (k : Int) * (b.1 * w.2.1.1 + b.2.1 * w.2.1.2)) := by
  unfold holds atW
  congr 1
  rw [eq_iff_iff]
  have : b.1 * (w.1.1 + (k : Int) * w.2.1.1) + b.2.1 * (w.1.2 + (k : Int) * w.2.1.2) + b.2.2 = (b.1 * w.1.1 + b.2.1 * w.1.2 + b.2.2) + (k : Int) * (b.1 * w.2.1.1 + b.2.1 * w.2.1.2) := by grind
  dsimp only
  rw [this]
theorem ceil_iff {e g k : Int} (hg : 0 < g) : -(e / g) ≤ k ↔ 0 ≤ e + k * g := by
  have h : -k ≤ e / g ↔ -k * g ≤ e := Int.le_ediv_iff_mul_le hg
  rw [Int.neg_mul] at h
  constructor
  · intro a
    have := h.mp (by omega)
    omega
  · intro a
    have := h.mpr (by omega)
    omega
theorem floor_iff {e g k : Int} (hg : g < 0) : k ≤ e / -g ↔ 0 ≤ e + k * g := by
  have h : k ≤ e / -g ↔ k * -g ≤ e := Int.le_ediv_iff_mul_le (by omega)
  rw [Int.mul_neg] at h
  rw [h]
  omega
theorem within1_is (w : Wk) (fl : Int × Int) (b : Bd) (h0 : 0 ≤ fl.1) (h1 : fl.2 < w.2.2) : 0 ≤ (within1 w.1 w.2.1 fl b).1 ∧ (within1 w.1 w.2.1 fl b).2 < w.2.2 ∧
    ∀ k : Nat, ((within1 w.1 w.2.1 fl b).1 ≤ k ∧ (k : Int) ≤ (within1 w.1 w.2.1 fl b).2) ↔ ((fl.1 ≤ k ∧ (k : Int) ≤ fl.2) ∧ holds b (atW w k) = true) := by
  unfold within1
  dsimp only
  have hh := holds_at b w
  generalize b.1 * w.1.1 + b.2.1 * w.1.2 + b.2.2 = e at *
  generalize b.1 * w.2.1.1 + b.2.1 * w.2.1.2 = g at *
  by_cases c : 0 < g
  · rw [if_pos c]
    refine ⟨by dsimp only; omega, h1, fun k => ?_⟩
    have := ceil_iff (e := e) (k := k) c
    rw [hh, decide_eq_true_iff]
    dsimp only
    omega
  · rw [if_neg c]
    by_cases d : g < 0
    · rw [if_pos d]
      refine ⟨h0, by dsimp only; omega, fun k => ?_⟩
      have := floor_iff (e := e) (k := k) d
      rw [hh, decide_eq_true_iff]
      dsimp only
      omega
    · rw [if_neg d]
      have g0 : g = 0 := by omega
      subst g0
      by_cases f : e < 0
      · rw [if_pos f]
        refine ⟨h0, by dsimp only; omega, fun k => ?_⟩
        rw [hh, decide_eq_true_iff]
        dsimp only
        omega
      · rw [if_neg f]
        refine ⟨h0, h1, fun k => ?_⟩
        rw [hh, decide_eq_true_iff]
        omega
theorem within_go (w : Wk) : ∀ (bs : List Bd) (fl : Int × Int), 0 ≤ fl.1 → fl.2 < w.2.2 → 0 ≤ (bs.foldl (within1 w.1 w.2.1) fl).1 ∧ (bs.foldl (within1 w.1 w.2.1) fl).2 < w.2.2 ∧
    ∀ k : Nat, ((bs.foldl (within1 w.1 w.2.1) fl).1 ≤ k ∧ (k : Int) ≤ (bs.foldl (within1 w.1 w.2.1) fl).2) ↔ ((fl.1 ≤ k ∧ (k : Int) ≤ fl.2) ∧ inShad bs (atW w k) = true)
  | [], fl, h0, h1 => ⟨h0, h1, fun k => by simp [inShad]⟩
  | b :: bs, fl, h0, h1 => by
    obtain ⟨g0, g1, g2⟩ := within1_is w fl b h0 h1
    obtain ⟨f0, f1, f2⟩ := within_go w bs (within1 w.1 w.2.1 fl b) g0 g1
    refine ⟨f0, f1, fun k => ?_⟩
    rw [List.foldl_cons, f2 k, g2 k]
    have : inShad (b :: bs) (atW w k) = (holds b (atW w k) && inShad bs (atW w k)) := rfl
    rw [this, Bool.and_eq_true, and_assoc]
theorem within_is (w : Wk) (bs : List Bd) : 0 ≤ (within bs w).1 ∧ (within bs w).2 < w.2.2 ∧ ∀ k : Nat, k < w.2.2 → (((within bs w).1 ≤ k ∧ (k : Int) ≤ (within bs w).2) ↔ inShad bs (atW w k) = true) := by
  obtain ⟨h0, h1, h2⟩ := within_go w bs (0, (w.2.2 : Int) - 1) (by dsimp only; omega) (by dsimp only; omega)
  refine ⟨h0, h1, fun k hk => ?_⟩
  unfold within
  rw [h2 k]
  dsimp only
  constructor
  · exact fun x => x.2
  · exact fun x => ⟨by omega, x⟩
def hiddenOn (ss : List (List Bd)) (w : Wk) : List Bool := (List.range w.2.2).map fun k => ss.any fun b => inShad b (atW w k)
/-! ### fields -/
def walksOver (a b : Point) : List Wk :=
  let wd := b.1 - a.1 + 1
  let ht := b.2 - a.2 + 1
  if ht ≤ wd then (List.range ht.toNat).map fun (j : Nat) => ((a.1, a.2 + (j : Int)), (1, 0), wd.toNat) else (List.range wd.toNat).map fun (i : Nat) => ((a.1 + (i : Int), a.2), (0, 1), ht.toNat)
theorem pairwise_range_map {α : Type} {R : α → α → Prop} (f : Nat → α) (n : Nat) (h : ∀ i j, i < j → j < n → R (f i) (f j)) : ((List.range n).map f).Pairwise R := by
  rw [List.pairwise_map]
  refine List.Pairwise.imp_of_mem ?_ List.pairwise_lt_range
  intro a b ha hb hab
  exact h a b hab (List.mem_range.mp hb)
def rowLt (p q : Point) : Prop := p.2 < q.2 ∨ (p.2 = q.2 ∧ p.1 < q.1)
theorem field_rows (a b : Point) : (field a b).Pairwise rowLt := by
  unfold field
  rw [List.flatMap_def, List.pairwise_flatten]
  constructor
  · intro l hl
    obtain ⟨j, hj, rfl⟩ := List.mem_map.mp hl
    exact pairwise_range_map _ _ fun i k hik _ => .inr ⟨rfl, by dsimp only; omega⟩
  · refine pairwise_range_map _ _ fun i k hik _ x hx y hy => ?_
    obtain ⟨p, _, rfl⟩ := List.mem_map.mp hx
    obtain ⟨q, _, rfl⟩ := List.mem_map.mp hy
    exact .inl (by dsimp only; omega)
theorem rowLt_ne {p q : Point} (h : rowLt p q) : p ≠ q := by
  rintro rfl
  rcases h with h | h <;> omega
theorem mem_field {a b p : Point} : p ∈ field a b ↔ a.1 ≤ p.1 ∧ p.1 ≤ b.1 ∧ a.2 ≤ p.2 ∧ p.2 ≤ b.2 := by
  unfold field
  rw [List.mem_flatMap]
  constructor
  · rintro ⟨j, hj, hp⟩
    obtain ⟨i, hi, rfl⟩ := List.mem_map.mp hp
    rw [List.mem_range] at hi hj
    dsimp only
    omega
  · rintro ⟨h1, h2, h3, h4⟩
    refine ⟨(p.2 - a.2).toNat, List.mem_range.mpr (by omega), List.mem_map.mpr ⟨(p.1 - a.1).toNat, List.mem_range.mpr (by omega), Prod.ext ?_ ?_⟩⟩
    · dsimp only; omega
    · dsimp only; omega
theorem places_rows (a b : Point) (h : b.2 - a.2 + 1 ≤ b.1 - a.1 + 1) : placesOver (walksOver a b) = field a b := by
  unfold placesOver walksOver field
  dsimp only
  rw [if_pos h, List.flatMap_map]
  congr 1
  funext j
  unfold placesOn atW
  dsimp only
  apply List.map_congr_left fun k _ => ?_
  refine Prod.ext ?_ ?_
  · dsimp only; omega
  · dsimp only; omega
theorem places_perm (a b : Point) : (placesOver (walksOver a b)).Perm (field a b) := by
  by_cases h : b.2 - a.2 + 1 ≤ b.1 - a.1 + 1
  · rw [places_rows a b h]
  · have n1 : (placesOver (walksOver a b)).Nodup := by
      unfold placesOver walksOver
      dsimp only
      rw [if_neg h, List.flatMap_map, List.flatMap_def]
      show List.Pairwise (fun x y => x ≠ y) _
      rw [List.pairwise_flatten]
      constructor
      · intro l hl
        obtain ⟨j, hj, rfl⟩ := List.mem_map.mp hl
        refine pairwise_range_map _ _ fun i k hik _ z => ?_
        have := congrArg Prod.snd z
        unfold atW at this
        dsimp only at this
        omega
      · refine pairwise_range_map (R := fun l m => ∀ x ∈ l, ∀ y ∈ m, x ≠ y) _ _ fun i k hik _ x hx y hy z => ?_
        obtain ⟨p, _, rfl⟩ := List.mem_map.mp hx
        obtain ⟨q, _, rfl⟩ := List.mem_map.mp hy
        have := congrArg Prod.fst z
        unfold atW at this
        dsimp only at this
        omega
    have n2 : (field a b).Nodup := (field_rows a b).imp fun h => rowLt_ne h
    rw [List.perm_ext_iff_of_nodup n1 n2]
    intro p
    rw [mem_field]
    unfold placesOver walksOver
    dsimp only
    rw [if_neg h, List.flatMap_map, List.mem_flatMap]
    constructor
    · rintro ⟨i, hi, hp⟩
      obtain ⟨j, hj, rfl⟩ := List.mem_map.mp hp
      rw [List.mem_range] at hi
      have hj := List.mem_range.mp hj
      unfold atW
      dsimp only at hj ⊢
      omega
    · rintro ⟨h1, h2, h3, h4⟩
      refine ⟨(p.1 - a.1).toNat, List.mem_range.mpr (by omega), List.mem_map.mpr ⟨(p.2 - a.2).toNat, List.mem_range.mpr (by dsimp only; omega), ?_⟩⟩
      unfold atW
      refine Prod.ext ?_ ?_
      · dsimp only; omega
      · dsimp only; omega
theorem mem_walks {a b : Point} {w : Wk} (h : w ∈ walksOver a b) : (w.2.1 = (1, 0) ∨ w.2.1 = (0, 1)) ∧ (w.2.2 ≤ (b.1 - a.1 + 1).toNat ∨ w.2.2 ≤ (b.2 - a.2 + 1).toNat) ∧ ∀ k < w.2.2, atW w k ∈ field a b := by
  have hp : ∀ k < w.2.2, atW w k ∈ field a b := fun k hk => by
    rw [← (places_perm a b).mem_iff]
    exact List.mem_flatMap.mpr ⟨w, h, List.mem_map.mpr ⟨k, List.mem_range.mpr hk, rfl⟩⟩
  unfold walksOver at h
  dsimp only at h
  split at h
  · obtain ⟨j, _, rfl⟩ := List.mem_map.mp h
    exact ⟨.inl rfl, .inl (Nat.le_refl _), hp⟩
  · obtain ⟨j, _, rfl⟩ := List.mem_map.mp h
    exact ⟨.inr rfl, .inr (Nat.le_refl _), hp⟩
/-! ### sorted by rows -/
theorem sorted_unique : ∀ {l m : List Point}, l.Perm m → l.Pairwise (fun p q => p.2 < q.2 ∨ (p.2 = q.2 ∧ p.1 ≤ q.1)) → m.Pairwise rowLt → l = m := by
  intro l m hp hl hm
  refine List.Perm.eq_of_pairwise (le := fun p q => p.2 < q.2 ∨ (p.2 = q.2 ∧ p.1 ≤ q.1)) ?_ hl (hm.imp fun {p q} h => ?_) hp
  · intro p q _ _ h1 h2
    exact Prod.ext (by omega) (by omega)
  · rcases h with h | h
    · exact .inl h
    · exact .inr ⟨h.1, by omega⟩
theorem sorted_field {l : List Point} {a b : Point} {f : Point → Bool} (h : l.Perm ((field a b).filter f)) : l.mergeSort (fun p q => decide (p.2 < q.2 ∨ (p.2 = q.2 ∧ p.1 ≤ q.1))) = (field a b).filter f := by
  refine sorted_unique ((List.mergeSort_perm _ _).trans h) ?_ ((field_rows a b).filter _)
  have := List.pairwise_mergeSort (le := fun p q : Point => decide (p.2 < q.2 ∨ (p.2 = q.2 ∧ p.1 ≤ q.1))) (fun x y z h1 h2 => by
    simp only [decide_eq_true_iff] at *
    omega) (fun x y => by
    simp only [Bool.or_eq_true, decide_eq_true_iff]
    omega) l
  exact this.imp fun h => by simpa using h
/-! ### what's told -/
def prs : List Nat → Told
  | a :: b :: r => (a, b) :: prs r
  | _ => []
theorem prs_len : ∀ (t : List Nat), (prs t).length = t.length / 2
  | [] => rfl
  | [_] => by simp [prs]
  | _ :: _ :: r => by
    show (prs r).length + 1 = (r.length + 1 + 1) / 2
    rw [prs_len r]
    omega
theorem prs_at : ∀ (t : List Nat) (i : Nat), 2 * i + 1 < t.length → ∃ a b, (prs t)[i]? = some (a, b) ∧ t[2 * i]? = some a ∧ t[2 * i + 1]? = some b
  | [], i, h => by simp at h
  | [_], i, h => by simp at h
  | a :: b :: r, 0, h => ⟨a, b, rfl, rfl, rfl⟩
  | a :: b :: r, i + 1, h => by
    obtain ⟨x, y, h1, h2, h3⟩ := prs_at r i (by simp at h; omega)
    refine ⟨x, y, h1, ?_, ?_⟩
    · rw [show 2 * (i + 1) = 2 * i + 1 + 1 by omega]; exact h2
    · rw [show 2 * (i + 1) + 1 = 2 * i + 1 + 1 + 1 by omega]; exact h3
def badPairs (t : List Nat) : Bool := decide (t.length % 2 ≠ 0) || ((prs t).any fun x => decide (4 < x.2))
theorem toldIn_is : ∀ (t : List Nat), Wqatdz.toldIn t = if badPairs t = true then none else some (prs t)
  | [] => rfl
  | [_] => rfl
  | a :: b :: r => by
    show (if b ≤ 4 then (Wqatdz.toldIn r).map fun l => (a, b) :: l else none) = _
    rw [toldIn_is r]
    have e : badPairs (a :: b :: r) = (decide (4 < b) || badPairs r) := by
      unfold badPairs
      show (decide ((r.length + 1 + 1) % 2 ≠ 0) || (decide (4 < b) || (prs r).any fun x => decide (4 < x.2))) = _
      rw [show (r.length + 1 + 1) % 2 = r.length % 2 by omega]
      cases decide (r.length % 2 ≠ 0) <;> cases decide (4 < b) <;> rfl
    rw [e]
    by_cases c : b ≤ 4
    · rw [if_pos c, decide_eq_false (by omega), Bool.false_or]
      by_cases d : badPairs r = true
      · rw [if_pos d, if_pos d]; rfl
      · rw [if_neg d, if_neg d]; rfl
    · rw [if_neg c, decide_eq_true (by omega), Bool.true_or, if_pos rfl]
def readPairs (t : List Nat) : Option Told := if (decide (t.length % 2 ≠ 0) || (decide (24 < t.length / 2) || (prs t).any fun x => decide (4 < x.2))) = true then none else some (prs t)
theorem ofField_is (s : Wqatdz.State) (a b : Point) (t : List Nat) (f : Told → Wqatdz.Ans) : Wqatdz.ofField s a b t f =
    if Wqatdz.isPlace a = false ∨ Wqatdz.isPlace b = false ∨ b.1 < a.1 ∨ b.2 < a.2 ∨ (1024 : Int) < (b.1 - a.1 + 1) * (b.2 - a.2 + 1) then Wqatdz.BAD else match readPairs t with
    | none => Wqatdz.BAD
    | some u => if (u.any fun x => decide (s.lights.length ≤ x.1)) = true then Wqatdz.NONE else f u := by
  unfold Wqatdz.ofField
  rw [toldIn_is]
  have hF : (Wqatdz.FIELD : Int) = 1024 := rfl
  rw [hF]
  by_cases c : Wqatdz.isPlace a = false ∨ Wqatdz.isPlace b = false ∨ b.1 < a.1 ∨ b.2 < a.2 ∨ (1024 : Int) < (b.1 - a.1 + 1) * (b.2 - a.2 + 1)
  · rw [if_pos c, if_pos c]
  · rw [if_neg c, if_neg c]
    unfold readPairs badPairs
    have hl := prs_len t
    cases h1 : decide (t.length % 2 ≠ 0) <;> cases h3 : (prs t).any (fun x => decide (4 < x.2)) <;> by_cases h2 : 24 < t.length / 2
    all_goals first
      | (rw [decide_eq_true h2])
      | (rw [decide_eq_false h2])
    all_goals simp only [Bool.or_true, Bool.true_or, Bool.or_false, Bool.false_or, Bool.or_self, if_true, Bool.false_eq_true, if_false]
    · rw [if_pos (show Wqatdz.TOLD < (prs t).length by rw [hl]; exact h2)]
    · rw [if_neg (show ¬ Wqatdz.TOLD < (prs t).length by rw [hl]; exact h2)]
/-! ### how many have each colour, the light that tells most -/
def cnt (cs : List Nat) : List Nat := (List.range 5).map fun c => (cs.filter fun x => x == c).length
theorem cnt_perm {l m : List Nat} (h : l.Perm m) : cnt l = cnt m := by
  unfold cnt
  refine List.map_congr_left fun c _ => ?_
  exact (h.filter _).length_eq
def mx (l : List Nat) : Nat := l.foldl max 0
theorem mx_ge (l : List Nat) (a : Nat) : a ≤ l.foldl max a ∧ ∀ x ∈ l, x ≤ l.foldl max a := by
  induction l generalizing a with
  | nil => exact ⟨Nat.le_refl _, fun x h => by simp at h⟩
  | cons y l ih =>
    obtain ⟨h1, h2⟩ := ih (max a y)
    refine ⟨Nat.le_trans (Nat.le_max_left _ _) h1, fun x h => ?_⟩
    rcases List.eq_or_mem_of_mem_cons h with rfl | h
    · exact Nat.le_trans (Nat.le_max_right _ _) h1
    · exact h2 x h
theorem mx_in (l : List Nat) (a : Nat) : l.foldl max a = a ∨ l.foldl max a ∈ l := by
  induction l generalizing a with
  | nil => exact .inl rfl
  | cons y l ih =>
    rw [List.foldl_cons]
    rcases ih (max a y) with h | h
    · rw [h]
      rcases Nat.le_total a y with c | c
      · right; rw [Nat.max_eq_right c]; simp
      · left; exact Nat.max_eq_left c
    · exact .inr (List.mem_cons_of_mem _ h)
/-- a greatest number, however it was found -/
theorem mx_is {l : List Nat} {m : Nat} (h1 : m ∈ l) (h2 : ∀ y ∈ l, y ≤ m) : m = mx l := by
  unfold mx
  rcases mx_in l 0 with h | h
  · have := (mx_ge l 0).2 m h1
    omega
  · exact Nat.le_antisymm ((mx_ge l 0).2 m h1) (h2 _ h)
/-- the first of the rows whose greatest is least -/
def least (rows : List (List Nat)) : Nat := (rows.zipIdx.foldl (fun (b : Nat) (x : List Nat × Nat) => if mx x.1 < mx (rows.getD b []) then x.2 else b) 0)
theorem best_go (rows : List (List Nat)) : ∀ (l : List (List Nat)) (k b : Nat), (∀ i x, l[i]? = some x → rows[k + i]? = some x) → ∀ y, rows[b]? = some y →
    (l.zipIdx k |>.map fun x => (x.2, x.1)).foldl (fun (b : Option (Nat × List Nat)) (x : Nat × List Nat) => match b with
      | none => some x
      | some y => if x.2.foldl max 0 < y.2.foldl max 0 then some x else some y) (some (b, y)) =
    (let c := (l.zipIdx k).foldl (fun (b : Nat) (x : List Nat × Nat) => if mx x.1 < mx (rows.getD b []) then x.2 else b) b
     (rows[c]?).map fun r => (c, r))
  | [], k, b, _, y, hy => by
    show some (b, y) = (rows[b]?).map fun r => (b, r)
    rw [hy]
    rfl
  | z :: l, k, b, h, y, hy => by
    have hz : rows[k]? = some z := h 0 z rfl
    have hn : ∀ i x, l[i]? = some x → rows[(k + 1) + i]? = some x := fun i x e => by
      have := h (i + 1) x e
      rwa [show k + (i + 1) = k + 1 + i by omega] at this
    rw [List.zipIdx_cons, List.map_cons, List.foldl_cons, List.foldl_cons]
    have hg : rows.getD b [] = y := by rw [List.getD_eq_getElem?_getD, hy]; rfl
    show List.foldl _ (if mx z < mx y then some (k, z) else some (b, y)) _ = _
    dsimp only
    rw [hg]
    by_cases c : mx z < mx y
    · rw [if_pos c, if_pos c]
      exact best_go rows l (k + 1) k hn z hz
    · rw [if_neg c, if_neg c]
      exact best_go rows l (k + 1) b hn y hy
theorem best_is (s : Wqatdz.State) (ps : List Point) : Wqatdz.bestOf s ps = (let rows := s.lights.map (Wqatdz.counts s ps); (rows[least rows]?).map fun r => (least rows, r)) := by
  unfold Wqatdz.bestOf
  have e : (s.lights.zipIdx.map fun (x : Light × Nat) => (x.2, Wqatdz.counts s ps x.1)) = (((s.lights.map (Wqatdz.counts s ps)).zipIdx).map fun x => (x.2, x.1)) := by
    rw [List.zipIdx_map, List.map_map]
    rfl
  rw [e]
  dsimp only
  generalize s.lights.map (Wqatdz.counts s ps) = rows
  cases rows with
  | nil => rfl
  | cons r rs =>
    rw [List.zipIdx_cons, List.map_cons, List.foldl_cons]
    show List.foldl _ (some (0, r)) _ = _
    have := best_go (r :: rs) rs 1 0 (fun i x e => by rw [show 1 + i = i + 1 by omega]; exact e) r rfl
    refine Eq.trans this ?_
    have e2 : least (r :: rs) = (rs.zipIdx 1).foldl (fun (b : Nat) (x : List Nat × Nat) => if mx x.1 < mx ((r :: rs).getD b []) then x.2 else b) 0 := by
      unfold least
      rw [List.zipIdx_cons]; rw [List.foldl_cons]
      show List.foldl _ (if mx r < mx r then 0 else 0) _ = _
      rw [if_neg (Nat.lt_irrefl _)]
    dsimp only
    rw [e2]
/-! ### changes -/
def rowsAt (cols : List (List Nat)) (i : Nat) : List (Nat × Nat × Nat) :=
  (cols.zipIdx.filter fun x => x.1.getD i 0 != (if 0 < i then x.1.getD (i - 1) 0 else 0)).map fun x => (i, x.2, x.1.getD i 0)
theorem zipIdx_from {α β : Type} (f : α → β) (l : List α) (g : β × Nat → Bool) (h : β × Nat → Nat × Nat × Nat) : (((l.map f).zipIdx.filter g).map h) = ((l.zipIdx.filter fun x => g (f x.1, x.2)).map fun x => h (f x.1, x.2)) := by
  rw [List.zipIdx_map, List.filter_map, List.map_map]
  rfl
theorem getD_map {α : Type} (f : α → Nat) : ∀ (l : List α) (i : Nat) (x : α), l[i]? = some x → (l.map f).getD i 0 = f x := fun l i x h => by
  rw [List.getD_eq_getElem?_getD, List.getElem?_map, h]
  rfl
theorem changes_go (cs : List Coast) (ls : List Light) (pts : List Point) : ∀ (rest : List Point) (i : Nat) (had : List Nat), pts.drop i = rest →
    (∀ j l, ls[j]? = some l → had.getD j 0 = if 0 < i then (pts.map (seenFrom cs l)).getD (i - 1) 0 else 0) →
    changes cs ls had i rest = ((List.range rest.length).flatMap fun k => rowsAt (ls.map fun l => pts.map (seenFrom cs l)) (i + k))
  | [], i, had, _, _ => rfl
  | p :: rest, i, had, hd, hh => by
    have hi : pts[i]? = some p := by
      have := congrArg (fun l => l[0]?) hd
      simp only [List.getElem?_drop, Nat.add_zero] at this
      exact this
    have hd2 : pts.drop (i + 1) = rest := by
      have := congrArg (List.drop 1) hd
      rw [List.drop_drop] at this
      exact this
    have ih := changes_go cs ls pts rest (i + 1) (ls.map fun l => seenFrom cs l p) hd2 (fun j l h => by
      rw [getD_map _ _ _ _ h, if_pos (Nat.succ_pos _), Nat.add_sub_cancel, getD_map _ _ _ _ hi])
    show ((((ls.map fun l => seenFrom cs l p).zipIdx.filter fun x => had.getD x.2 0 != x.1).map fun x => (i, x.2, x.1)) ++ changes cs ls (ls.map fun l => seenFrom cs l p) (i + 1) rest) = _
    rw [ih, List.length_cons, List.range_succ_eq_map, List.flatMap_cons, List.flatMap_map]
    congr 1
    · unfold rowsAt
      rw [zipIdx_from (fun l => seenFrom cs l p) ls (fun x => had.getD x.2 0 != x.1) (fun x => (i, x.2, x.1)), zipIdx_from (fun l => pts.map (seenFrom cs l)) ls]
      have ev : ∀ x ∈ ls.zipIdx, (pts.map (seenFrom cs x.1)).getD i 0 = seenFrom cs x.1 p := fun x _ => getD_map _ _ _ _ hi
      have eh : ∀ x ∈ ls.zipIdx, had.getD x.2 0 = if 0 < i then (pts.map (seenFrom cs x.1)).getD (i - 1) 0 else 0 := fun x hx => hh x.2 x.1 (by
        have := List.mem_zipIdx_iff_getElem?.mp hx
        exact this)
      rw [show i + 0 = i from rfl]
      rw [List.filter_congr (q := fun x => (pts.map (seenFrom cs x.1)).getD i 0 != (if 0 < i then (pts.map (seenFrom cs x.1)).getD (i - 1) 0 else 0)) fun x hx => by
        rw [ev x hx, eh x hx, bne_comm]]
      refine List.map_congr_left fun x hx => ?_
      rw [ev x (List.mem_filter.mp hx).1]
    · congr 1
      funext k
      rw [show i + 1 + k = i + (k + 1) by omega]
theorem changes_is (cs : List Coast) (ls : List Light) (pts : List Point) : changes cs ls [] 0 pts = ((List.range pts.length).flatMap fun k => rowsAt (ls.map fun l => pts.map (seenFrom cs l)) k) := by
  have := changes_go cs ls pts pts 0 [] rfl (fun j l _ => by simp)
  simpa using this
end Bc

namespace Bc
open BnC
/-! ### directions in order, sectors -/
theorem half_01 (a : Point) : half a = 0 ∨ half a = 1 := by
  unfold half
  split
  · exact .inl rfl
  · exact .inr rfl
theorem half_0 {a : Point} : half a = 0 ↔ (0 < a.2 ∨ (a.2 = 0 ∧ 0 < a.1)) := by
  unfold half
  split
  · exact ⟨fun _ => by assumption, fun _ => rfl⟩
  · exact ⟨fun h => absurd h (by decide), fun h => absurd h (by assumption)⟩
theorem cross_anti (a b : Point) : cross b a = - cross a b := by
  unfold cross
  grind
theorem before_iff {a b : Point} : dirBefore a b = true ↔ half a < half b ∨ (half a = half b ∧ 0 < cross a b) := by
  unfold dirBefore
  simp only [Bool.or_eq_true, Bool.and_eq_true, decide_eq_true_iff, beq_iff_eq]
theorem same_iff {a b : Point} : sameDir a b = true ↔ half a = half b ∧ cross a b = 0 := by
  unfold sameDir
  simp only [beq_iff_eq, Bool.and_eq_true]
/-- every direction is before, at, or behind another -/
theorem not_before {s a : Point} : (dirBefore s a || sameDir s a) = !dirBefore a s := by
  rw [Bool.eq_iff_iff, Bool.or_eq_true, Bool.not_eq_true', before_iff, same_iff, ← Bool.not_eq_true, before_iff, cross_anti s a]
  omega
theorem cross_trans {a b c : Point} (hab : half a = half b) (hbc : half b = half c) (h1 : 0 < cross a b) (h2 : 0 < cross b c) : 0 < cross a c := by
  have idn : b.2 * cross a c = a.2 * cross b c + c.2 * cross a b := by
    unfold cross
    grind
  have e1 : cross a b = a.1 * b.2 - a.2 * b.1 := rfl
  have e2 : cross b c = b.1 * c.2 - b.2 * c.1 := rfl
  rcases half_01 b with hb | hb
  · have pa := half_0.mp (hab.trans hb)
    have pb := half_0.mp hb
    have pc := half_0.mp (hbc.symm.trans hb)
    by_cases q : b.2 = 0
    · exfalso
      have : 0 ≤ a.2 * b.1 := Int.mul_nonneg (by omega) (by omega)
      rw [q, Int.mul_zero] at e1
      omega
    · have q2 : 0 < b.2 := by omega
      have k : 0 < a.2 * cross b c + c.2 * cross a b := by
        have n1 : 0 ≤ a.2 * cross b c := Int.mul_nonneg (by omega) (by omega)
        have n2 : 0 ≤ c.2 * cross a b := Int.mul_nonneg (by omega) (by omega)
        by_cases r : 0 < c.2
        · have := Int.mul_pos r h1
          omega
        · have r0 : c.2 = 0 := by omega
          have : 0 < b.2 * c.1 := Int.mul_pos q2 (by omega)
          rw [r0, Int.mul_zero] at e2
          omega
      rw [← idn] at k
      exact Int.pos_of_mul_pos_right k (by omega)
  · have na : ¬ (0 < a.2 ∨ (a.2 = 0 ∧ 0 < a.1)) := fun z => by
      have := half_0.mpr z
      omega
    have nb : ¬ (0 < b.2 ∨ (b.2 = 0 ∧ 0 < b.1)) := fun z => by
      have := half_0.mpr z
      omega
    have nc : ¬ (0 < c.2 ∨ (c.2 = 0 ∧ 0 < c.1)) := fun z => by
      have := half_0.mpr z
      omega
    by_cases q : b.2 = 0
    · exfalso
      have : 0 ≤ a.2 * b.1 := Int.mul_nonneg_of_nonpos_of_nonpos (by omega) (by omega)
      rw [q, Int.mul_zero] at e1
      omega
    · have q2 : b.2 < 0 := by omega
      have k : 0 < (-a.2) * cross b c + (-c.2) * cross a b := by
        have n1 : 0 ≤ (-a.2) * cross b c := Int.mul_nonneg (by omega) (by omega)
        have n2 : 0 ≤ (-c.2) * cross a b := Int.mul_nonneg (by omega) (by omega)
        by_cases r : c.2 < 0
        · have := Int.mul_pos (show 0 < -c.2 by omega) h1
          omega
        · have r0 : c.2 = 0 := by omega
          have : 0 ≤ b.2 * c.1 := Int.mul_nonneg_of_nonpos_of_nonpos (by omega) (by omega)
          rw [r0, Int.mul_zero] at e2
          omega
      have k2 : 0 < (-b.2) * cross a c := by
        rw [Int.neg_mul, idn]
        rw [Int.neg_mul, Int.neg_mul] at k
        omega
      exact Int.pos_of_mul_pos_right k2 (by omega)
theorem before_trans {a b c : Point} (h1 : dirBefore a b = true) (h2 : dirBefore b c = true) : dirBefore a c = true := by
  rw [before_iff] at *
  have ha := half_01 a
  have hb := half_01 b
  have hc := half_01 c
  rcases h1 with h1 | ⟨h1, g1⟩ <;> rcases h2 with h2 | ⟨h2, g2⟩
  · left; omega
  · left; omega
  · left; omega
  · exact .inr ⟨by omega, cross_trans h1 h2 g1 g2⟩
theorem order_tail {s : Sector} {l : List Sector} (h : inOrder (s :: l) = true) : inOrder l = true := by
  cases l with
  | nil => rfl
  | cons t r =>
    unfold inOrder at h
    exact (Bool.and_eq_true _ _ ▸ h).2
theorem order_all {w : Point} : ∀ {l : List Sector} {s : Sector}, inOrder (s :: l) = true → dirBefore w s.1 = true → ∀ t ∈ l, dirBefore w t.1 = true
  | [], _, _, _, t, ht => absurd ht (by simp)
  | r :: l, s, h, g, t, ht => by
    have h1 : dirBefore s.1 r.1 = true := by
      unfold inOrder at h
      exact ((Bool.and_eq_true _ _).mp h).1
    have g1 := before_trans g h1
    rcases List.mem_cons.mp ht with e | e
    · rw [e]
      exact g1
    · exact order_all (order_tail h) g1 t e
/-- the colour of the sector in which a direction lies, as the program goes -/
def towards (shown : Nat) : List Sector → Point → Nat
  | [], _ => shown
  | s :: r, w => if dirBefore w s.1 = true then shown else towards s.2 r w
theorem towards_eq (w : Point) : ∀ (l : List Sector) (shown : Nat), inOrder l = true →
    towards shown l w = match (l.filter fun (s : Sector) => dirBefore s.1 w || sameDir s.1 w).getLast? with
      | some s => s.2
      | none => shown
  | [], _, _ => rfl
  | s :: r, shown, h => by
    unfold towards
    by_cases c : dirBefore w s.1 = true
    · rw [if_pos c]
      have e : ((s :: r).filter fun (s : Sector) => dirBefore s.1 w || sameDir s.1 w) = [] := by
        rw [List.filter_eq_nil_iff]
        intro t ht
        rw [not_before]
        have : dirBefore w t.1 = true := by
          rcases List.mem_cons.mp ht with e | e
          · rw [e]
            exact c
          · exact order_all h c t e
        rw [this]
        decide
      rw [e]
      rfl
    · rw [if_neg c, towards_eq w r s.2 (order_tail h)]
      have p : (dirBefore s.1 w || sameDir s.1 w) = true := by
        rw [not_before, Bool.not_eq_true] at *
        rw [c]
        rfl
      rw [List.filter_cons, if_pos p, List.getLast?_cons]
      cases (r.filter fun (s : Sector) => dirBefore s.1 w || sameDir s.1 w).getLast? with
      | none => rfl
      | some t => rfl
theorem sector_is {l : List Sector} (w : Point) (h : inOrder l = true) {s : Sector} (hl : l.getLast? = some s) : sectorOf l w = towards s.2 l w := by
  rw [towards_eq w l s.2 h]
  unfold sectorOf
  rw [hl]
  cases (l.filter fun (s : Sector) => dirBefore s.1 w || sameDir s.1 w).getLast? <;> rfl
/-! ### sectors told -/
def dirB (x y : Int) : Bool := !(decide (x = 0) && decide (y = 0)) && ((decide (-1000 ≤ x) && decide (x ≤ 1000)) && (decide (-1000 ≤ y) && decide (y ≤ 1000)))
def nextOk (l : List Sector) (x y c : Int) : Bool :=
  (dirB x y && (decide (0 ≤ c) && decide (c ≤ 4))) && (match l.getLast? with
    | none => true
    | some s => dirBefore s.1 (x, y))
def sectorsFrom (acc : List Sector) : List Int → Option (List Sector)
  | x :: y :: c :: r => if nextOk acc x y c = true then sectorsFrom (acc ++ [((x, y), c.toNat)]) r else none
  | [] => some acc
  | _ => none
/-- in order so far, and on -/
theorem order_app : ∀ {l : List Sector} {s : Sector} {r : List Sector}, l.getLast? = some s → inOrder (l ++ r) = (inOrder l && inOrder (s :: r))
  | [], s, r, h => by simp at h
  | [a], s, r, h => by
    have e : a = s := by simpa using h
    subst e
    rfl
  | a :: b :: l, s, r, h => by
    have ih := order_app (l := b :: l) (s := s) (r := r) (by simpa [List.getLast?_cons] using h)
    show (dirBefore a.1 b.1 && inOrder (b :: l ++ r)) = (dirBefore a.1 b.1 && inOrder (b :: l) && inOrder (s :: r))
    rw [ih, Bool.and_assoc]
theorem near_iff {m z : Int} : Wqatdz.near m z = true ↔ -m ≤ z ∧ z ≤ m := by
  unfold Wqatdz.near
  rw [Bool.and_eq_true, decide_eq_true_iff, decide_eq_true_iff]
def cellOk (x y c : Int) : Bool := Wqatdz.near Wqatdz.WAY x && (Wqatdz.near Wqatdz.WAY y && ((x != 0 || y != 0) && (decide (0 ≤ c) && decide (c ≤ 4))))
theorem nextOk_is (l : List Sector) (x y c : Int) : nextOk l x y c = (cellOk x y c && (match l.getLast? with
    | none => true
    | some s => dirBefore s.1 (x, y))) := by
  unfold nextOk
  congr 1
  rw [Bool.eq_iff_iff]
  unfold cellOk Wqatdz.WAY dirB
  simp only [Bool.and_eq_true, Bool.or_eq_true, Bool.not_eq_true', Bool.and_eq_false_iff, decide_eq_true_iff, decide_eq_false_iff_not, bne_iff_ne, near_iff]
  omega
theorem sectorsIn_cons (x y c : Int) (r : List Int) : Wqatdz.sectorsIn (x :: y :: c :: r) = if cellOk x y c = true then (Wqatdz.sectorsIn r).map fun (l : List Sector) => ((x, y), c.toNat) :: l else none := rfl
/-- what the program makes of the numbers is what the specification does -/
theorem sectorsFrom_eq : ∀ (ns : List Int) (acc : List Sector), inOrder acc = true →
    sectorsFrom acc ns = match Wqatdz.sectorsIn ns with
      | none => none
      | some l => if inOrder (acc ++ l) = true then some (acc ++ l) else none
  | [], acc, h => by
    show some acc = if inOrder (acc ++ []) = true then some (acc ++ []) else none
    rw [List.append_nil, if_pos h]
  | [_], _, _ => rfl
  | [_, _], _, _ => rfl
  | x :: y :: c :: r, acc, h => by
    rw [sectorsIn_cons]
    unfold sectorsFrom
    rw [nextOk_is]
    by_cases k : cellOk x y c = true
    · rw [k, if_pos rfl, Bool.true_and]
      have key : inOrder (acc ++ [((x, y), c.toNat)]) = (match acc.getLast? with
          | none => true
          | some s => dirBefore s.1 (x, y)) := by
        cases e : acc.getLast? with
        | none =>
          have : acc = [] := by simpa using e
          rw [this]
          rfl
        | some s =>
          rw [order_app e, h]
          show (true && (dirBefore s.1 (x, y) && true)) = _
          rw [Bool.true_and, Bool.and_true]
      by_cases q : inOrder (acc ++ [((x, y), c.toNat)]) = true
      · rw [← key, if_pos q, sectorsFrom_eq r _ q]
        cases Wqatdz.sectorsIn r with
        | none => rfl
        | some l =>
          show (if inOrder (acc ++ [((x, y), c.toNat)] ++ l) = true then _ else _) = if inOrder (acc ++ (((x, y), c.toNat) :: l)) = true then _ else _
          rw [List.append_assoc]
          rfl
      · rw [← key, if_neg q]
        cases Wqatdz.sectorsIn r with
        | none => rfl
        | some l =>
          show none = if inOrder (acc ++ (((x, y), c.toNat) :: l)) = true then _ else _
          rw [if_neg]
          intro w
          apply q
          have e3 : acc ++ (((x, y), c.toNat) :: l) = (acc ++ [((x, y), c.toNat)]) ++ l := by rw [List.append_assoc]; rfl
          rw [e3, order_app (l := acc ++ [((x, y), c.toNat)]) (s := ((x, y), c.toNat)) (by simp)] at w
          exact ((Bool.and_eq_true _ _).mp w).1
    · rw [Bool.not_eq_true] at k
      rw [k]
      rfl
/-- what the program makes of the numbers of a light -/
def readSecs (ns : List Int) : Option (List Sector) := if ns.length % 3 ≠ 0 ∨ ns.length / 3 < 1 ∨ 12 < ns.length / 3 then none else sectorsFrom [] ns
theorem sectorsIn_len : ∀ (ns : List Int) (l : List Sector), Wqatdz.sectorsIn ns = some l → ns.length = 3 * l.length
  | [], l, h => by
    cases h
    rfl
  | [_], _, h => nomatch h
  | [_, _], _, h => nomatch h
  | x :: y :: c :: r, l, h => by
    rw [sectorsIn_cons] at h
    by_cases k : cellOk x y c = true
    · rw [if_pos k] at h
      cases e : Wqatdz.sectorsIn r with
      | none => (rw [e] at h; exact nomatch h)
      | some m =>
        rw [e] at h
        cases h
        have := sectorsIn_len r m e
        simp
        omega
    · rw [if_neg k] at h
      cases h
/-- ... is just what the specification takes -/
theorem readSecs_is (ns : List Int) : readSecs ns = match Wqatdz.sectorsIn ns with
    | none => none
    | some c => if c = [] ∨ Wqatdz.SECTORS < c.length ∨ inOrder c = false then none else some c := by
  unfold readSecs
  rw [sectorsFrom_eq ns [] rfl]
  cases e : Wqatdz.sectorsIn ns with
  | none =>
    show (if _ then none else none) = none
    split <;> rfl
  | some c =>
    have hl := sectorsIn_len ns c e
    show (if ns.length % 3 ≠ 0 ∨ ns.length / 3 < 1 ∨ 12 < ns.length / 3 then none else (if inOrder ([] ++ c) = true then some ([] ++ c) else none)) = if c = [] ∨ 12 < c.length ∨ inOrder c = false then none else some c
    rw [List.nil_append]
    have u : ∀ {p : Prop} [Decidable p], (if p then (none : Option (List Sector)) else none) = none := fun {p} _ => by split <;> rfl
    by_cases q : c = [] ∨ 12 < c.length
    · have h1 : ns.length % 3 ≠ 0 ∨ ns.length / 3 < 1 ∨ 12 < ns.length / 3 := by
        rcases q with q | q
        · rw [q] at hl
          have hl : ns.length = 0 := hl
          omega
        · omega
      have h2 : c = [] ∨ 12 < c.length ∨ inOrder c = false := by
        rcases q with q | q
        · exact .inl q
        · exact .inr (.inl q)
      rw [if_pos h1, if_pos h2]
    · have hne : c.length ≠ 0 := fun z => q (.inl (List.eq_nil_of_length_eq_zero z))
      have h12 : ¬ 12 < c.length := fun z => q (.inr z)
      have h1 : ¬ (ns.length % 3 ≠ 0 ∨ ns.length / 3 < 1 ∨ 12 < ns.length / 3) := by omega
      rw [if_neg h1]
      by_cases o : inOrder c = true
      · have h2 : ¬ (c = [] ∨ 12 < c.length ∨ inOrder c = false) := by
          rintro (z | z | z)
          · exact q (.inl z)
          · exact q (.inr z)
          · rw [o] at z; cases z
        rw [if_pos o, if_neg h2]
      · rw [if_neg o, if_pos (c := c = [] ∨ 12 < c.length ∨ inOrder c = false) (.inr (.inr (by simpa using o)))]
/-- what was read lies in its bounds -/
theorem sectorsIn_near : ∀ (ns : List Int) (l : List Sector), Wqatdz.sectorsIn ns = some l → ∀ s ∈ l, (-1000 ≤ s.1.1 ∧ s.1.1 ≤ 1000 ∧ -1000 ≤ s.1.2 ∧ s.1.2 ≤ 1000) ∧ s.2 ≤ 4
  | [], l, h, s, hs => by
    cases h
    cases hs
  | [_], _, h, _, _ => nomatch h
  | [_, _], _, h, _, _ => nomatch h
  | x :: y :: c :: r, l, h, s, hs => by
    rw [sectorsIn_cons] at h
    by_cases k : cellOk x y c = true
    · rw [if_pos k] at h
      cases e : Wqatdz.sectorsIn r with
      | none => (rw [e] at h; exact nomatch h)
      | some m =>
        rw [e] at h
        cases h
        rcases List.mem_cons.mp hs with z | z
        · unfold cellOk Wqatdz.WAY at k
          simp only [Bool.and_eq_true, Bool.or_eq_true, decide_eq_true_iff, bne_iff_ne, near_iff] at k
          rw [z]
          dsimp only
          omega
        · exact sectorsIn_near r m e s z
    · rw [if_neg k] at h
      cases h
end Bc

namespace Bc
open Bn
/-! ### texts of rhythms -/
/-- parted at the blanks, as the program goes: the parts so far, the part so far -/
def splitGo (parts : List Bytes) (part : Bytes) : Bytes → List Bytes
  | [] => parts ++ [part]
  | c :: r => if c = 32 then splitGo (parts ++ [part]) [] r else splitGo parts (part ++ [c]) r
theorem split_ne (b : Bytes) : split 32 b ≠ [] := by
  cases b with
  | nil => exact List.cons_ne_nil _ _
  | cons c r =>
    unfold split
    cases split 32 r with
    | nil => exact List.cons_ne_nil _ _
    | cons w l =>
      show (if c = 32 then [] :: w :: l else (c :: w) :: l) ≠ []
      split
      · exact List.cons_ne_nil _ _
      · exact List.cons_ne_nil _ _
theorem splitGo_eq : ∀ (b : Bytes) (parts : List Bytes) (part : Bytes), splitGo parts part b = parts ++ (match split 32 b with
    | [] => [part]
    | w :: l => (part ++ w) :: l)
  | [], parts, part => by
    show parts ++ [part] = parts ++ ((part ++ []) :: [])
    rw [List.append_nil]
  | c :: r, parts, part => by
    unfold splitGo
    have ih1 := splitGo_eq r (parts ++ [part]) []
    have ih2 := splitGo_eq r parts (part ++ [c])
    have ne := split_ne r
    have u : split 32 (c :: r) = match split 32 r with
      | [] => [[c]]
      | w :: l => if c = 32 then [] :: w :: l else (c :: w) :: l := rfl
    rw [u]
    cases e : split 32 r with
    | nil => exact absurd e ne
    | cons w l =>
      rw [e] at ih1 ih2
      by_cases q : c = 32
      · rw [if_pos q, ih1]
        show _ = parts ++ (match (if c = 32 then [] :: w :: l else (c :: w) :: l) with
          | [] => [part]
          | w :: l => (part ++ w) :: l)
        rw [if_pos q]
        simp
      · rw [if_neg q, ih2]
        show _ = parts ++ (match (if c = 32 then [] :: w :: l else (c :: w) :: l) with
          | [] => [part]
          | w :: l => (part ++ w) :: l)
        rw [if_neg q]
        simp
theorem splitGo_is (b : Bytes) : splitGo [] [] b = split 32 b := by
  rw [splitGo_eq]
  cases e : split 32 b with
  | nil => exact absurd e (split_ne b)
  | cons w l => rfl
/-- so many tenths, as the program reads them -/
def tenthsIn (n : Nat) : Bytes → Option Nat
  | [] => some n
  | c :: r => if isDigit c = true then tenthsIn (n * 10 + (c.toNat - 48)) r else none
def tenths (b : Bytes) : Option Nat := if (b.length < 1 ∨ 3 < b.length) ∨ b.head? = some 48 then none else match tenthsIn 0 b with
  | none => none
  | some n => if 600 < n then none else some n
theorem tenthsIn_eq : ∀ (b : Bytes) (n : Nat), tenthsIn n b = if b.all isDigit = true then some (b.foldl (fun (n : Nat) (c : UInt8) => 10 * n + (c.toNat - 48)) n) else none
  | [], n => rfl
  | c :: r, n => by
    unfold tenthsIn
    by_cases q : isDigit c = true
    · rw [if_pos q, tenthsIn_eq r, List.all_cons, q, Bool.true_and, List.foldl_cons, Nat.mul_comm n 10]
    · rw [if_neg q, List.all_cons]
      rw [Bool.not_eq_true] at q
      rw [q]
      rfl
theorem digit_of {c : UInt8} (h : isDigit c = true) : ∃ k : Nat, k < 10 ∧ c = UInt8.ofNat (48 + k) := by
  unfold isDigit at h
  rw [Bool.and_eq_true, decide_eq_true_iff, decide_eq_true_iff, UInt8.le_iff_toNat_le, UInt8.le_iff_toNat_le] at h
  have h1 : 48 ≤ c.toNat := h.1
  have h2 : c.toNat ≤ 57 := h.2
  refine ⟨c.toNat - 48, by omega, ?_⟩
  rw [show 48 + (c.toNat - 48) = c.toNat by omega, UInt8.ofNat_toNat]
def val (b : Bytes) : Nat := b.foldl (fun (n : Nat) (c : UInt8) => 10 * n + (c.toNat - 48)) 0
def dg (k : Nat) : UInt8 := UInt8.ofNat (48 + k)
/-- numbers of one, two, three figures: they are told in their one way just if no nought stands ahead -/
theorem dec1 : ∀ a : Fin 10, ([dg a] = decimal (val [dg a])) := by decide +kernel
theorem dec2 : ∀ a b : Fin 10, (([dg a, dg b] = decimal (val [dg a, dg b])) ↔ ¬ (dg a = 48)) := by decide +kernel
theorem dec3 : ∀ a b c : Fin 10, (([dg a, dg b, dg c] = decimal (val [dg a, dg b, dg c])) ↔ ¬ (dg a = 48)) := by decide +kernel
theorem val1 : ∀ a : Fin 10, (val [dg a] = 0 ↔ dg a = 48) := by decide +kernel
theorem val2 : ∀ a b : Fin 10, (¬ (dg a = 48) → 1 ≤ val [dg a, dg b]) := by decide +kernel
theorem val3 : ∀ a b c : Fin 10, (¬ (dg a = 48) → 1 ≤ val [dg a, dg b, dg c]) := by decide +kernel
/-- what the program reads as a length is what the specification does -/
theorem tenths_is (b : Bytes) : tenths b = match numberIn b with
    | some n => if 1 ≤ n ∧ n ≤ LONG then some n else none
    | none => none := by
  unfold tenths numberIn
  rw [tenthsIn_eq]
  show (if (b.length < 1 ∨ 3 < b.length) ∨ b.head? = some 48 then none else match (if b.all isDigit = true then some (val b) else none) with
      | none => none
      | some n => if 600 < n then none else some n) = match (if b.length ≤ 3 ∧ b.all isDigit = true ∧ b = decimal (val b) then some (val b) else none) with
    | some n => if 1 ≤ n ∧ n ≤ 600 then some n else none
    | none => none
  by_cases l : b.length ≤ 3
  · by_cases d : b.all isDigit = true
    · rw [if_pos d]
      have key : ((b.length < 1 ∨ 3 < b.length) ∨ b.head? = some 48) ↔ ¬ (b = decimal (val b) ∧ 1 ≤ val b) := by
        match b, l, d with
        | [], _, _ => decide
        | [x], _, d =>
          have d1 : isDigit x = true := by simpa using d
          obtain ⟨k, hk, rfl⟩ := digit_of d1
          have e1 := dec1 ⟨k, hk⟩
          have e2 := val1 ⟨k, hk⟩
          constructor
          · rintro (q | q)
            · simp at q
            · rintro ⟨_, w⟩
              have : dg k = 48 := Option.some.inj q
              have := e2.mpr this
              have : val [dg k] = 0 := this
              have : 1 ≤ val [dg k] := w
              omega
          · intro w
            right
            have : val [dg k] = 0 := by
              by_cases z : 1 ≤ val [dg k]
              · exact absurd ⟨e1, z⟩ w
              · omega
            exact congrArg some (e2.mp this)
        | [x, y], _, d =>
          have d1 : isDigit x = true ∧ isDigit y = true := by simpa using d
          obtain ⟨k, hk, rfl⟩ := digit_of d1.1
          obtain ⟨m, hm, rfl⟩ := digit_of d1.2
          have e1 := dec2 ⟨k, hk⟩ ⟨m, hm⟩
          have e2 := val2 ⟨k, hk⟩ ⟨m, hm⟩
          constructor
          · rintro (q | q)
            · simp at q
            · rintro ⟨w, _⟩
              exact e1.mp w (Option.some.inj q)
          · intro w
            right
            by_cases z : dg k = 48
            · exact congrArg some z
            · exact absurd ⟨e1.mpr z, e2 z⟩ w
        | [x, y, z], _, d =>
          have d1 : isDigit x = true ∧ isDigit y = true ∧ isDigit z = true := by simpa using d
          obtain ⟨k, hk, rfl⟩ := digit_of d1.1
          obtain ⟨m, hm, rfl⟩ := digit_of d1.2.1
          obtain ⟨n, hn, rfl⟩ := digit_of d1.2.2
          have e1 := dec3 ⟨k, hk⟩ ⟨m, hm⟩ ⟨n, hn⟩
          have e2 := val3 ⟨k, hk⟩ ⟨m, hm⟩ ⟨n, hn⟩
          constructor
          · rintro (q | q)
            · simp at q
            · rintro ⟨w, _⟩
              exact e1.mp w (Option.some.inj q)
          · intro w
            right
            by_cases z : dg k = 48
            · exact congrArg some z
            · exact absurd ⟨e1.mpr z, e2 z⟩ w
        | _ :: _ :: _ :: _ :: _, l, _ => exact absurd l (by simp)
      by_cases c : b = decimal (val b) ∧ 1 ≤ val b
      · rw [if_neg (fun w => key.mp w c), if_pos ⟨l, d, c.1⟩]
        show (if 600 < val b then none else some (val b)) = if 1 ≤ val b ∧ val b ≤ 600 then some (val b) else none
        by_cases u : 600 < val b
        · rw [if_pos u, if_neg (by omega)]
        · rw [if_neg u, if_pos (by omega)]
      · rw [if_pos (key.mpr c)]
        by_cases u : b = decimal (val b)
        · rw [if_pos ⟨l, d, u⟩]
          show none = if 1 ≤ val b ∧ val b ≤ 600 then some (val b) else none
          rw [if_neg (fun w => c ⟨u, w.1⟩)]
        · rw [if_neg (fun w => u w.2.2)]
    · rw [if_neg d, if_neg (c := b.length ≤ 3 ∧ b.all isDigit = true ∧ b = decimal (val b)) (fun w => d w.2.1)]
      show (if _ then none else none) = none
      split <;> rfl
  · rw [if_pos (.inl (.inr (by omega))), if_neg (c := b.length ≤ 3 ∧ b.all isDigit = true ∧ b = decimal (val b)) (fun w => l w.1)]
/-- the number of a colour's byte -/
def colourOf (c : UInt8) : Option Nat := SIGNS.findIdx? (fun (s : UInt8) => s == c)
/-- a phase as the program reads it: colour's byte, tenths -/
def phaseB (b : Bytes) : Option (UInt8 × Nat) := match b with
  | [] => none
  | c :: d => if SIGNS.contains c = true then (match tenths d with
    | none => none
    | some n => some (c, n)) else none
def ofPhase (x : Phase) : UInt8 × Nat := (SIGNS.getD x.1 45, x.2)
def colourFits (c : UInt8) : Bool := match colourOf c with
    | some k => SIGNS.getD k 45 == c && (SIGNS.contains c && decide (k < 5))
    | none => !SIGNS.contains c
theorem colour_all : ∀ n : Fin 256, colourFits (UInt8.ofNat n.val) = true := by decide +kernel
theorem colour_some (c : UInt8) : (match colourOf c with
    | some k => SIGNS.getD k 45 = c ∧ SIGNS.contains c = true ∧ k < 5
    | none => SIGNS.contains c = false) := by
  have h := colour_all ⟨c.toNat, c.toNat_lt⟩
  have e : UInt8.ofNat c.toNat = c := UInt8.ofNat_toNat
  have h : colourFits c = true := by
    rw [← e]
    exact h
  unfold colourFits at h
  cases q : colourOf c with
  | none =>
    rw [q] at h
    show SIGNS.contains c = false
    have : (!SIGNS.contains c) = true := h
    rwa [Bool.not_eq_true'] at this
  | some k =>
    rw [q] at h
    show SIGNS.getD k 45 = c ∧ SIGNS.contains c = true ∧ k < 5
    have : (SIGNS.getD k 45 == c && (SIGNS.contains c && decide (k < 5))) = true := h
    rw [Bool.and_eq_true, Bool.and_eq_true, beq_iff_eq, decide_eq_true_iff] at this
    exact this
theorem phase_is (b : Bytes) : phaseB b = (phaseIn b).map ofPhase := by
  cases b with
  | nil => rfl
  | cons c d =>
    have h := colour_some c
    unfold phaseB phaseIn
    show (if SIGNS.contains c = true then _ else _) = Option.map ofPhase (match colourOf c, numberIn d with
      | some k, some n => if 1 ≤ n ∧ n ≤ LONG then some (k, n) else none
      | _, _ => none)
    rw [tenths_is]
    cases e : colourOf c with
    | none =>
      rw [e] at h
      have h2 : SIGNS.contains c = false := h
      rw [h2]
      rfl
    | some k =>
      rw [e] at h
      have h2 : SIGNS.getD k 45 = c ∧ SIGNS.contains c = true ∧ k < 5 := h
      rw [if_pos h2.2.1]
      cases numberIn d with
      | none => rfl
      | some n =>
        show (match (if 1 ≤ n ∧ n ≤ LONG then some n else none) with
          | none => none
          | some n => some (c, n)) = Option.map ofPhase (if 1 ≤ n ∧ n ≤ LONG then some (k, n) else none)
        by_cases q : 1 ≤ n ∧ n ≤ LONG
        · rw [if_pos q, if_pos q]
          show some (c, n) = some (SIGNS.getD k 45, n)
          rw [h2.1]
        · rw [if_neg q, if_neg q]
          rfl
/-- what a read phase is -/
theorem phase_fits {b : Bytes} {x : Phase} (h : phaseIn b = some x) : x.1 < 5 ∧ 1 ≤ x.2 ∧ x.2 ≤ 600 := by
  unfold phaseIn at h
  cases b with
  | nil => cases h
  | cons c d =>
    have g := colour_some c
    revert h
    show (match colourOf c, numberIn d with
      | some k, some n => if 1 ≤ n ∧ n ≤ LONG then some (k, n) else none
      | _, _ => none) = some x → _
    cases e : colourOf c with
    | none => intro h; cases h
    | some k =>
      rw [e] at g
      cases numberIn d with
      | none => intro h; cases h
      | some n =>
        show (if 1 ≤ n ∧ n ≤ LONG then some (k, n) else none) = some x → _
        by_cases q : 1 ≤ n ∧ n ≤ LONG
        · rw [if_pos q]
          intro h
          cases h
          exact ⟨g.2.2, q.1, q.2⟩
        · rw [if_neg q]
          intro h
          cases h
end Bc

namespace Bc
open Bn
/-! ### rhythms read, held, told -/
def readGo (k sum : Nat) (acc : List (UInt8 × Nat)) : List Bytes → Except Nat (List (UInt8 × Nat))
  | [] => .ok acc
  | b :: r => match phaseB b with
    | none => .error k
    | some x => if k = 32 then .error k else if 6000 < sum + x.2 then .error k else readGo (k + 1) (sum + x.2) (acc ++ [x]) r
theorem readGo_eq : ∀ (l : List Bytes) (k sum : Nat) (acc : List (UInt8 × Nat)), k ≤ 32 → readGo k sum acc l = match phasesFrom k sum l with
    | .error e => .error e
    | .ok r => .ok (acc ++ r.map ofPhase)
  | [], k, sum, acc, _ => by
    show Except.ok acc = Except.ok (acc ++ [])
    rw [List.append_nil]
  | b :: r, k, sum, acc, hk => by
    unfold readGo phasesFrom
    rw [phase_is]
    cases phaseIn b with
    | none => rfl
    | some x =>
      show (if k = 32 then Except.error k else if 6000 < sum + x.2 then Except.error k else readGo (k + 1) (sum + x.2) (acc ++ [ofPhase x]) r) = match (if PHASES ≤ k ∨ ROUND < sum + x.2 then Except.error k else match phasesFrom (k + 1) (sum + x.2) r with
          | .error e => .error e
          | .ok l => .ok (x :: l)) with
        | .error e => .error e
        | .ok r => .ok (acc ++ r.map ofPhase)
      by_cases c : k = 32
      · rw [if_pos c, if_pos (.inl (by rw [c]; exact Nat.le_refl 32))]
      · rw [if_neg c]
        by_cases d : 6000 < sum + x.2
        · rw [if_pos d, if_pos (.inr d)]
        · have hn : ¬ (PHASES ≤ k ∨ ROUND < sum + x.2) := by
            rintro (w | w)
            · have : 32 ≤ k := w
              omega
            · exact d w
          rw [if_neg d, if_neg hn, readGo_eq r (k + 1) (sum + x.2) (acc ++ [ofPhase x]) (by omega)]
          cases phasesFrom (k + 1) (sum + x.2) r with
          | error e => rfl
          | ok l =>
            show Except.ok (acc ++ [ofPhase x] ++ l.map ofPhase) = Except.ok (acc ++ (ofPhase x :: l.map ofPhase))
            rw [List.append_assoc]
            rfl
theorem read_is (t : Bytes) : readGo 0 0 [] (split 32 t) = match readRhythm t with
    | .error e => .error e
    | .ok r => .ok (r.map ofPhase) := by
  rw [readGo_eq _ _ _ _ (by omega)]
  unfold readRhythm
  cases phasesFrom 0 0 (split 32 t) <;> rfl
/-- a rhythm that was read -/
structure Fits (r : Rhythm) : Prop where
  ne : r ≠ []
  len : r.length ≤ 32
  each : ∀ x ∈ r, x.1 < 5 ∧ 1 ≤ x.2 ∧ x.2 ≤ 600
theorem phases_fit : ∀ (l : List Bytes) (k sum : Nat) (r : Rhythm), phasesFrom k sum l = .ok r → r.length = l.length ∧ (r ≠ [] → k + r.length ≤ 32) ∧ ∀ x ∈ r, x.1 < 5 ∧ 1 ≤ x.2 ∧ x.2 ≤ 600
  | [], k, sum, r, h => by
    cases h
    exact ⟨rfl, fun h => absurd rfl h, fun x hx => absurd hx (by simp)⟩
  | b :: t, k, sum, r, h => by
    unfold phasesFrom at h
    revert h
    cases e : phaseIn b with
    | none => intro h; cases h
    | some x =>
      show (if PHASES ≤ k ∨ ROUND < sum + x.2 then Except.error k else match phasesFrom (k + 1) (sum + x.2) t with
          | .error e => .error e
          | .ok l => .ok (x :: l)) = Except.ok r → _
      by_cases c : PHASES ≤ k ∨ ROUND < sum + x.2
      · rw [if_pos c]
        intro h
        cases h
      · rw [if_neg c]
        cases q : phasesFrom (k + 1) (sum + x.2) t with
        | error e => intro h; cases h
        | ok l =>
          intro h
          cases h
          obtain ⟨h1, h2, h3⟩ := phases_fit t _ _ _ q
          have hk : ¬ 32 ≤ k := fun w => c (.inl w)
          refine ⟨by simp [h1], fun _ => ?_, fun y hy => ?_⟩
          · cases l with
            | nil => simp; omega
            | cons z zs =>
              have := h2 (List.cons_ne_nil _ _)
              simp at this ⊢
              omega
          · rcases List.mem_cons.mp hy with w | w
            · rw [w]
              exact phase_fits e
            · exact h3 y w
theorem read_fits {t : Bytes} {r : Rhythm} (h : readRhythm t = .ok r) : Fits r := by
  obtain ⟨h1, h2, h3⟩ := phases_fit _ _ _ _ h
  have ne : r ≠ [] := fun w => by
    rw [w] at h1
    exact split_ne t (List.eq_nil_of_length_eq_zero h1.symm)
  exact ⟨ne, by have := h2 ne; omega, h3⟩
/-- white and dark alone -/
def Plain (r : Rhythm) : Prop := Fits r ∧ ∀ x ∈ r, x.1 ≤ 1
theorem byte_of : ∀ k : Fin 5, (SIGNS.getD k 45 ≠ 87 ∧ SIGNS.getD k 45 ≠ 45) ↔ 1 < k.val := by decide +kernel
theorem dark_or_white {k : Nat} (h : k < 5) : (SIGNS.getD k 45 ≠ 87 ∧ SIGNS.getD k 45 ≠ 45) ↔ 1 < k := byte_of ⟨k, h⟩
theorem white_iff {k : Nat} (h : k ≤ 1) : SIGNS.getD k 45 = 87 ↔ k = 1 := by
  rcases Nat.le_one_iff_eq_zero_or_eq_one.mp h with e | e <;> subst e <;> decide
/-- the byte of the colour that is on, gone through once, from the phase number n on with so many tenths left -/
def byteIn : List (UInt8 × Nat) → Nat → UInt8
  | [], _ => 45
  | x :: l, t => if t < x.2 then x.1 else byteIn l (t - x.2)
theorem byteIn_is : ∀ (r : Rhythm) (t : Nat), byteIn (r.map ofPhase) t = SIGNS.getD (colourIn r t) 45
  | [], _ => rfl
  | x :: l, t => by
    show (if t < x.2 then SIGNS.getD x.1 45 else byteIn (l.map ofPhase) (t - x.2)) = SIGNS.getD (if t < x.2 then x.1 else colourIn l (t - x.2)) 45
    by_cases c : t < x.2
    · rw [if_pos c, if_pos c]
    · rw [if_neg c, if_neg c]
      exact byteIn_is l _
theorem colourIn_le : ∀ (r : Rhythm) (t : Nat), (∀ x ∈ r, x.1 ≤ 1) → colourIn r t ≤ 1
  | [], _, _ => Nat.zero_le _
  | x :: l, t, h => by
    show (if t < x.2 then x.1 else colourIn l (t - x.2)) ≤ 1
    by_cases c : t < x.2
    · rw [if_pos c]
      exact h x (by simp)
    · rw [if_neg c]
      exact colourIn_le l _ fun y hy => h y (by simp [hy])
theorem on_is {r : Rhythm} (h : Plain r) (t : Nat) : (byteIn (r.map ofPhase) (t % total r) = 87) ↔ ¬ colourAt r t = 0 := by
  rw [byteIn_is]
  have := colourIn_le r (t % total r) h.2
  have w := white_iff this
  show SIGNS.getD (colourIn r (t % total r)) 45 = 87 ↔ ¬ colourIn r (t % total r) = 0
  rw [w]
  omega
theorem total_pos {r : Rhythm} (h : Fits r) : 0 < total r := by
  unfold total
  cases r with
  | nil => exact absurd rfl h.ne
  | cons x l =>
    have := (h.each x (by simp)).2.1
    rw [List.map_cons]; rw [List.sum_cons]
    omega
theorem total_map (r : Rhythm) : total r = ((r.map ofPhase).map (·.2)).sum := by
  unfold total
  rw [List.map_map]
  rfl
/-! ### a rhythm's text told -/
def toldGo (acc : Bytes) : List Bytes → Bytes
  | [] => acc
  | w :: r => toldGo ((if acc = [] then acc else acc ++ [32]) ++ w) r
theorem toldGo_ne : ∀ (l : List Bytes) (acc : Bytes), acc ≠ [] → (∀ w ∈ l, w ≠ []) → toldGo acc l = acc ++ (match l with
    | [] => []
    | _ => 32 :: spaced l)
  | [], acc, _, _ => by
    show acc = acc ++ []
    rw [List.append_nil]
  | w :: r, acc, h, hl => by
    have hw : w ≠ [] := hl w (by simp)
    unfold toldGo
    rw [if_neg h, toldGo_ne r (acc ++ [32] ++ w) (by simp) fun v hv => hl v (by simp [hv])]
    cases r with
    | nil =>
      show acc ++ [32] ++ w ++ [] = acc ++ (32 :: w)
      simp
    | cons v t =>
      show acc ++ [32] ++ w ++ (32 :: spaced (v :: t)) = acc ++ (32 :: (w ++ (32 :: spaced (v :: t))))
      simp
theorem toldGo_is (l : List Bytes) (hl : ∀ w ∈ l, w ≠ []) : toldGo [] l = spaced l := by
  cases l with
  | nil => rfl
  | cons w r =>
    unfold toldGo
    rw [if_pos rfl, List.nil_append, toldGo_ne r w (hl w (by simp)) fun v hv => hl v (by simp [hv])]
    cases r with
    | nil =>
      show w ++ [] = w
      simp
    | cons v t => rfl
/-- white told in a colour -/
def recolour (c : Nat) (r : Rhythm) : Rhythm := r.map fun (x : Phase) => (if x.1 = 0 then 0 else c, x.2)
/-- of a phase as it is held: its text with the colour -/
def phaseText (c : Nat) (x : UInt8 × Nat) : Bytes := (if x.1 = 87 then SIGNS.getD c 45 else x.1) :: decimal x.2
theorem phaseText_is {r : Rhythm} (h : Plain r) (c : Nat) : (r.map ofPhase).map (phaseText c) = (recolour c r).map Phase.text := by
  unfold recolour
  rw [List.map_map]; rw [List.map_map]
  apply List.map_congr_left
  intro x hx
  show (if SIGNS.getD x.1 45 = 87 then SIGNS.getD c 45 else SIGNS.getD x.1 45) :: decimal x.2 = SIGNS.getD (if x.1 = 0 then 0 else c) 45 :: decimal x.2
  have h1 := h.2 x hx
  have w := white_iff h1
  by_cases z : x.1 = 0
  · have e : SIGNS.getD 0 45 = 45 := by decide
    rw [if_pos z, if_neg (fun q => by have := w.mp q; omega), z]
  · rw [if_neg z, if_pos (w.mpr (by omega))]
theorem text_is {r : Rhythm} (h : Plain r) (c : Nat) : toldGo [] ((r.map ofPhase).map (phaseText c)) = Rhythm.text (recolour c r) := by
  rw [toldGo_is]
  · rw [phaseText_is h]
    rfl
  · intro w hw
    obtain ⟨x, _, rfl⟩ := List.mem_map.mp hw
    exact List.cons_ne_nil _ _
/-- the figures of a phase's length: at most three -/
theorem dec_len : ∀ n : Fin 601, (decimal n.val).length ≤ 3 := by decide +kernel
theorem toldGo_len : ∀ (l : List (UInt8 × Nat)) (c : Nat) (acc : Bytes), (∀ x ∈ l, x.2 ≤ 600) → (toldGo acc (l.map (phaseText c))).length ≤ acc.length + 5 * l.length
  | [], _, acc, _ => by simp [toldGo]
  | x :: r, c, acc, h => by
    have h1 := dec_len ⟨x.2, by have := h x (by simp); omega⟩
    have h1 : (decimal x.2).length ≤ 3 := h1
    have ih := toldGo_len r c ((if acc = [] then acc else acc ++ [32]) ++ phaseText c x) fun y hy => h y (by simp [hy])
    show (toldGo ((if acc = [] then acc else acc ++ [32]) ++ phaseText c x) (r.map (phaseText c))).length ≤ _
    have e : ((if acc = [] then acc else acc ++ [32]) ++ phaseText c x).length ≤ acc.length + 5 := by
      rw [List.length_append]
      show _ + ((decimal x.2).length + 1) ≤ _
      split
      · omega
      · rw [List.length_append]
        simp
        omega
    simp only [List.length_cons]
    omega
end Bc

namespace Bc
/-! ### the list of calls -/
theorem whole_is (c : List (List Int)) : PyWqatdz.whole c = c := by
  unfold PyWqatdz.whole
  split <;> rfl
theorem whole_map (cs : List (List (List Int))) : cs.map PyWqatdz.whole = cs := by
  induction cs with
  | nil => rfl
  | cons c r ih => rw [List.map_cons, whole_is, ih]
/-- what is handed in -/
structure Handed (l : List Int) (raw : List (List (List Int))) : Prop where
  put : l = PyFlat.put raw
  shp : ∀ c ∈ raw, PyFlat.okCall PyWqatdz.shape c
  ask : ∀ c ∈ raw, WqatdzNeutral.asked1 c = true
  ins : ∀ c ∈ raw, PyInside.call PyWqatdz.bound c = true
  ans : PyWqatdz.answers l = PyFlat.told (PyFlat.played WqatdzNeutral.step WqatdzNeutral.start raw)
  few : raw.length ≤ 400
  len : (PyWqatdz.answers l).length ≤ 10000000
theorem handed {l : List Int} (h : PyWqatdz.answers_asked l = true) : ∃ raw, Handed l raw := by
  unfold PyWqatdz.answers_asked at h
  cases e : PyFlat.calls PyWqatdz.shape l.length l with
  | none => (rw [e] at h; exact nomatch h)
  | some raw =>
    rw [e] at h
    have h : (!raw.isEmpty && PyFlat.atMost 400 raw && PyInside.calls PyWqatdz.bound raw && WqatdzNeutral.asked (raw.map PyWqatdz.whole) && PyFlat.short 10000000 (PyWqatdz.answers l)) = true := h
    (simp only [Bool.and_eq_true] at h)
    obtain ⟨⟨⟨⟨_, h2⟩, h3⟩, h4⟩, h5⟩ := h
    rw [whole_map] at h4
    obtain ⟨p1, p2⟩ := PyFlat.put_calls _ _ _ e
    refine ⟨raw, p1, p2, ?_, ?_, ?_, of_decide_eq_true h2, of_decide_eq_true h5⟩
    · unfold WqatdzNeutral.asked at h4
      simp only [Bool.and_eq_true] at h4
      exact List.all_eq_true.mp h4.1.1.1.1
    · exact List.all_eq_true.mp h3
    · unfold PyWqatdz.answers PyWqatdz.calls
      rw [e]
      show PyFlat.told (PyFlat.played _ _ (raw.map PyWqatdz.whole)) = _
      rw [whole_map]
/-- the forms of a call that may be asked -/
inductive Form : List (List Int) → Prop
  | light (x y : Int) (r : Nat) (b s : List Int) : (∀ z ∈ b, 0 ≤ z ∧ z < 256) → Form [[0, x, y, (r : Int)], b, s]
  | coast (x y u v : Int) : Form [[1, x, y, u, v]]
  | seen (x y : Int) : Form [[2, x, y]]
  | at_ (z : Nat) (x y : Int) : Form [[3, (z : Int), x, y]]
  | rhythm (i : Nat) (x y : Int) : Form [[4, (i : Int), x, y]]
  | where_ (x y u v : Int) (t : List Int) : (∀ z ∈ t, 0 ≤ z ∧ z < 2 ^ 32) → Form [[5, x, y, u, v], t]
  | track (x y u v : Int) (n : Nat) : Form [[6, x, y, u, v, (n : Int)]]
  | tell (x y u v : Int) (t : List Int) : (∀ z ∈ t, 0 ≤ z ∧ z < 2 ^ 32) → Form [[7, x, y, u, v], t]
  | clear : Form [[8]]
theorem natural_iff {z : Int} {n : Nat} : WqatdzNeutral.natural z n = true ↔ 0 ≤ z ∧ z < 2 ^ n := by
  unfold WqatdzNeutral.natural
  rw [Bool.and_eq_true, decide_eq_true_iff, decide_eq_true_iff]
theorem form_of {c : List (List Int)} (h : WqatdzNeutral.asked1 c = true) : Form c := by
  unfold WqatdzNeutral.asked1 at h
  split at h
  · simp only [Bool.and_eq_true, List.all_eq_true, natural_iff] at h
    obtain ⟨⟨⟨⟨_, _⟩, h1⟩, h2⟩, _⟩ := h
    obtain ⟨r, hr⟩ := Int.eq_ofNat_of_zero_le h1.1
    subst hr
    exact .light _ _ _ _ _ fun z hz => by have := h2 z hz; omega
  · exact .coast ..
  · exact .seen ..
  · simp only [Bool.and_eq_true, natural_iff] at h
    rename_i z x y
    obtain ⟨z, rfl⟩ := Int.eq_ofNat_of_zero_le h.1.1.1
    exact .at_ ..
  · simp only [Bool.and_eq_true, natural_iff] at h
    rename_i z x y
    obtain ⟨z, rfl⟩ := Int.eq_ofNat_of_zero_le h.1.1.1
    exact .rhythm ..
  · simp only [Bool.and_eq_true, List.all_eq_true, natural_iff] at h
    exact .where_ _ _ _ _ _ h.2
  · simp only [Bool.and_eq_true, natural_iff] at h
    rename_i x y u v n
    obtain ⟨n, rfl⟩ := Int.eq_ofNat_of_zero_le h.2.1
    exact .track ..
  · simp only [Bool.and_eq_true, List.all_eq_true, natural_iff] at h
    exact .tell _ _ _ _ _ h.2
  · exact .clear
  · cases h
/-- the call that a form is -/
theorem bytes_back {b : List Int} (h : ∀ z ∈ b, 0 ≤ z ∧ z < 256) : (WqatdzNeutral.bytes b).map (fun c : UInt8 => (c.toNat : Int)) = b := by
  unfold WqatdzNeutral.bytes
  rw [List.map_map]
  have : b.map ((fun c : UInt8 => (c.toNat : Int)) ∘ fun (z : Int) => UInt8.ofNat z.toNat) = b.map id := by
    apply List.map_congr_left
    intro z hz
    have := h z hz
    show ((UInt8.ofNat z.toNat).toNat : Int) = z
    rw [UInt8.toNat_ofNat']
    omega
  rw [this, List.map_id]
theorem nats_back {t : List Int} (h : ∀ z ∈ t, 0 ≤ z ∧ z < 2 ^ 32) : (WqatdzNeutral.nats t).map (fun c : Nat => (c : Int)) = t := by
  unfold WqatdzNeutral.nats
  rw [List.map_map]
  have : t.map ((fun c : Nat => (c : Int)) ∘ Int.toNat) = t.map id := by
    apply List.map_congr_left
    intro z hz
    have := h z hz
    show ((z.toNat : Nat) : Int) = z
    omega
  rw [this, List.map_id]
/-- told so far -/
theorem told_snoc (a : List (List Int)) (x : List Int) : PyFlat.told (a ++ [x]) = PyFlat.told a ++ ((x.length : Int) :: x) := by
  unfold PyFlat.told
  rw [List.flatMap_append]
  simp
theorem told_app (a b : List (List Int)) : PyFlat.told (a ++ b) = PyFlat.told a ++ PyFlat.told b := by
  unfold PyFlat.told
  rw [List.flatMap_append]
def stateOf (s : Wqatdz.State) : List (List (List Int)) → Wqatdz.State
  | [] => s
  | c :: r => stateOf (WqatdzNeutral.step s c).1 r
theorem state_snoc (s : Wqatdz.State) (cs : List (List (List Int))) (c : List (List Int)) : stateOf s (cs ++ [c]) = (WqatdzNeutral.step (stateOf s cs) c).1 := by
  induction cs generalizing s with
  | nil => rfl
  | cons d r ih => exact ih _
theorem played_app (s : Wqatdz.State) (a b : List (List (List Int))) : PyFlat.played WqatdzNeutral.step s (a ++ b) = PyFlat.played WqatdzNeutral.step s a ++ PyFlat.played WqatdzNeutral.step (stateOf s a) b := by
  induction a generalizing s with
  | nil => rfl
  | cons d r ih =>
    show (WqatdzNeutral.step s d).2 :: PyFlat.played WqatdzNeutral.step (WqatdzNeutral.step s d).1 (r ++ b) = (WqatdzNeutral.step s d).2 :: PyFlat.played WqatdzNeutral.step (WqatdzNeutral.step s d).1 r ++ _
    rw [ih]
    rfl
theorem put_app (a b : List (List (List Int))) : PyFlat.put (a ++ b) = PyFlat.put a ++ PyFlat.put b := by
  induction a with
  | nil => rfl
  | cons c r ih =>
    show PyFlat.put1 c ++ PyFlat.put (r ++ b) = PyFlat.put1 c ++ PyFlat.put r ++ PyFlat.put b
    rw [ih, List.append_assoc]
theorem row_le {xs : List (List Int)} {x : List Int} (h : x ∈ xs) : x.length ≤ (PyFlat.putRows xs).length := by
  induction xs with
  | nil => cases h
  | cons y ys ih =>
    show x.length ≤ (PyFlat.putRow y ++ PyFlat.putRows ys).length
    rw [List.length_append]
    rcases List.eq_or_mem_of_mem_cons h with e | e
    · rw [e]
      show y.length ≤ (y.length + 1) + _
      omega
    · have := ih e
      omega
end Bc

namespace Bc
open PySem PySem.Spec PyProof.Rows L2 Evl
/-! ### the layer's words -/
def top (i : Nat) : Stmt := PySem.Challenge.pw_beaconcoasts_s01_answers.main.body.getD i (.Pass ⟨0, 0, 0, 0⟩)
theorem pe_gint {X : Cx} {x : Str} {n : Int} {pos : Pos} (hg : Gl X x) (h : ∃ t, X.mg x = some (.int n t)) (hd : (x == ("__debug__" : Str)) = false := by decide) : PE X (.Name x pos) (tC (.int n)) := by
  obtain ⟨t, h⟩ := h
  exact pe_glob hg h ⟨t, rfl⟩ hd
theorem pe_gtup {X : Cx} {x : Str} {a : Addr} {pos : Pos} (hg : Gl X x) (h : X.mg x = some (.ref a)) (hd : (x == ("__debug__" : Str)) = false := by decide) : PE X (.Name x pos) (tC (.ref a)) := pe_glob hg h rfl hd
theorem hu64_of {k : Nat} {A : Around} (r : Room k A) : A.units + 64 < cLine := by
  have := r.un
  omega
/-- a def of the text by its name: what it keeps -/
def Df (P : Program) (w : World) (K : PySem.W.Frag) (mg : Str → Option Value) (base : Heap) (x : Str) (k : Nat) (ps : List Str) (sp : Sp) : Prop :=
  ∃ f fd, mg x = some (.ref f) ∧ PySem.W.keepIn K (.ref f) = true ∧ Binds K fd ps [] ∧ FnOk P w K mg base CX0 k f fd ps sp
theorem pe_df {X : Cx} {x : Str} {k : Nat} {ps : List Str} {sp : Sp} {p pos : Pos} {e : Expr} {es : List Expr} {t : TA} (D : Df X.prog X.w X.K X.mg X.base x k ps sp) (hr : Room k X.A) (hg : Gl X x)
    (ha : PA X (e :: es) t)
    (hdb : (x == ("__debug__" : Str)) = false := by decide)
    (hst : starEach (e :: es) X.env = (false, eval e X.env) :: starEach es X.env := by rfl)
    (hpl : (backTo pos (starEach es X.env)).any (·.1) = false := by rfl) :
    PE X (.Call (.Name x p) (e :: es) [] pos) (tCall sp [] E0 t) := by
  obtain ⟨f, fd, hm, hk, hb, F⟩ := D
  exact pe_call F hr hg hm hk hb .nil pass0 ha hdb hst hpl
theorem pe_df0 {X : Cx} {x : Str} {k : Nat} {ps : List Str} {sp : Sp} {p pos : Pos} (D : Df X.prog X.w X.K X.mg X.base x k ps sp) (hr : Room k X.A) (hg : Gl X x)
    (hdb : (x == ("__debug__" : Str)) = false := by decide) : PE X (.Call (.Name x p) [] [] pos) (tCall sp [] E0 tNil) := by
  obtain ⟨f, fd, hm, hk, hb, F⟩ := D
  exact pe_call0 F hr hg hm hk hb .nil pass0 hdb
/-- a method -/
structure Dm (P : Program) (w : World) (K : PySem.W.Frag) (mg : Str → Option Value) (base : Heap) (C : Addr) (m : Str) (k : Nat) (ps : List Str) (sp : Sp) : Prop where
  cl : Cls K C
  ex : ∃ f fd, Meth K C m f ∧ Binds K fd ps [] ∧ FnOk P w K mg base CX0 k f fd ps sp
theorem pe_dm {X : Cx} {C : Addr} {m : Str} {k : Nat} {ps : List Str} {sp : Sp} {pos apos : Pos} {o e : Expr} {es : List Expr} {ta : TE} {t : TA} {pl : Sem Bool} (D : Dm X.prog X.w X.K X.mg X.base C m k ps sp) (hr : Room k X.A) (ho : PE X o ta)
    (ha : PA X (e :: es) t) (hst : starEach (e :: es) X.env = (false, eval e X.env) :: starEach es X.env := by rfl) (hpl : (backTo pos (starEach es X.env)).any (·.1) = false := by rfl)
    (ht : eval (.Call (.Attribute o m apos) (e :: es) [] pos) X.env = (do
      let ov ← eval o X.env
      standAt apos.atName
      let (f, first) ← holding [ov] (getMethod ov m pl)
      callWith pos f first (backTo pos (starEach (e :: es) X.env)) (backToKw pos (keywordEach [] X.env))) := by rfl) :
    PE X (.Call (.Attribute o m apos) (e :: es) [] pos) (tMeth C m sp [] E0 ta t) := by
  obtain ⟨c, f, fd, hm, hb, F⟩ := D
  exact pe_meth ho c hm F hr hb .nil pass0 ha hst hpl ht
theorem pe_dm0 {X : Cx} {C : Addr} {m : Str} {k : Nat} {ps : List Str} {sp : Sp} {pos apos : Pos} {o : Expr} {ta : TE} {pl : Sem Bool} (D : Dm X.prog X.w X.K X.mg X.base C m k ps sp) (hr : Room k X.A) (ho : PE X o ta)
    (ht : eval (.Call (.Attribute o m apos) [] [] pos) X.env =
      (do
        let ov ← eval o X.env
        standAt apos.atName
        let (f, first) ← holding [ov] (getMethod ov m pl)
        callWith pos f first
          (backTo pos (starEach [] X.env)) (backToKw pos (keywordEach [] X.env))) := by rfl) :
    PE X (.Call (.Attribute o m apos) [] [] pos) (tMeth C m sp [] E0 ta tNil) := by
  obtain ⟨c, f, fd, hm, hb, F⟩ := D
  exact pe_meth0 ho c hm F hr hb .nil pass0 ht
/-- a class that makes instances -/
def Dk (P : Program) (w : World) (K : PySem.W.Frag) (mg : Str → Option Value) (base : Heap) (x : Str) (C : Addr) (k : Nat) (ps : List Str) (sp : Sp) : Prop :=
  ∃ f fd, mg x = some (.ref C) ∧ Mk K C f ∧ Binds K fd ps [] ∧ FnOk P w K mg base CX0 k f fd ps sp
theorem pe_mk {X : Cx} {x : Str} {C : Addr} {k : Nat} {ps : List Str} {sp : Sp} {p pos : Pos} {e : Expr} {es : List Expr} {t : TA} (D : Dk X.prog X.w X.K X.mg X.base x C k ps sp) (hr : Room (k + 1) X.A) (hg : Gl X x)
    (ha : PA X (e :: es) t)
    (hdb : (x == ("__debug__" : Str)) = false := by decide)
    (hst : starEach (e :: es) X.env = (false, eval e X.env) :: starEach es X.env := by rfl)
    (hpl : (backTo pos (starEach es X.env)).any (·.1) = false := by rfl) :
    PE X (.Call (.Name x p) (e :: es) [] pos) (tMake C sp [] E0 t) := by
  obtain ⟨f, fd, hm, M, hb, F⟩ := D
  exact pe_make M F hr hg hm hb .nil pass0 ha hdb hst hpl
theorem pe_mk0 {X : Cx} {x : Str} {C : Addr} {k : Nat} {ps : List Str} {sp : Sp} {p pos : Pos} (D : Dk X.prog X.w X.K X.mg X.base x C k ps sp) (hr : Room (k + 1) X.A) (hg : Gl X x)
    (hdb : (x == ("__debug__" : Str)) = false := by decide) : PE X (.Call (.Name x p) [] [] pos) (tMake C sp [] E0 tNil) := by
  obtain ⟨f, fd, hm, M, hb, F⟩ := D
  exact pe_make0 M F hr hg hm hb .nil pass0 hdb
/-- what the program's top leaves: numbers, tables, names that stay Python's own -/
structure Tx (K : PySem.W.Frag) (mg : Str → Option Value) (ad : String → Addr) : Prop where
  g_FARTHEST : ∃ t, mg "FARTHEST" = some (.int 10000 t)
  g_NOTHING : ∃ t, mg "NOTHING" = some (.int 0 t)
  g_LAST_COLOUR : ∃ t, mg "LAST_COLOUR" = some (.int 4 t)
  g_MOST_SECTORS : ∃ t, mg "MOST_SECTORS" = some (.int 12 t)
  g_NUMBERS_OF_SECTOR : ∃ t, mg "NUMBERS_OF_SECTOR" = some (.int 3 t)
  g_LONGEST_DIRECTION : ∃ t, mg "LONGEST_DIRECTION" = some (.int 1000 t)
  g_MOST_PLACES : ∃ t, mg "MOST_PLACES" = some (.int 1024 t)
  g_MOST_PAIRS : ∃ t, mg "MOST_PAIRS" = some (.int 24 t)
  g_NUMBERS_OF_PAIR : ∃ t, mg "NUMBERS_OF_PAIR" = some (.int 2 t)
  g_MOST_STEPS : ∃ t, mg "MOST_STEPS" = some (.int 500 t)
  g_LONGEST_STEP : ∃ t, mg "LONGEST_STEP" = some (.int 1000 t)
  g_BLANK : ∃ t, mg "BLANK" = some (.int 32 t)
  g_NOUGHT : ∃ t, mg "NOUGHT" = some (.int 48 t)
  g_NINE : ∃ t, mg "NINE" = some (.int 57 t)
  g_DARK : ∃ t, mg "DARK" = some (.int 45 t)
  g_WHITE : ∃ t, mg "WHITE" = some (.int 87 t)
  g_COLOUR_BYTES : mg "COLOUR_BYTES" = some (.ref (ad "COLOUR_BYTES"))
  s_COLOUR_BYTES : ∀ H : Hp, SqT K H (ad "COLOUR_BYTES") [V.int 45, V.int 87, V.int 82, V.int 71, V.int 89]
  g_MOST_DIGITS : ∃ t, mg "MOST_DIGITS" = some (.int 3 t)
  g_MOST_TENTHS : ∃ t, mg "MOST_TENTHS" = some (.int 600 t)
  g_MOST_PHASES : ∃ t, mg "MOST_PHASES" = some (.int 32 t)
  g_MOST_TOGETHER : ∃ t, mg "MOST_TOGETHER" = some (.int 6000 t)
  g_LONGEST_REACH : ∃ t, mg "LONGEST_REACH" = some (.int 20000 t)
  g_MOST_BYTES : ∃ t, mg "MOST_BYTES" = some (.int 1024 t)
  g_MOST_LIGHTS : ∃ t, mg "MOST_LIGHTS" = some (.int 24 t)
  g_MOST_COASTS : ∃ t, mg "MOST_COASTS" = some (.int 64 t)
  g_LAST_MOMENT : ∃ t, mg "LAST_MOMENT" = some (.int 1000000 t)
  g_LIGHT_CALL : ∃ t, mg "LIGHT_CALL" = some (.int 0 t)
  g_COAST_CALL : ∃ t, mg "COAST_CALL" = some (.int 1 t)
  g_SEEN_CALL : ∃ t, mg "SEEN_CALL" = some (.int 2 t)
  g_AT_CALL : ∃ t, mg "AT_CALL" = some (.int 3 t)
  g_RHYTHM_CALL : ∃ t, mg "RHYTHM_CALL" = some (.int 4 t)
  g_WHERE_CALL : ∃ t, mg "WHERE_CALL" = some (.int 5 t)
  g_TRACK_CALL : ∃ t, mg "TRACK_CALL" = some (.int 6 t)
  g_TELL_CALL : ∃ t, mg "TELL_CALL" = some (.int 7 t)
  g_NUMBERS_OF_CALL : mg "NUMBERS_OF_CALL" = some (.ref (ad "NUMBERS_OF_CALL"))
  s_NUMBERS_OF_CALL : ∀ H : Hp, SqT K H (ad "NUMBERS_OF_CALL") [V.int 3, V.int 4, V.int 2, V.int 3, V.int 3, V.int 4, V.int 5, V.int 4, V.int 0]
  g_LISTS_OF_CALL : mg "LISTS_OF_CALL" = some (.ref (ad "LISTS_OF_CALL"))
  s_LISTS_OF_CALL : ∀ H : Hp, SqT K H (ad "LISTS_OF_CALL") [V.int 2, V.int 0, V.int 0, V.int 0, V.int 0, V.int 1, V.int 0, V.int 1, V.int 0]
  b_any : mg "any" = none
  b_enumerate : mg "enumerate" = none
  b_len : mg "len" = none
  b_list : mg "list" = none
  b_max : mg "max" = none
  b_min : mg "min" = none
  b_ord : mg "ord" = none
  b_range : mg "range" = none
  b_sorted : mg "sorted" = none
  b_str : mg "str" = none
  b_sum : mg "sum" = none
  b_zip : mg "zip" = none
structure Cl_Light (K : PySem.W.Frag) (C : Addr) : Prop where
  cl : Cls K C
  n_place : NoAttr K C "place"
  n_reach : NoAttr K C "reach"
  n_phases : NoAttr K C "phases"
  n_sectors : NoAttr K C "sectors"
  n_shadows : NoAttr K C "shadows"
structure Cl_Chart (K : PySem.W.Frag) (C : Addr) : Prop where
  cl : Cls K C
  n_lights : NoAttr K C "lights"
  n_coasts : NoAttr K C "coasts"
/-! ### what lies in the heap -/
def IsT (H : Hp) (v : V) (xs : List V) : Prop := ∃ p, v = .ref p ∧ H p = some (.tup xs)
def IsL (H : Hp) (v : V) (xs : List V) : Prop := ∃ p, v = .ref p ∧ H p = some (.lst xs)
theorem IsT.mono {H H' : Hp} {v : V} {xs : List V} (h : IsT H v xs) (e : Ex H H') : IsT H' v xs := by
  obtain ⟨p, rfl, hp⟩ := h
  exact ⟨p, rfl, e p _ hp⟩
theorem IsL.mono {H H' : Hp} {v : V} {xs : List V} (h : IsL H v xs) (e : Ex H H') : IsL H' v xs := by
  obtain ⟨p, rfl, hp⟩ := h
  exact ⟨p, rfl, e p _ hp⟩
abbrev Pt := BnC.Point
def IsPt (H : Hp) (v : V) (a : Pt) : Prop := IsT H v [.int a.1, .int a.2]
theorem IsPt.mono {H H' : Hp} {v : V} {a : Pt} (h : IsPt H v a) (e : Ex H H') : IsPt H' v a := IsT.mono h e
/-- the promise of a def that changes nothing: asked pre of the arguments, it gives post of its value -/
def spFn {α : Type} (pre : List V → Hp → α → Prop) (post : α → V → Hp → Prop) : Sp := fun vs H Q _ => ∃ a, pre vs H a ∧ ∀ v H', Ex H H' → post a v H' → Q v H'
/-- places -/
def Near (m : Int) (a : Pt) : Prop := -m ≤ a.1 ∧ a.1 ≤ m ∧ -m ≤ a.2 ∧ a.2 ≤ m
/-! ### steps: what an expression comes to -/
section
variable {K : PySem.W.Frag} {σ : L2.St} {H : Hp} {ta tb tc te : TE} {x y z v : V} {r r' : R2} {D : Ends} {tz : TS}
theorem ev_chain {k m : Bool} (ha : Ev ta σ H x) (hb : Ev tb σ H y) (hc : Ev tc σ H z) (h1 : RV r x y H (.bl k)) (h2 : RV r' y z H (.bl m)) : Ev (tChain r r' ta tb tc) σ H (.bl (k && m)) := fun H1 e Q q =>
  ha H1 e _ fun H2 e2 => hb H2 (e.trans e2) _ fun H3 e3 => h1 H3 ((e.trans e2).trans e3) _ fun H4 e4 => ⟨k, rfl, by
    cases k with
    | true =>
      show tc σ H4 fun w' H5 => r' y w' H5 Q
      exact hc H4 (((e.trans e2).trans e3).trans e4) _ fun H5 e5 => h2 H5 ((((e.trans e2).trans e3).trans e4).trans e5) Q fun H6 e6 => q H6 ((((e2.trans e3).trans e4).trans e5).trans e6)
    | false =>
      show Q (.bl false) H4
      exact q H4 ((e2.trans e3).trans e4)⟩
theorem ev_one {b : Bool} (h : Ev ta σ H (.bl b)) : Ev ta σ H (.bl b) := h
/-- an item of a tuple that lies in the heap -/
theorem rv_it {p : Addr} {xs : List V} {i : Int} (h : H p = some (.tup xs)) (ha : atI xs i = some v) : RV (rIxT K) (.ref p) (.int i) H v := rv_ixT (st_of h) ha
theorem rv_il {p : Addr} {xs : List V} {i : Int} (h : H p = some (.lst xs)) (ha : atI xs i = some v) : RV (rIxL K) (.ref p) (.int i) H v := rv_ixL (sq_of h) ha
theorem rv_mul {i j : Int} (h : CMul i j) : RV (rI CMul fun i j => .int (i * j)) (.int i) (.int j) H (.int (i * j)) := rv_I (g := fun i j => .int (i * j)) h
/-- a, b = e: a tuple that lies in the heap -/
theorem q_un2 {i j : Nat} {p : Addr} {a b : V} (h : Ev te σ H (.ref p)) (hp : H p = some (.tup [a, b])) (k : ∀ H1, Ex H H1 → tz D ((σ.set i (some a)).set j (some b)) H1) :
    tSeq (tAsg te (gTup K 2 (gCons (gName i) (gCons (gName j) gNil)))) tz D σ H := h H (Ex.refl H) _ fun H1 e => ⟨p, _, rfl, st_of (e p _ hp), rfl, _, _, rfl, _, _, rfl, rfl, k H1 e⟩
theorem q_un3 {i j l : Nat} {p : Addr} {a b c : V} (h : Ev te σ H (.ref p)) (hp : H p = some (.tup [a, b, c])) (k : ∀ H1, Ex H H1 → tz D (((σ.set i (some a)).set j (some b)).set l (some c)) H1) :
    tSeq (tAsg te (gTup K 3 (gCons (gName i) (gCons (gName j) (gCons (gName l) gNil))))) tz D σ H := h H (Ex.refl H) _ fun H1 e => ⟨p, _, rfl, st_of (e p _ hp), rfl, _, _, rfl, _, _, rfl, _, _, rfl, rfl, k H1 e⟩
end
/-- a call of a def that changes nothing, whose value is v -/
theorem ev_fn {α : Type} {pre : List V → Hp → α → Prop} {post : α → V → Hp → Prop} {σ : L2.St} {H : Hp} {ta : TA} {vs : List V} {z : V} (a : α) (h : EvA ta σ H vs) (hp : ∀ H1, Ex H H1 → pre vs H1 a) (hz : ∀ v H1, post a v H1 → v = z) : Ev (tCall (spFn pre post) [] E0 ta) σ H z := by
  refine ev_call h fun H1 e Q q E => ?_
  refine ⟨a, ?_, fun v H2 e2 hv => ?_⟩
  · rw [List.append_nil]
    exact hp H1 e
  · rw [hz v H2 hv]
    exact q H2 e2
/-- a list whose items are told one by one -/
def Reps {α : Type} (R : V → α → Prop) (vs : List V) (xs : List α) : Prop := vs.length = xs.length ∧ ∀ (i : Nat) (v : V), vs[i]? = some v → ∃ x, xs[i]? = some x ∧ R v x
theorem Reps.nil {α : Type} {R : V → α → Prop} : Reps R [] ([] : List α) := ⟨rfl, fun i v h => by simp at h⟩
theorem Reps.imp {α : Type} {R S : V → α → Prop} {vs : List V} {xs : List α} (h : Reps R vs xs) (g : ∀ v x, R v x → S v x) : Reps S vs xs := ⟨h.1, fun i v e => by
  obtain ⟨x, h1, h2⟩ := h.2 i v e
  exact ⟨x, h1, g v x h2⟩⟩
theorem Reps.add {α : Type} {R : V → α → Prop} {vs : List V} {xs : List α} {v : V} {x : α} (h : Reps R vs xs) (hx : R v x) : Reps R (vs ++ [v]) (xs ++ [x]) := by
  refine ⟨by simp [h.1], fun i u e => ?_⟩
  by_cases c : i < vs.length
  · rw [List.getElem?_append_left c] at e
    obtain ⟨y, h1, h2⟩ := h.2 i u e
    exact ⟨y, by rw [List.getElem?_append_left (by rw [← h.1]; exact c)]; exact h1, h2⟩
  · have hi : i = vs.length := by
      have := (List.getElem?_eq_some_iff.mp e).1
      simp at this
      omega
    subst hi
    rw [List.getElem?_append_right (Nat.le_refl _)] at e
    simp at e
    subst e
    exact ⟨x, by rw [h.1, List.getElem?_append_right (Nat.le_refl _)]; simp, hx⟩
theorem Reps.at {α : Type} {R : V → α → Prop} {vs : List V} {xs : List α} {i : Nat} {x : α} (h : Reps R vs xs) (e : xs[i]? = some x) : ∃ v, vs[i]? = some v ∧ R v x := by
  have hi : i < vs.length := by
    rw [h.1]
    exact let ⟨lt, _⟩ := List.getElem?_eq_some_iff.mp e; lt
  obtain ⟨y, h1, h2⟩ := h.2 i vs[i] (by simp [hi])
  rw [e] at h1
  cases h1
  exact ⟨vs[i], by simp [hi], h2⟩
end Bc

namespace Bc
open PySem PySem.Spec PyProof.Rows L2 Evl
/-! ### sorted(.., key=f) of pairs by the pair turned round -/
def rowLe (p q : Pt) : Bool := decide (p.2 < q.2 ∨ (p.2 = q.2 ∧ p.1 ≤ q.1))
def rowKey (p : Pt) : PyData := .tuple [.int p.2, .int p.1]
theorem rowLe_is : PySem.W.dataLe false rowKey = rowLe := PySem.W.dataLe_ii (fun p : Pt => p.2) (fun p => p.1)
def sp_by_rows : Sp := spFn (fun vs H (a : Pt) => ∃ v, vs = [v] ∧ IsPt H v a) fun a v H' => IsPt H' v (a.2, a.1)
def rSortRows (f : Addr) : List V → List V → Hp → VK → Prop := fun vs zs H Q => ∃ (l : Addr) (xs : List V) (ps : List Pt), vs = [.ref l] ∧ zs = [.ref f] ∧ H l = some (.lst xs) ∧ Reps (IsPt H) xs ps ∧
  ∀ (H' : Hp) (p : Addr) (ys : List V), Ex H H' → H p = none → H' p = some (.lst ys) → Reps (IsPt H') ys (ps.mergeSort rowLe) → Q (.ref p) H'
theorem each_of_at {α : Type} {R : Value → α → Prop} (us : List Value) (ys : List α) (hl : us.length = ys.length) (g : ∀ (i : Nat) (v : Value) (x : α), us[i]? = some v → ys[i]? = some x → R v x) : PySem.W.EachIs R us ys := by
  induction us generalizing ys with
  | nil =>
    cases ys with
    | nil => exact .nil
    | cons y ys => exact absurd hl (by simp)
  | cons u us ih =>
    cases ys with
    | nil => exact absurd hl (by simp)
    | cons y ys => exact .cons (g 0 u y rfl rfl) (ih ys (by simpa using hl) fun i w z e1 e2 => g (i + 1) w z e1 e2)
/-- values that are references, seen as such -/
theorem refs_of {H : Hp} : ∀ {out : List Value} {ps : List Pt}, PySem.W.EachIs (fun v p => ∃ q, v = Value.ref q ∧ IsPt H (.ref q) p) out ps → ∃ ys, Vals ys out ∧ Reps (IsPt H) ys ps
  | _, _, .nil => ⟨[], .nil, Reps.nil⟩
  | _, _, .cons (a := a) (as := as) (b := b) (bs := bs) ⟨q, e, h⟩ t => by
    obtain ⟨ys, h1, h2, h3⟩ := refs_of t
    refine ⟨V.ref q :: ys, .cons (by rw [e]; rfl) h1, by simp [h2], fun i v hi => ?_⟩
    cases i with
    | zero => cases hi; exact ⟨_, rfl, h⟩
    | succ i => exact h3 i v hi
theorem dp_pair {K : PySem.W.Frag} {H : Hp} {v : V} {a b : Int} (h : IsT H v [.int a, .int b]) : Dp K H v (.tuple [.int a, .int b]) := by
  obtain ⟨p, rfl, hp⟩ := h
  exact .tup (SqT.of hp) (.cons (.int a) (.cons (.int b) .nil))
section
variable {X : Cx} {k : Nat} {f : Addr} {fd : FuncData}
theorem key_call {σ : L2.St} {pins : List (Addr × Obj)} {H : Hp} {s : Shared} {p : Addr} {a : Pt} (F : FnOk X.prog X.w X.K X.mg X.base CX0 k f fd ["place"] sp_by_rows) (hb : Binds X.K fd ["place"] []) (hr : Room (k + 2) X.A)
    (I : Inv X pins σ H s) (hp : IsPt H (.ref p) a) : wpAny (model X.prog X.w) X.A.in1.in1 (call (.ref f) [.ref p])
      (fun v s' => ∃ q H', Inv X pins σ H' s' ∧ v = Value.ref q ∧ Ex H H' ∧ IsPt H' (.ref q) (a.2, a.1) ∧ Un (frs X.stack) [] H H' s.heap s'.heap) (fun _ _ => False) s := by
  have hsp : sp_by_rows [V.ref p] H (fun v H' => Ex H H' ∧ IsPt H' v (a.2, a.1)) E0 := ⟨a, ⟨_, rfl, hp⟩, fun v H' e h => ⟨e, h⟩⟩
  refine wpAny_call (codeAny_mono (F.run X.A.in1.in1 X.stack s H ⟨[.ref p], []⟩ [.ref p] [.ref p] _ E0 hr.in1.in1 I.env0.in1.in1 (hb s [.ref p] I.kIn rfl) (.cons rfl .nil) hsp) fun back s' hq => ?_)
  match back, hq with
  | .ok (.ret u), hq =>
    obtain ⟨v, H', os, bare, un, hok, rv, e, h⟩ := (show CE X.stack X.prog X.w H s _ u s' from hq)
    obtain ⟨q, rfl, hq'⟩ := id h
    cases rv
    exact ⟨q, H', I.call' os un hok bare (fun b y => absurd y List.not_mem_nil), rfl, e, h, un⟩
theorem cr_sortRows (F : FnOk X.prog X.w X.K X.mg X.base CX0 k f fd ["place"] sp_by_rows) (hb : Binds X.K fd ["place"] []) (hr : Room (k + 2) X.A) : CallRK X (.builtin "sorted") [Str.ofString "key"] (rSortRows f) := by
  rintro pins s σ H _ _ us ws Q I r rz ⟨l, xs, ps, rfl, rfl, hl, hx, q⟩
  have hus := Vals.ref1 r
  subst hus
  obtain ⟨wf, hws, ef⟩ := vals1 rz
  subst hws
  have ef : wf = Value.ref f := ef
  subst ef
  obtain ⟨its, rv, pl, hz⟩ := I.list (SqL.of hl)
  have hlen : its.length = ps.length := by rw [← rv.length, hx.1]
  refine PySem.W.sorted_of_sort pl.isList (by rw [← rv.length]; exact hz) (ksk_s1 _ _) (fun _ => ksk_l1 _ _) fun E' => ?_
  show wpAny _ _ (Builtin.«list.sort» ⟨[.ref (s.heap.objs.size + 1)], [(Str.ofString "key", .ref f)]⟩) _ _ _
  rw [ksk_t1]
  have ra : FbM.Rec X pins (s.heap.objs.size + 1) := FbM.rec_new I (Nat.le_succ _)
  have na : H (s.heap.objs.size + 1) = none := I.hok.fresh (Nat.le_succ _)
  have ho := PySem.W.copyHeap_at s.heap its
  have I1 : Inv X pins σ H { s with heap := PySem.W.copyHeap s.heap its } := I.kept (t' := s.toks) fun b o e => PySem.W.copyHeap_old e
  have hsz0 : s.heap.objs.size + 1 < (PySem.W.copyHeap s.heap its).objs.size := Heap.lt_size ho
  generalize PySem.W.copyHeap s.heap its = h0 at ho I1 hsz0 ⊢
  obtain ⟨e1, ho1⟩ : ∃ e1, (h0.update (s.heap.objs.size + 1) (Obj.mapSeq fun _ => (#[] : Array Value))).get? (s.heap.objs.size + 1) = some (seqObj "list" #[] e1) := ⟨_, get?_update_seq ho fun _ => #[]⟩
  have hzl : its.length ≤ sizeLine := by rw [← rv.length]; exact hz
  unfold ksk_tree
  refine wpAny_bind (listItems_at ho rfl (wpAny_bind (listUpdate_at ho rfl (wpAny_bind (seqEpoch_at ho1 rfl (wpAny_bind (wpAny_newTuple (wpAny_bind (wpAny_newList (wpAny_holding ?_) (Nat.zero_le _))) (by show its.length ≤ _; exact hzl))))) (by rw [List.size_toArray]; exact hzl) (Nat.zero_le _))))
  have hkS : ((h0.update (s.heap.objs.size + 1) (Obj.mapSeq fun _ => (#[] : Array Value))).push (seqObj "tuple" its.toArray 0)).objs.size = h0.objs.size + 1 := by rw [size_push', Heap.size_update]
  have gS : (((h0.update (s.heap.objs.size + 1) (Obj.mapSeq fun _ => (#[] : Array Value))).push (seqObj "tuple" its.toArray 0)).push (seqObj "list" #[] 0)).get? (h0.objs.size + 1) = some (seqObj "list" #[] 0) := by
    exact hkS ▸ Heap.get?_push_size _ rfl
  have ga : (((h0.update (s.heap.objs.size + 1) (Obj.mapSeq fun _ => (#[] : Array Value))).push (seqObj "tuple" its.toArray 0)).push (seqObj "list" #[] 0)).get? (s.heap.objs.size + 1) = some (seqObj "list" #[] e1) := Heap.get?_push_of_some _ (Heap.get?_push_of_some _ ho1)
  have rS : FbM.Rec X pins (h0.objs.size + 1) := FbM.rec_new I1 (Nat.le_succ _)
  have nS : H (h0.objs.size + 1) = none := I1.hok.fresh (Nat.le_succ _)
  have I2 : Inv X pins σ H { s with heap := ((h0.update (s.heap.objs.size + 1) (Obj.mapSeq fun _ => (#[] : Array Value))).push (seqObj "tuple" its.toArray 0)).push (seqObj "list" #[] 0) } := ra.turn (s := { s with heap := h0 }) (t' := s.toks) I1 na fun c o hc e => PySem.W.sortingHeap_old hc e
  rw [hkS]
  have hka : h0.objs.size + 1 ≠ s.heap.objs.size + 1 := by omega
  dsimp only
  generalize ((h0.update (s.heap.objs.size + 1) (Obj.mapSeq fun _ => (#[] : Array Value))).push (seqObj "tuple" its.toArray 0)).push (seqObj "list" #[] 0) = h2 at gS ga I2 ⊢
  generalize s.heap.objs.size + 1 = a at *
  generalize h0.objs.size + 1 = kS at *
  clear ho ho1 I1 hkS
  unfold ksk_rest
  refine wpAny_bind (wpAny_rule (?_ : wpAny _ _ (forIn its.toArray PUnit.unit _ >>= _) _ _ _))
  rw [List.forIn_toArray]
  refine wpAny_bind (ksk_fold (fun i s' => ∃ (Hj : Hp) (kA : Array Value) (e : Nat), Inv X pins σ Hj s' ∧ Ex H Hj ∧ Hj a = none ∧ Hj kS = none ∧ s'.heap.get? kS = some (seqObj "list" kA e) ∧ s'.heap.get? a = some (seqObj "list" #[] e1) ∧
      kA.size = i ∧ ∀ (j : Nat) (v : Value), kA.toList[j]? = some v → ∃ p, ps[j]? = some p ∧ ∃ q, v = .ref q ∧ IsPt Hj (.ref q) (p.2, p.1)) its 0 { s with heap := h2 }
    ⟨H, #[], 0, I2, Ex.refl H, na, nS, gS, ga, rfl, fun j v h => by simp at h⟩ ?step ?done)
  case step =>
    rintro j x s' hxj ⟨Hj, kA, e, Ij, eH, naj, nSj, gk, gaj, hsz, hk⟩
    simp only [Nat.zero_add] at hsz ⊢
    have hj : j < its.length := (List.getElem?_eq_some_iff.mp hxj).1
    obtain ⟨p, hpj⟩ : ∃ p, ps[j]? = some p := ⟨_, List.getElem?_eq_getElem (by omega)⟩
    obtain ⟨v, hv, hp⟩ := hx.at hpj
    obtain ⟨t, rfl, ht⟩ := id hp
    obtain ⟨u, hu, ru⟩ := rv.get hv
    rw [hxj] at hu
    cases hu
    cases ru
    refine wpAny_bind (wpAny_attempt (wpAny_mono (key_call F hb hr Ij (hp.mono eH)) (fun v s'' he => ?_) fun _ _ hF => hF.elim))
    obtain ⟨q', H2, J, rfl, e2, hq, un⟩ := he
    have g2 := un.keep _ _ gk nSj rS.fr List.not_mem_nil
    have a2 := un.keep _ _ gaj naj ra.fr List.not_mem_nil
    have nS2 := un.free _ _ gk nSj List.not_mem_nil
    have na2 := un.free _ _ gaj naj List.not_mem_nil
    dsimp only
    have s1 := Heap.SameBut.update s''.heap kS (Obj.mapSeq (·.push (Value.ref q')))
    obtain ⟨c2, hc2⟩ : ∃ c2, (s''.heap.update kS (Obj.mapSeq (·.push (Value.ref q')))).get? kS = some (seqObj "list" (kA.push (.ref q')) c2) := ⟨_, get?_update_seq g2 (·.push (Value.ref q'))⟩
    have hle : kA.size ≤ sizeLine := by omega
    refine wpAny_bind (listUpdate_at g2 rfl ?_ hle (Nat.le_trans (Nat.le_of_eq (Array.size_push ..)) (Nat.succ_le_succ hle)))
    refine wpAny_pure ⟨rfl, H2, kA.push (.ref q'), c2, rS.turn (t' := s''.toks) J nS2 fun c o hc e => (s1.2 c hc).trans e, eH.trans e2, na2, nS2, hc2, (s1.2 a hka.symm).trans a2, by rw [Array.size_push, hsz], fun i v hi => ?_⟩
    rw [Array.toList_push] at hi
    by_cases c : i < kA.toList.length
    · rw [List.getElem?_append_left c] at hi
      obtain ⟨p1, h1, q1, rfl, h2⟩ := hk i v hi
      exact ⟨p1, h1, q1, rfl, h2.mono e2⟩
    · have hi0 : i = j := by
        obtain ⟨this, _⟩ := List.getElem?_eq_some_iff.mp hi
        simp at this c
        omega
      subst hi0
      rw [List.getElem?_append_right (by omega)] at hi
      simp [hsz] at hi
      subst hi
      exact ⟨p, hpj, q', rfl, hq⟩
  case done =>
    rintro s' ⟨Hj, kA, e, Ij, eH, naj, nSj, gk, gaj, hsz, hk⟩
    simp only [Nat.zero_add] at hsz
    refine wpAny_bind (listItems_at gk rfl ?_)
    have hread : PySem.W.EachIs (fun v d => ∃ as, Reads s'.heap v d as) kA.toList (ps.map rowKey) := by
      refine each_of_at _ _ (by rw [Array.length_toList, List.length_map, hsz, hlen]) fun i v d e1 e2 => ?_
      obtain ⟨p, h1, q1, rfl, h2⟩ := hk i v e1
      rw [List.getElem?_map, h1] at e2
      cases e2
      exact Dp.reads Ij _ _ _ (dp_pair h2) rfl
    have hal : PySem.W.AllAlike (ps.map rowKey) := PySem.W.AllAlike.of fun b b' => by simp [rowKey, PySem.W.alike, PySem.W.alikeAll]
    have hsk : PySem.W.Sortable (ps.map rowKey) := .inl fun d hd => by
      obtain ⟨p, _, rfl⟩ := List.mem_map.mp hd
      exact ⟨_, _, rfl⟩
    have hu : ∀ d, d ∈ ps.map rowKey → X.A.in1.in1.units + d.depth < cLine := fun d hd => by
      obtain ⟨p, _, rfl⟩ := List.mem_map.mp hd
      have := hr.in1.in1.un
      have e : (rowKey p).depth ≤ 4 := by simp [rowKey, PyData.depth, PyData.depthAll]
      omega
    refine PySem.W.keyH_end (κ := PySem.W.dataKind s'.heap (ps.map rowKey)) (h₁ := PySem.W.hideAll s'.heap [kS]) (fun b o hb e => PySem.W.of_hideAll _ e) (PySem.W.hideAll_none _ (by simp)) gk gaj hka
      (PySem.W.SortsAt.data hread hal hsk hu) (by rw [hsz]) hzl fun h3 tk3 c k3 n3 => ⟨rfl, ?_⟩
    have ko : PySem.W.KeyedOut false (ps.map rowKey) its (PySem.W.sortVals (PySem.W.dataKind s'.heap (ps.map rowKey)) false kA.toList its) := ⟨s'.heap, kA.toList, hal, rfl, hread⟩
    have hR : PySem.W.EachIs (fun v p => ∃ q, v = Value.ref q ∧ IsPt Hj (.ref q) p) its ps := each_of_at _ _ hlen fun i v p e1 e2 => by
      obtain ⟨y, hy, hp⟩ := hx.at e2
      obtain ⟨t, rfl, ht⟩ := id hp
      obtain ⟨u, hu, ru⟩ := rv.get hy
      rw [e1] at hu
      cases hu
      cases ru
      exact ⟨t, rfl, hp.mono eH⟩
    have he := PySem.W.keyedOut_each rowKey ko hR
    rw [rowLe_is] at he
    generalize PySem.W.sortVals (PySem.W.dataKind s'.heap (ps.map rowKey)) false kA.toList its = out at n3 he
    obtain ⟨ys, h1, h2⟩ := refs_of he
    have hyl : ys.length ≤ sizeLine := by rw [h2.1, List.length_mergeSort, ← hlen]; exact hzl
    have kept : ∀ b o, b ∉ [a, kS] → s'.heap.get? b = some o → h3.get? b = some o := fun b o hb e => k3 b o (fun z => hb (by simp [z])) (PySem.W.hideAll_get _ e fun z => hb (by simp at z; simp [z]))
    refine ⟨.ref a, upd Hj a (.lst ys), ?_, rfl, q _ a ys (eH.trans (Ex.new naj)) (by cases hh : H a with
      | none => rfl
      | some o => rw [eH _ _ hh] at naj; cases naj) upd_same (h2.imp fun v p t => t.mono (Ex.new naj))⟩
    refine Ij.step (g' := s'.gens) (d' := s'.drawn) (t' := tk3) (ch := [a, kS]) (fun b hb => ?_) (fun b o _ _ hc e _ => kept b o hc e) (fun b o _ _ hc e _ => ⟨o.slots, kept b o hc e⟩) (fun b o hc e n => ?_) (fun b o hc e => ⟨o, kept b o hc e⟩)
      (fun b xs e => ?_) (fun b o u e => ?_) (fun b qs e => ⟨#[], ?_⟩) (fun m hm => ?_) (fun b u e => ?_) Ij.bare
    · rcases List.eq_or_mem_of_mem_cons hb with rfl | hb
      · exact ⟨.inr ra.ge, ra.nl, ra.ce, ra.pn⟩
      · rw [List.eq_of_mem_singleton hb]
        exact ⟨.inr rS.ge, rS.nl, rS.ce, rS.pn⟩
    · rw [upd_ne (fun z => hc (by simp [z]))]
      exact n
    · rw [upd_ne (ne_of_none e naj)]; exact e
    · rw [upd_ne (ne_of_none e naj)]; exact e
    · rw [upd_ne (ne_of_none e naj), e]; simp
    · obtain ⟨ob, es, ep, hob, rr⟩ := hm
      exact ⟨ob, es, ep, kept _ ob (fun z => by
        rcases List.eq_or_mem_of_mem_cons z with z | z
        · exact ra.nl z.symm
        · exact rS.nl (List.mem_singleton.mp z).symm) hob, rr⟩
    · by_cases hb : b = a
      · subst hb
        rw [upd_same] at e
        cases e
        exact ⟨hyl, out, c, h1, n3⟩
      · rw [upd_ne hb] at e
        refine (Ij.hok b u e).stay (fun d v hc q => kept d v ?_ q) (fun d q => by rw [upd_ne (ne_of_none q naj)]; exact q) fun d xs q => by rw [upd_ne (ne_of_none q naj)]; exact q
        have nn : ∀ {d : Addr} {o : HO}, Hj d = some o → d ∉ [a, kS] := fun {d o} q z => by
          rcases List.eq_or_mem_of_mem_cons z with z | z
          · rw [z, naj] at q; cases q
          · rw [List.mem_singleton.mp z, nSj] at q; cases q
        rcases hc with rfl | hc
        · exact nn e
        · exact nn hc
end
/-! ### xs.extend(a tuple); xs[j], seen by values -/
def rExtT (K : PySem.W.Frag) : V → List V → Hp → VK → Prop := fun x vs H Q => ∃ l b xs zs, x = .ref l ∧ vs = [.ref b] ∧ H l = some (.lst xs) ∧ SqT K H b zs ∧ xs.length + zs.length ≤ sizeLine ∧ Q .non (upd H l (.lst (xs ++ zs)))
section
variable {X : Cx}
theorem mt_extT : MtR X "list.extend" (rExtT X.K) := by
  rintro pins s σ H _ _ w us Q I rw rv ⟨l, b, xs, zs, rfl, rfl, hH, hB, hz, q⟩
  have hw : w = Value.ref l := rw
  subst hw
  obtain ⟨u, rfl, ru⟩ := rv.one
  have hu : u = Value.ref b := ru
  subst hu
  obtain ⟨_, its, n, r, _, e⟩ := I.lstM hH
  obtain ⟨its2, r2, ⟨o, e2, hc, n2, hd⟩, z2⟩ := I.tuple hB
  have lx := r.length
  have ly := r2.length
  have hsz : its.toArray.size + its2.toArray.size ≤ sizeLine := by
    simp only [List.size_toArray]
    omega
  have hlong : ¬ (!its.toArray.isEmpty && Builtin.List.listTooLong (its.toArray.size + its2.toArray.size)) = true := extend_door hsz
  refine wpAny_call_entry F.slot_list_extend ⟨_, e, rfl⟩ F.entry_list_extend ?_ (F.args_list_extend_2 _ _)
  show wpAny _ _ (Builtin.List.listExtendWith (.ref l) (.ref b) .none) _ _ _
  unfold Builtin.List.listExtendWith; refine wpAny_bind (wpAny_typeOf_ref e2 ?_)
  rw [hc]
  have hb : (Builtin.List.listSameRef (.ref l) (.ref b) || Value.type "tuple" == Value.type "list" || Value.type "tuple" == Value.type "tuple") = true := by
    rw [show (Value.type "tuple" == Value.type "tuple") = true by decide, Bool.or_true]
  rw [if_pos hb]
  refine wpAny_bind (listItems_at e2 hd ?_)
  refine wpAny_bind (listItems_at e rfl ?_)
  rw [if_neg hlong]
  refine wpAny_bind (listUpdate_at e rfl ?_ (by rw [List.size_toArray]; omega) (by rw [Array.size_append]; omega))
  refine wpAny_pure ⟨_, rfl, .non, _, I.lset (its' := its ++ its2) (t' := s.toks) hH e (by simp) (r.append r2) ?_, rfl, q⟩
  rw [List.length_append]
  omega
def rGetL (K : PySem.W.Frag) : V → V → Hp → VK → Prop := fun x y H Q => ∃ p xs j v, x = .ref p ∧ y = .int ((j : Nat) : Int) ∧ SqL K H p xs ∧ xs[j]? = some v ∧ Q v H
theorem get_list : PGet X (rGetL X.K) := by
  intro pins s σ H o i ov iv Q I ro ri h
  obtain ⟨p, xs, j, v, rfl, rfl, hp, hv, q⟩ := h
  cases ro
  obtain ⟨t, rfl⟩ := ri
  obtain ⟨its, r, pl, hz⟩ := I.list hp
  obtain ⟨w, ew, rw'⟩ := r.get hv
  have hj := (List.getElem?_eq_some_iff.mp hv).1
  have hn := line63
  exact wpAny_getItem_list pl.isList (by omega) (by omega) (by simpa using ew) ⟨v, H, I, rw', q⟩
end
end Bc

namespace Bc
open PySem PySem.Spec PyProof.Rows L2 Evl
local macro_rules | `(tactic| walk_at "ev") => `(tactic| repeat' (first
  | with_reducible exact ev_c
  | with_reducible exact rv_I0
  | with_reducible exact ru_neg
  | with_reducible exact ea_nil
  | with_reducible refine' ev_var ?_
  | with_reducible refine' ev_chain ?_ ?_ ?_ ?_ ?_
  | with_reducible refine' ev_op ?_ ?_ ?_
  | with_reducible refine' ev_un ?_ ?_
  | with_reducible refine' ev_andV ?_ (fun _ => ?_)
  | with_reducible refine' ev_orV ?_ (fun _ => ?_)
  | with_reducible refine' ev_notV ?_
  | with_reducible refine' et_test ?_
  | with_reducible refine' et_B ?_
  | with_reducible refine' et_and ?_ (fun _ => ?_)
  | with_reducible refine' et_or ?_ (fun _ => ?_)
  | with_reducible refine' et_not ?_
  | with_reducible refine' ea_cons ?_ ?_
  | with_reducible refine' rv_it (by assumption) ?_
  | with_reducible refine' rv_mul ?_
  | with_reducible refine' rv_eq ?_
  | with_reducible refine' rv_ne ?_
  | exact rfl
  | ((with_reducible show CMul _ _); (try dsimp only at *); first | exact Or.inl ⟨by omega, by omega⟩ | exact Or.inr ⟨by omega, by omega⟩)))
/-! ### places -/
section
variable {P : Program} {w : World} {K : PySem.W.Frag} {mg : Str → Option Value} {base : Heap} {ad : String → Addr}
abbrev s_is_place : Stmt := top 2
abbrev N_is_place : List Str := ["place", "x", "y"]
theorem sc_is_place : FnScope N_is_place ["place"] (defScope s_is_place) := ⟨rfl, rfl, rfl, by decide +kernel, rfl, by decide +kernel, by decide +kernel⟩
def placeB (a : Pt) : Bool := (decide (-10000 ≤ a.1) && decide (a.1 ≤ 10000)) && (decide (-10000 ≤ a.2) && decide (a.2 ≤ 10000))
def sp_is_place : Sp := spFn (fun vs H (a : Pt) => ∃ v, vs = [v] ∧ IsPt H v a) fun a v _ => v = .bl (placeB a)
theorem ok_is_place (T : Tx K mg ad) {f : Addr} {fd : FuncData} (F : Fun K "is_place" "is_place" s_is_place f fd) : FnOk P w K mg base CX0 1 f fd ["place"] sp_is_place := by
  refine F.ok sc_is_place (fun vs H Q E h => ?_) (fun cdv A outer s H vs Q E hr h => ?_)
  · obtain ⟨a, ⟨v, rfl, _⟩, _⟩ := h
    rfl
  · refine ⟨_, (pss_cons (ps_asg (pv 0) (pg_tup rfl (pgs_cons (pg_name (i := 1) sc_is_place.nd rfl (Or.inl rfl)) (pgs_cons (pg_name (i := 2) sc_is_place.nd rfl (Or.inl rfl)) pgs_nil))))
    (pss_one (ps_ret (pe_and (pe_chain op_le op_le (pe_un un_neg (pe_gint (by rfl) T.g_FARTHEST)) (pv 1) (pe_gint (by rfl) T.g_FARTHEST)) (pe_one (pe_chain op_le op_le (pe_un un_neg (pe_gint (by rfl) T.g_FARTHEST)) (pv 2) (pe_gint (by rfl) T.g_FARTHEST))))))), ?_⟩
    obtain ⟨a, ⟨v, rfl, p, rfl, hp⟩, k⟩ := h
    refine q_un2 (ev_var rfl) hp fun H1 e1 => ?_
    refine s_ret (v := .bl (placeB a)) ?_ fun H2 e2 => k _ _ (e1.trans e2) rfl
    unfold placeB
    walk_at "ev"
abbrev s_by_rows : Stmt := top 3
abbrev N_by_rows : List Str := ["place"]
theorem sc_by_rows : FnScope N_by_rows ["place"] (defScope s_by_rows) := ⟨rfl, rfl, rfl, by decide +kernel, rfl, by decide +kernel, by decide +kernel⟩
theorem ok_by_rows {f : Addr} {fd : FuncData} (F : Fun K "by_rows" "by_rows" s_by_rows f fd) : FnOk P w K mg base CX0 1 f fd ["place"] sp_by_rows := by
  refine F.ok sc_by_rows (fun vs H Q E h => ?_) (fun cdv A outer s H vs Q E hr h => ?_)
  · obtain ⟨a, ⟨v, rfl, _⟩, _⟩ := h
    rfl
  · refine ⟨_, (pss_one (ps_ret (pe_tup (pa_cons (pe_ix ix_tup (pv 0) pe_int (fun _ _ => rfl)) (pa_cons (pe_ix ix_tup (pv 0) pe_int (fun _ _ => rfl)) pa_nil))))), ?_⟩
    obtain ⟨a, ⟨v, rfl, ⟨p, rfl, hp⟩⟩, k⟩ := h
    refine s_retU (xs := [.int a.2, .int a.1]) (eu_tup (ea_cons ?_ (ea_cons ?_ ea_nil)) (by simp)) fun r H1 hr e h1 => k _ _ e ⟨r, rfl, h1⟩
    · walk_at "ev"
    · walk_at "ev"
abbrev s_way_between : Stmt := top 4
abbrev N_way_between : List Str := ["start", "end"]
theorem sc_way_between : FnScope N_way_between ["start", "end"] (defScope s_way_between) := ⟨rfl, rfl, rfl, by decide +kernel, rfl, by decide +kernel, by decide +kernel⟩
def sp_way_between : Sp := spFn (fun vs H (a : Pt × Pt) => ∃ v u, vs = [v, u] ∧ IsPt H v a.1 ∧ IsPt H u a.2) fun a v H' => IsPt H' v (way a.1 a.2)
theorem ok_way_between {f : Addr} {fd : FuncData} (F : Fun K "way_between" "way_between" s_way_between f fd) : FnOk P w K mg base CX0 1 f fd ["start", "end"] sp_way_between := by
  refine F.ok sc_way_between (fun vs H Q E h => ?_) (fun cdv A outer s H vs Q E hr h => ?_)
  · obtain ⟨a, ⟨v, u, rfl, _⟩, _⟩ := h
    rfl
  · refine ⟨_, (pss_one (ps_ret (pe_tup (pa_cons (pe_op op_sub (pe_ix ix_tup (pv 1) pe_int (fun _ _ => rfl)) (pe_ix ix_tup (pv 0) pe_int (fun _ _ => rfl))) (pa_cons (pe_op op_sub (pe_ix ix_tup (pv 1) pe_int (fun _ _ => rfl)) (pe_ix ix_tup (pv 0) pe_int (fun _ _ => rfl))) pa_nil))))), ?_⟩
    obtain ⟨⟨a, b⟩, ⟨v, u, rfl, ⟨p, rfl, hp⟩, ⟨q, rfl, hq⟩⟩, k⟩ := h
    refine s_retU (xs := [.int (b.1 - a.1), .int (b.2 - a.2)]) (eu_tup (ea_cons ?_ (ea_cons ?_ ea_nil)) (by simp)) fun r H1 hr e h1 => k _ _ e ⟨r, rfl, h1⟩
    · walk_at "ev"
    · walk_at "ev"
abbrev s_square_of_length : Stmt := top 5
abbrev N_square_of_length : List Str := ["way", "x", "y"]
theorem sc_square_of_length : FnScope N_square_of_length ["way"] (defScope s_square_of_length) := ⟨rfl, rfl, rfl, by decide +kernel, rfl, by decide +kernel, by decide +kernel⟩
def sp_square_of_length : Sp := spFn (fun vs H (a : Pt) => (∃ v, vs = [v] ∧ IsPt H v a) ∧ Near 1000000 a) fun a v _ => v = .int (BnC.dot a a)
theorem ok_square_of_length {f : Addr} {fd : FuncData} (F : Fun K "square_of_length" "square_of_length" s_square_of_length f fd) : FnOk P w K mg base CX0 1 f fd ["way"] sp_square_of_length := by
  refine F.ok sc_square_of_length (fun vs H Q E h => ?_) (fun cdv A outer s H vs Q E hr h => ?_)
  · obtain ⟨a, ⟨⟨v, rfl, _⟩, _⟩, _⟩ := h
    rfl
  · refine ⟨_, (pss_cons (ps_asg (pv 0) (pg_tup rfl (pgs_cons (pg_name (i := 1) sc_square_of_length.nd rfl (Or.inl rfl)) (pgs_cons (pg_name (i := 2) sc_square_of_length.nd rfl (Or.inl rfl)) pgs_nil))))
    (pss_one (ps_ret (pe_op op_add (pe_op op_mul (pv 1) (pv 1)) (pe_op op_mul (pv 2) (pv 2)))))), ?_⟩
    obtain ⟨a, ⟨⟨v, rfl, p, rfl, hp⟩, n1, n2, n3, n4⟩, k⟩ := h
    refine q_un2 (ev_var rfl) hp fun H1 e1 => ?_
    refine s_ret (v := .int (BnC.dot a a)) ?_ fun H2 e2 => k _ _ (e1.trans e2) rfl
    unfold BnC.dot
    walk_at "ev"
abbrev s_turn_between : Stmt := top 6
abbrev N_turn_between : List Str := ["first", "second"]
theorem sc_turn_between : FnScope N_turn_between ["first", "second"] (defScope s_turn_between) := ⟨rfl, rfl, rfl, by decide +kernel, rfl, by decide +kernel, by decide +kernel⟩
def sp_turn_between : Sp := spFn (fun vs H (a : Pt × Pt) => (∃ v u, vs = [v, u] ∧ IsPt H v a.1 ∧ IsPt H u a.2) ∧ Near 1000000 a.1) fun a v _ => v = .int (BnC.cross a.1 a.2)
theorem ok_turn_between {f : Addr} {fd : FuncData} (F : Fun K "turn_between" "turn_between" s_turn_between f fd) : FnOk P w K mg base CX0 1 f fd ["first", "second"] sp_turn_between := by
  refine F.ok sc_turn_between (fun vs H Q E h => ?_) (fun cdv A outer s H vs Q E hr h => ?_)
  · obtain ⟨a, ⟨⟨v, u, rfl, _⟩, _⟩, _⟩ := h
    rfl
  · refine ⟨_, (pss_one (ps_ret (pe_op op_sub (pe_op op_mul (pe_ix ix_tup (pv 0) pe_int (fun _ _ => rfl)) (pe_ix ix_tup (pv 1) pe_int (fun _ _ => rfl))) (pe_op op_mul (pe_ix ix_tup (pv 0) pe_int (fun _ _ => rfl)) (pe_ix ix_tup (pv 1) pe_int (fun _ _ => rfl)))))), ?_⟩
    obtain ⟨⟨a, b⟩, ⟨⟨v, u, rfl, ⟨p, rfl, hp⟩, ⟨q, rfl, hq⟩⟩, n1, n2, n3, n4⟩, k⟩ := h
    refine s_ret (v := .int (BnC.cross a b)) ?_ fun H2 e2 => k _ _ e2 rfl
    unfold BnC.cross
    walk_at "ev"
/-! ### coasts -/
theorem rc_min {H : Hp} {i j : Int} : RC (fun xs H Q => ∃ i j, xs = [.int i, .int j] ∧ Q (.int (if j < i then j else i)) H) [.int i, .int j] H (.int (min i j)) := fun H1 _ Q q => ⟨i, j, rfl, by
  have e : (if j < i then j else i) = min i j := by split <;> omega
  rw [e]
  exact q H1 (Ex.refl H1)⟩
theorem rc_max {H : Hp} {i j : Int} : RC (fun xs H Q => ∃ i j, xs = [.int i, .int j] ∧ Q (.int (if j > i then j else i)) H) [.int i, .int j] H (.int (max i j)) := fun H1 _ Q q => ⟨i, j, rfl, by
  have e : (if j > i then j else i) = max i j := by split <;> omega
  rw [e]
  exact q H1 (Ex.refl H1)⟩
theorem near_way {a b : Pt} (ha : Near 10000 a) (hb : Near 10000 b) : Near 20000 (way a b) := by
  unfold Near way at *
  dsimp only
  omega
theorem Near.le {m n : Int} {a : Pt} (h : Near m a) (hn : m ≤ n) : Near n a := by
  unfold Near at *
  omega
theorem mul_near {m n x y : Int} (hx : -m ≤ x ∧ x ≤ m) (hy : -n ≤ y ∧ y ≤ n) : -(m * n) ≤ x * y ∧ x * y ≤ m * n := by
  have h1 : 0 ≤ (m - x) * (n - y) := Int.mul_nonneg (by omega) (by omega)
  have h2 : 0 ≤ (m + x) * (n + y) := Int.mul_nonneg (by omega) (by omega)
  have h3 : 0 ≤ (m - x) * (n + y) := Int.mul_nonneg (by omega) (by omega)
  have h4 : 0 ≤ (m + x) * (n - y) := Int.mul_nonneg (by omega) (by omega)
  constructor <;> grind
theorem cross_near {a b : Pt} (ha : Near 20000 a) (hb : Near 20000 b) : -800000000 ≤ BnC.cross a b ∧ BnC.cross a b ≤ 800000000 := by
  unfold Near at *
  have h1 := mul_near (m := 20000) (n := 20000) (x := a.1) (y := b.2) (by omega) (by omega)
  have h2 := mul_near (m := 20000) (n := 20000) (x := a.2) (y := b.1) (by omega) (by omega)
  unfold BnC.cross
  omega
/-- a coast: one end, the other -/
def IsCo (H : Hp) (v : V) (c : BnC.Coast) : Prop := (∃ x y, IsT H v [x, y] ∧ IsPt H x c.1 ∧ IsPt H y c.2) ∧ Near 10000 c.1 ∧ Near 10000 c.2 ∧ c.1 ≠ c.2
theorem IsCo.mono {H H' : Hp} {v : V} {c : BnC.Coast} (h : IsCo H v c) (e : Ex H H') : IsCo H' v c := by
  obtain ⟨⟨x, y, h1, h2, h3⟩, h4⟩ := h
  exact ⟨⟨x, y, h1.mono e, h2.mono e, h3.mono e⟩, h4⟩
def IsCos (H : Hp) (v : V) (cs : List BnC.Coast) : Prop := ∃ p vs, v = .ref p ∧ H p = some (.lst vs) ∧ Reps (IsCo H) vs cs
theorem IsCos.mono {H H' : Hp} {v : V} {cs : List BnC.Coast} (h : IsCos H v cs) (e : Ex H H') : IsCos H' v cs := by
  obtain ⟨p, vs, rfl, hp, hr⟩ := h
  exact ⟨p, vs, rfl, e _ _ hp, hr.imp fun v x q => q.mono e⟩
theorem any_drop {α : Type} {f : α → Bool} {l : List α} {i : Nat} {x : α} (h : l[i]? = some x) : (l.drop i).any f = (f x || (l.drop (i + 1)).any f) := by
  obtain ⟨hi, rfl⟩ := List.getElem?_eq_some_iff.mp h
  rw [List.drop_eq_getElem_cons hi, List.any_cons]
end
end Bc

namespace Bc
open PySem PySem.Spec PyProof.Rows L2 Evl
local macro_rules | `(tactic| walk_at "ev") => `(tactic| repeat' (first
  | with_reducible exact ev_c
  | with_reducible exact rv_I0
  | with_reducible exact ru_neg
  | with_reducible exact ea_nil
  | with_reducible refine' ev_var ?_
  | with_reducible refine' ev_chain ?_ ?_ ?_ ?_ ?_
  | with_reducible refine' ev_op ?_ ?_ ?_
  | with_reducible refine' ev_un ?_ ?_
  | with_reducible refine' ev_andV ?_ (fun _ => ?_)
  | with_reducible refine' ev_orV ?_ (fun _ => ?_)
  | with_reducible refine' ev_notV ?_
  | with_reducible refine' et_test ?_
  | with_reducible refine' et_B ?_
  | with_reducible refine' et_and ?_ (fun _ => ?_)
  | with_reducible refine' et_or ?_ (fun _ => ?_)
  | with_reducible refine' et_not ?_
  | with_reducible refine' ea_cons ?_ ?_
  | with_reducible refine' rv_it (by assumption) ?_
  | with_reducible refine' rv_mul ?_
  | with_reducible refine' rv_eq ?_
  | with_reducible refine' rv_ne ?_
  | exact rfl
  | ((with_reducible show CMul _ _); (try dsimp only at *); first | exact Or.inl ⟨by omega, by omega⟩ | exact Or.inr ⟨by omega, by omega⟩)))
section
variable {P : Program} {w : World} {K : PySem.W.Frag} {mg : Str → Option Value} {base : Heap} {ad : String → Addr}
/-! ### bytes -/
abbrev byV (c : UInt8) : V := .int (c.toNat : Int)
def IsBy (H : Hp) (v : V) (b : List UInt8) : Prop := IsL H v (b.map byV)
theorem IsBy.mono {H H' : Hp} {v : V} {b : List UInt8} (h : IsBy H v b) (e : Ex H H') : IsBy H' v b := IsL.mono h e
theorem byte_eq (c : UInt8) (m : Int) (d : UInt8) (h : m = (d.toNat : Int)) : decide (V.int (c.toNat : Int) = V.int m) = decide (c = d) := by
  subst h
  rw [decide_eq_decide]
  constructor
  · intro h
    have h : (c.toNat : Int) = d.toNat := V.int.inj h
    exact UInt8.toNat_inj.mp (by omega)
  · intro h
    rw [h]
theorem at_map {b : List UInt8} {i : Nat} {v : V} (h : (b.map byV)[i]? = some v) : ∃ c, b[i]? = some c ∧ v = byV c := by
  rw [List.getElem?_map] at h
  cases e : b[i]? with
  | none => (rw [e] at h; exact nomatch h)
  | some c => rw [e] at h; exact ⟨c, rfl, (Option.some.inj h).symm⟩
theorem drop_at {α : Type} {l : List α} {i : Nat} {x : α} (h : l[i]? = some x) : l.drop i = x :: l.drop (i + 1) := by
  obtain ⟨hi, rfl⟩ := List.getElem?_eq_some_iff.mp h
  exact List.drop_eq_getElem_cons hi
abbrev s_split_text : Stmt := top 45
abbrev N_split_text : List Str := ["text", "parts", "part", "byte"]
theorem sc_split_text : FnScope N_split_text ["text"] (defScope s_split_text) := ⟨rfl, rfl, rfl, by decide +kernel, rfl, by decide +kernel, by decide +kernel⟩
/-- bytes in a list that H0 doesn't know -/
def NewBy (H0 H : Hp) (v : V) (b : List UInt8) : Prop := ∃ p, v = .ref p ∧ H0 p = none ∧ H p = some (.lst (b.map byV))
/-- a new list of such -/
def NewBys (H0 H : Hp) (v : V) (ws : List (List UInt8)) : Prop := ∃ p vs, v = .ref p ∧ H0 p = none ∧ H p = some (.lst vs) ∧ Reps (NewBy H0 H) vs ws
def sp_split_text : Sp := fun vs H Q _ => ∃ b : List UInt8, ((∃ v, vs = [v] ∧ IsBy H v b) ∧ b.length ≤ 2000) ∧ ∀ v H', Ex H H' → NewBys H H' v (Bn.split 32 b) → Q v H'
/-- in the loop: the parts, none of which is the list of them or the part that grows -/
def Parted (H0 H : Hp) (pp pt : Addr) (v : V) (w : List UInt8) : Prop := ∃ q, v = .ref q ∧ q ≠ pp ∧ q ≠ pt ∧ H0 q = none ∧ H q = some (.lst (w.map byV))
theorem ok_split_text (T : Tx K mg ad) {f : Addr} {fd : FuncData} (F : Fun K "split_text" "split_text" s_split_text f fd) : FnOk P w K mg base CX0 1 f fd ["text"] sp_split_text := by
  refine F.ok sc_split_text (fun vs H Q E h => ?_) (fun cdv A outer s H vs Q E hr h => ?_)
  · obtain ⟨a, ⟨⟨v, rfl, _⟩, _⟩, _⟩ := h
    rfl
  · refine ⟨_, (pss_cons (ps_set (i := 1) sc_split_text.nd rfl (Or.inl rfl) (pe_lst pa_nil))
    (pss_cons (ps_set (i := 2) sc_split_text.nd rfl (Or.inl rfl) (pe_lst pa_nil))
    (pss_cons (ps_for PassesOwn.never rfl (pi_list (pv 0)) (pg_name (i := 3) sc_split_text.nd rfl (Or.inl rfl)) 
        (pss_one (ps_if (pt_cmpR op_eq (pv 3) (pe_gint (by rfl) T.g_BLANK) (nomark _)) 
            (pss_cons (ps_expr (pe_bm PySem.F.plainAttrs_list PySem.F.slot_list_append PySem.F.type_list_append mt_append (pv 1) (pa_cons (pv 2) pa_nil)))
            (pss_one (ps_set (i := 2) sc_split_text.nd rfl (Or.inl rfl) (pe_lst pa_nil)))) 
            (pss_one (ps_expr (pe_bm PySem.F.plainAttrs_list PySem.F.slot_list_append PySem.F.type_list_append mt_append (pv 2) (pa_cons (pv 3) pa_nil)))))))
    (pss_cons (ps_expr (pe_bm PySem.F.plainAttrs_list PySem.F.slot_list_append PySem.F.type_list_append mt_append (pv 1) (pa_cons (pv 2) pa_nil)))
    (pss_one (ps_ret (pv 1))))))), ?_⟩
    obtain ⟨b, ⟨⟨v, rfl, pa, rfl, ha⟩, hlen⟩, k⟩ := h
    refine q_asgL (el_lst ea_nil (by simp)) fun pp H1 npp e1 hpp => ?_
    refine q_asgL (el_lst ea_nil (by simp)) fun pt H2 npt e2 hpt => ?_
    have ne1 : pt ≠ pp := fun q => by rw [q, hpp] at npt; cases npt
    have ne2 : pa ≠ pp := ne_of_none ha npp
    have ne3 : pa ≠ pt := ne_of_none (e1 _ _ ha) npt
    refine ⟨_, rfl, pa, rfl, ⟨_, sq_of ((e1.trans e2) _ _ ha)⟩, for_it (walk_list (K := K) (a := pa) (xs := b.map byV)) (fun i σ H' => ∃ pt vs parts part y, σ = [some (.ref pa), some (.ref pp), some (.ref pt), y] ∧ pt ≠ pp ∧ H pt = none ∧ (∀ a o, H a = some o → H' a = some o) ∧ H' pp = some (.lst vs) ∧ H' pt = some (.lst (part.map byV)) ∧ Reps (Parted H H' pp pt) vs parts ∧ parts.length + part.length ≤ i ∧ splitGo [] [] b = splitGo parts part (b.drop i))
      ⟨pt, [], [], [], none, rfl, ne1, fresh_back e1 npt, e1.trans e2, e2 _ _ hpp, hpt, Reps.nil, Nat.le_refl _, rfl⟩ ?_ ?_ ?_⟩
    · rintro i σ H' _ ⟨pt, vs, parts, part, y, _, _, _, h, _⟩
      exact sq_of (h _ _ ha)
    · rintro i v σ H3 H4 hi ⟨pt, vs, parts, part, y, rfl, n1, n2, e3, h1, h2, h3, h4, h5⟩ ⟨rfl, hx⟩
      obtain ⟨c, hc, rfl⟩ := at_map hx
      rw [drop_at hc] at h5
      have hle : i < b.length := (List.getElem?_eq_some_iff.mp hc).1
      refine s_if (b := decide (c = 32)) ?_ (fun q H5 e5 => ?_) (fun q H5 e5 => ?_)
      · refine et_test (ev_is (v := .bl (decide (V.int (c.toNat : Int) = V.int 32))) ?_ (congrArg V.bl (byte_eq c 32 32 rfl)))
        walk_at "ev"
      · have q : c = 32 := of_decide_eq_true q
        refine q_app (l := pp) (e5 _ _ h1) (ev_var rfl) (ev_var rfl) (by rw [h3.1]; omega) fun H6 e6 => ?_
        refine s_asgL (el_lst ea_nil (by simp)) fun pn H7 npn e7 hpn => ?_
        have nn : pn ≠ pp := fun z => by rw [z, upd_same] at npn; cases npn
        have old : ∀ a o, a ≠ pp → H4 a = some o → H7 a = some o := fun a o na z => e7 _ _ (by rw [upd_ne na]; exact e6 _ _ (e5 _ _ z))
        have fr : ∀ a o, H4 a = some o → a ≠ pn := fun a o z w => by
          rw [← w] at npn
          by_cases na : a = pp
          · exact nn (w ▸ na)
          · rw [upd_ne na, e6 _ _ (e5 _ _ z)] at npn
            cases npn
        refine ⟨pn, vs ++ [.ref pt], parts ++ [part], [], some (byV c), rfl, nn, ?_, fun a o z => old a o (ne_of_none z npp) (e3 _ _ z), e7 _ _ upd_same, hpn, ?_, ?_, ?_⟩
        · cases z : H pn with
          | none => rfl
          | some o => exact absurd rfl (fr _ _ (e3 _ _ z))
        · refine Reps.add (h3.imp fun v x g => ?_) ⟨pt, rfl, n1, fr _ _ h2, n2, old _ _ n1 h2⟩
          obtain ⟨g1, rfl, g2, g3, g5, g4⟩ := g
          exact ⟨g1, rfl, g2, fr _ _ g4, g5, old _ _ g2 g4⟩
        · simp only [List.length_append, List.length_singleton, List.length_nil]
          omega
        · rw [h5]
          show (if c = 32 then splitGo (parts ++ [part]) [] (b.drop (i + 1)) else splitGo parts (part ++ [c]) (b.drop (i + 1))) = _
          rw [if_pos q]
      · have q : ¬ c = 32 := of_decide_eq_false q
        refine s_app (l := pt) (e5 _ _ h2) (ev_var rfl) (ev_var rfl) (by simp; omega) fun H6 e6 => ?_
        have old : ∀ a o, a ≠ pt → H4 a = some o → upd H6 pt (.lst (part.map byV ++ [byV c])) a = some o := fun a o na z => by rw [upd_ne na]; exact e6 _ _ (e5 _ _ z)
        refine ⟨pt, vs, parts, part ++ [c], some (byV c), rfl, n1, n2, fun a o z => old a o (ne_of_none z n2) (e3 _ _ z), old _ _ n1.symm h1, ?_, h3.imp fun v x g => ?_, ?_, ?_⟩
        · rw [List.map_append]
          exact upd_same
        · obtain ⟨g1, rfl, g2, g3, g5, g4⟩ := g
          exact ⟨g1, rfl, g2, g3, g5, old _ _ g3 g4⟩
        · simp only [List.length_append, List.length_singleton]
          omega
        · rw [h5]
          show (if c = 32 then splitGo (parts ++ [part]) [] (b.drop (i + 1)) else splitGo parts (part ++ [c]) (b.drop (i + 1))) = _
          rw [if_neg q]
    · rintro σ H3 ⟨pt, vs, parts, part, y, rfl, n1, n2, e3, h1, h2, h3, h4, h5⟩
      dsimp only
      rw [List.length_map, List.drop_length] at h5
      rw [List.length_map] at h4
      refine q_app (l := pp) h1 (ev_var rfl) (ev_var rfl) (by rw [h3.1]; omega) fun H6 e6 => ?_
      refine s_ret (v := .ref pp) (ev_var rfl) fun H7 e7 => ?_
      have old : ∀ a o, a ≠ pp → H3 a = some o → H7 a = some o := fun a o na z => e7 _ _ (by rw [upd_ne na]; exact e6 _ _ z)
      refine k _ _ (fun a o z => old a o (ne_of_none z npp) (e3 _ _ z)) ⟨pp, _, rfl, npp, e7 _ _ upd_same, ?_⟩
      rw [← splitGo_is, h5]
      refine Reps.add (h3.imp fun v x g => ?_) ⟨pt, rfl, n2, old _ _ n1 h2⟩
      obtain ⟨g1, rfl, g2, g3, g5, g4⟩ := g
      exact ⟨g1, rfl, g5, old _ _ g2 g4⟩
abbrev s_read_tenths : Stmt := top 46
abbrev N_read_tenths : List Str := ["digits", "tenths", "digit"]
theorem sc_read_tenths : FnScope N_read_tenths ["digits"] (defScope s_read_tenths) := ⟨rfl, rfl, rfl, by decide +kernel, rfl, by decide +kernel, by decide +kernel⟩
def optV : Option Nat → V
  | none => .non
  | some n => .int n
def sp_read_tenths : Sp := spFn (fun vs H (b : List UInt8) => ∃ v, vs = [v] ∧ IsBy H v b) fun b v _ => v = optV (tenths b)
theorem isDigit_is (c : UInt8) : (decide ((c.toNat : Int) < 48) || decide (57 < (c.toNat : Int))) = !Bn.isDigit c := by
  unfold Bn.isDigit
  rw [Bool.eq_iff_iff]
  simp only [Bool.or_eq_true, Bool.not_eq_true', Bool.and_eq_false_iff, decide_eq_true_iff, decide_eq_false_iff_not, UInt8.le_iff_toNat_le]
  have e1 : (48 : UInt8).toNat = 48 := rfl
  have e2 : (57 : UInt8).toNat = 57 := rfl
  rw [e1, e2]
  omega
theorem ok_read_tenths (T : Tx K mg ad) {f : Addr} {fd : FuncData} (F : Fun K "read_tenths" "read_tenths" s_read_tenths f fd) : FnOk P w K mg base CX0 1 f fd ["digits"] sp_read_tenths := by
  refine F.ok sc_read_tenths (fun vs H Q E h => ?_) (fun cdv A outer s H vs Q E hr h => ?_)
  · obtain ⟨a, ⟨v, rfl, _⟩, _⟩ := h
    rfl
  · refine ⟨_, (pss_cons (ps_if (PW.pt (pw_or (pt_cmpR op_lt (pe_callB call_len_seq (by rfl) T.b_len PySem.boot_len (pa_cons (pv 0) pa_nil)) pe_int (nomark _)) (pw_or (pt_cmpR op_gt (pe_callB call_len_seq (by rfl) T.b_len PySem.boot_len (pa_cons (pv 0) pa_nil)) (pe_gint (by rfl) T.g_MOST_DIGITS) (nomark _)) (pw_or1 (pt_cmpR op_eq (pe_ix ix_list (pv 0) pe_int (fun _ _ => rfl)) (pe_gint (by rfl) T.g_NOUGHT) (nomark _)))))) 
        (pss_one (ps_ret pe_non)) pss_nil)
    (pss_cons (ps_set (i := 1) sc_read_tenths.nd rfl (Or.inl rfl) pe_int)
    (pss_cons (ps_for PassesOwn.never rfl (pi_list (pv 0)) (pg_name (i := 2) sc_read_tenths.nd rfl (Or.inl rfl)) 
        (pss_cons (ps_if (PW.pt (pw_or (pt_cmpR op_lt (pv 2) (pe_gint (by rfl) T.g_NOUGHT) (nomark _)) (pw_or1 (pt_cmpR op_gt (pv 2) (pe_gint (by rfl) T.g_NINE) (nomark _))))) 
            (pss_one (ps_ret pe_non)) pss_nil)
        (pss_one (ps_set (i := 1) sc_read_tenths.nd rfl (Or.inl rfl) (pe_op op_sub (pe_op op_add (pe_op op_mul (pv 1) pe_int) (pv 2)) (pe_gint (by rfl) T.g_NOUGHT))))))
    (pss_cons (ps_if (pt_cmpR op_gt (pv 1) (pe_gint (by rfl) T.g_MOST_TENTHS) (nomark _)) 
        (pss_one (ps_ret pe_non)) pss_nil)
    (pss_one (ps_ret (pv 1))))))), ?_⟩
    obtain ⟨b, ⟨v, rfl, pa, rfl, ha⟩, k⟩ := h
    refine q_when (b := (decide ((b.length : Int) < 1) || (decide (3 < (b.length : Int)) || decide (b.head? = some 48)))) ?_ (fun q H1 e1 => ?_) (fun q H1 e1 => ?_)
    · refine et_or (et_test (ev_op (ev_is (ev_len (ev_var rfl) (sq_of ha)) (by rw [List.length_map])) ev_c rv_I0)) fun q1 => et_or (et_test (ev_op (ev_is (ev_len (ev_var rfl) (sq_of ha)) (by rw [List.length_map])) ev_c rv_I0)) fun q2 => ?_
      have q1 := of_decide_eq_false q1
      cases hb : b with
      | nil => rw [hb] at q1; exact absurd (by decide) q1
      | cons c r =>
        refine et_test (ev_is (v := .bl (decide (V.int (c.toNat : Int) = V.int 48))) ?_ (congrArg V.bl ((byte_eq c 48 48 rfl).trans ?_)))
        · refine ev_op (ev_op (ev_var rfl) ev_c (rv_il ha ?_)) ev_c (rv_eq rfl)
          rw [hb]
          exact atI_nat (j := 0) rfl
        · rw [decide_eq_decide]
          simp
    · refine s_ret (v := .non) ev_c fun H2 e2 => k _ _ (e1.trans e2) ?_
      show V.non = optV (tenths b)
      unfold tenths
      rw [if_pos]
      · rfl
      · simp only [Bool.or_eq_true, decide_eq_true_iff] at q
        rcases q with q | q | q
        · exact .inl (.inl (by omega))
        · exact .inl (.inr (by omega))
        · exact .inr q
    · have q' : ¬ ((b.length < 1 ∨ 3 < b.length) ∨ b.head? = some 48) := by
        simp only [Bool.or_eq_false_iff, decide_eq_false_iff_not] at q
        rintro ((w | w) | w)
        · omega
        · omega
        · exact q.2.2 w
      have ht : tenths b = match tenthsIn 0 b with
          | none => none
          | some n => if 600 < n then none else some n := if_neg q'
      have hl : b.length ≤ 3 := by omega
      refine q_asg ev_c fun H2 e2 => ?_
      refine ⟨_, rfl, pa, rfl, ⟨_, sq_of ((e1.trans e2) _ _ ha)⟩, for_it (walk_list (K := K) (a := pa) (xs := b.map byV)) (fun i σ H' => ∃ (n : Nat) (y : Option V), σ = [some (.ref pa), some (.int n), y] ∧ Ex H H' ∧ n + 1 ≤ 10 ^ i ∧ tenthsIn 0 b = tenthsIn n (b.drop i))
        ⟨0, none, rfl, e1.trans e2, by decide, rfl⟩ ?_ ?_ ?_⟩
      · rintro i σ H' _ ⟨n, y, _, e, _⟩
        exact sq_of (e _ _ ha)
      · rintro i v σ H3 H4 hi ⟨n, y, rfl, e3, hn, h5⟩ ⟨rfl, hx⟩
        obtain ⟨c, hc, rfl⟩ := at_map hx
        have hle : i < b.length := (List.getElem?_eq_some_iff.mp hc).1
        have hsm : n + 1 ≤ 1000 := Nat.le_trans hn (Nat.le_trans (Nat.pow_le_pow_right (by decide) (show i ≤ 3 by omega)) (by decide))
        rw [drop_at hc] at h5
        have hs : tenthsIn n (c :: b.drop (i + 1)) = if Bn.isDigit c = true then tenthsIn (n * 10 + (c.toNat - 48)) (b.drop (i + 1)) else none := rfl
        refine q_when (b := !Bn.isDigit c) ?_ (fun q H5 e5 => ?_) (fun q H5 e5 => ?_)
        · refine et_is ?_ (isDigit_is c)
          walk_at "ev"
        · refine s_ret (v := .non) ev_c fun H6 e6 => k _ _ (e3.trans (e5.trans e6)) ?_
          show V.non = optV (tenths b)
          rw [Bool.not_eq_true'] at q
          rw [ht, h5, hs, if_neg (by rw [q]; decide)]
          rfl
        · have q : Bn.isDigit c = true := by simpa using q
          have qd : 48 ≤ c.toNat ∧ c.toNat ≤ 57 := by
            obtain ⟨kk, h1, h2⟩ := digit_of q
            rw [h2]
            have : (UInt8.ofNat (48 + kk)).toNat = 48 + kk := by
              rw [UInt8.toNat_ofNat']
              omega
            omega
          refine s_asg (v := .int ((n * 10 + (c.toNat - 48) : Nat) : Int)) ?_ fun H6 e6 => ?_
          · refine ev_is (v := .int ((n : Int) * 10 + (c.toNat : Int) - 48)) ?_ (congrArg V.int (by omega))
            walk_at "ev"
          · refine ⟨n * 10 + (c.toNat - 48), _, rfl, e3.trans (e5.trans e6), ?_, ?_⟩
            · rw [Nat.pow_succ]
              omega
            · rw [h5, hs, if_pos q]
      · rintro σ H3 ⟨n, y, rfl, e3, hn, h5⟩
        dsimp only
        rw [List.length_map, List.drop_length] at h5
        have h5 : tenthsIn 0 b = some n := h5
        rw [h5] at ht
        refine q_when (b := decide (600 < (n : Int))) ?_ (fun q H5 e5 => ?_) (fun q H5 e5 => ?_)
        · walk_at "ev"
        · refine s_ret (v := .non) ev_c fun H6 e6 => k _ _ (e3.trans (e5.trans e6)) ?_
          show V.non = optV (tenths b)
          rw [ht]
          show V.non = optV (if 600 < n then none else some n)
          rw [if_pos (by have := of_decide_eq_true q; omega)]
          rfl
        · refine s_ret (v := .int n) (ev_var rfl) fun H6 e6 => k _ _ (e3.trans (e5.trans e6)) ?_
          show V.int n = optV (tenths b)
          rw [ht]
          show V.int n = optV (if 600 < n then none else some n)
          rw [if_neg (by have := of_decide_eq_false q; omega)]
          rfl
abbrev s_read_phase : Stmt := top 47
abbrev N_read_phase : List Str := ["part", "tenths"]
theorem sc_read_phase : FnScope N_read_phase ["part"] (defScope s_read_phase) := ⟨rfl, rfl, rfl, by decide +kernel, rfl, by decide +kernel, by decide +kernel⟩
def IsPh (H : Hp) (v : V) (x : UInt8 × Nat) : Prop := IsT H v [byV x.1, .int x.2]
theorem IsPh.mono {H H' : Hp} {v : V} {x : UInt8 × Nat} (h : IsPh H v x) (e : Ex H H') : IsPh H' v x := IsT.mono h e
def OptPh (H : Hp) (v : V) : Option (UInt8 × Nat) → Prop
  | none => v = .non
  | some x => IsPh H v x
def sp_read_phase : Sp := spFn (fun vs H (b : List UInt8) => (∃ v, vs = [v] ∧ IsBy H v b) ∧ b.length ≤ 2000) fun b v H' => OptPh H' v (phaseB b)
theorem inV_all : ∀ n : Fin 256, inV (V.int (n.val : Int)) [V.int 45, V.int 87, V.int 82, V.int 71, V.int 89] = Bn.SIGNS.contains (UInt8.ofNat n.val) := by decide +kernel
theorem inV_is (c : UInt8) : inV (byV c) [V.int 45, V.int 87, V.int 82, V.int 71, V.int 89] = Bn.SIGNS.contains c := by
  have h := inV_all ⟨c.toNat, c.toNat_lt⟩
  have e : UInt8.ofNat c.toNat = c := UInt8.ofNat_toNat
  show inV (V.int (c.toNat : Int)) _ = _
  rw [h]
  show Bn.SIGNS.contains (UInt8.ofNat c.toNat) = _
  rw [e]
theorem cut_tail (v : V) (r : List V) : cutV (v :: r) (some 1) none = r := by
  have h1 : HT.sIx (v :: r).length 0 (some 1) = 1 := by
    unfold HT.sIx
    simp
  have h2 : HT.sIx (v :: r).length (v :: r).length none = (v :: r).length := rfl
  unfold cutV
  rw [h1, h2]
  simp
theorem ok_read_phase (T : Tx K mg ad) (D_read_tenths : Df P w K mg base "read_tenths" 1 ["digits"] sp_read_tenths) {f : Addr} {fd : FuncData} (F : Fun K "read_phase" "read_phase" s_read_phase f fd) : FnOk P w K mg base CX0 2 f fd ["part"] sp_read_phase := by
  refine F.ok sc_read_phase (fun vs H Q E h => ?_) (fun cdv A outer s H vs Q E hr h => ?_)
  · obtain ⟨a, ⟨⟨v, rfl, _⟩, _⟩, _⟩ := h
    rfl
  · refine ⟨_, (pss_cons (ps_if (PW.pt (pw_or (pt_cmpR op_eq (pe_callB call_len_seq (by rfl) T.b_len PySem.boot_len (pa_cons (pv 0) pa_nil)) pe_int (nomark _)) (pw_or1 (pt_cmpR op_notIn_seq (pe_ix ix_list (pv 0) pe_int (fun _ _ => rfl)) (pe_gtup (by rfl) T.g_COLOUR_BYTES) rfl)))) 
        (pss_one (ps_ret pe_non)) pss_nil)
    (pss_cons (ps_set (i := 1) sc_read_phase.nd rfl (Or.inl rfl) (pe_df D_read_tenths (hr.mono (by decide)) (by rfl) (pa_cons (pe_slice sl_list (pv 0) (po_some pe_int) po_none) pa_nil)))
    (pss_cons (ps_if (pt_cmpR op_isN (pv 1) pe_non (nomark _)) 
        (pss_one (ps_ret pe_non)) pss_nil)
    (pss_one (ps_ret (pe_tup (pa_cons (pe_ix ix_list (pv 0) pe_int (fun _ _ => rfl)) (pa_cons (pv 1) pa_nil)))))))), ?_⟩
    obtain ⟨b, ⟨⟨v, rfl, pa, rfl, ha⟩, hlen⟩, k⟩ := h
    cases hb : b with
    | nil =>
      subst hb
      refine q_when (b := true || true) (et_or (et_test (ev_op (ev_len (ev_var rfl) (sq_of ha)) ev_c (rv_eq rfl))) fun q1 => absurd q1 (by decide)) (fun q H1 e1 => ?_) (fun q => absurd q (by decide))
      exact s_ret (v := .non) ev_c fun H2 e2 => k _ _ (e1.trans e2) rfl
    | cons c r =>
      subst hb
      have h0 : atI ((c :: r).map byV) 0 = some (byV c) := atI_nat (j := 0) rfl
      have hph : phaseB (c :: r) = if Bn.SIGNS.contains c = true then (match tenths r with
        | none => none
        | some n => some (c, n)) else none := rfl
      refine q_when (b := (false || !Bn.SIGNS.contains c)) (et_or (et_is (et_test (ev_op (ev_len (ev_var rfl) (sq_of ha)) ev_c (rv_eq rfl))) ?_) fun q1 => ?_) (fun q H1 e1 => ?_) (fun q H1 e1 => ?_)
      · rw [decide_eq_false_iff_not]
        intro w
        have w : (((c :: r).map byV).length : Int) = 0 := V.int.inj w
        simp at w
        omega
      · refine et_test (ev_is (ev_op (ev_op (ev_var rfl) ev_c (rv_il ha h0)) ev_c (rv_niT (T.s_COLOUR_BYTES H) rfl rfl)) ?_)
        rw [inV_is]
      · refine s_ret (v := .non) ev_c fun H2 e2 => k _ _ (e1.trans e2) ?_
        show OptPh _ V.non (phaseB (c :: r))
        rw [hph, if_neg (by simpa using q)]
        rfl
      · have q : Bn.SIGNS.contains c = true := by simpa using q
        rw [if_pos q] at hph
        refine q_asg (v := optV (tenths r)) ?_ fun H2 e2 => ?_
        · refine fun H2 e2 Q q => ?_
          refine ⟨_, rfl, _, rfl, pa, _, rfl, sq_of ((e1.trans e2) _ _ ha), fun p hp => ⟨r, ⟨_, rfl, p, rfl, ?_⟩, fun v H3 e3 hv => ?_⟩⟩
          · rw [upd_same]
            show some (HO.lst (cutV (byV c :: r.map byV) (some 1) none)) = _
            rw [cut_tail]
          · rw [hv]
            exact q _ ((Ex.new hp).trans e3)
        · cases ht : tenths r with
          | none =>
            rw [ht] at hph
            refine q_when (b := true) (et_test (fun H2 e2 Q q => ⟨_, rfl, rfl, q _ (Ex.refl _)⟩)) (fun _ H3 e3 => ?_) (fun q => absurd q (by decide))
            refine s_ret (v := .non) ev_c fun H4 e4 => k _ _ (e1.trans (e2.trans (e3.trans e4))) ?_
            show OptPh _ V.non (phaseB (c :: r))
            rw [hph]
            rfl
          | some n =>
            rw [ht] at hph
            refine q_when (b := false) (et_test (fun H2 e2 Q q => ⟨_, rfl, rfl, q _ (Ex.refl _)⟩)) (fun q => absurd q (by decide)) (fun _ H3 e3 => ?_)
            have e13 := e1.trans (e2.trans e3)
            refine s_retU (xs := [byV c, .int n]) (eu_tup (ea_cons (ev_op (ev_var rfl) ev_c (rv_il (e13 _ _ ha) h0)) (ea_cons (ev_var rfl) ea_nil)) (by simp)) fun p H4 hp e4 h4 => ?_
            refine k _ _ (e13.trans e4) ?_
            show OptPh _ _ (phaseB (c :: r))
            rw [hph]
            exact ⟨p, rfl, h4⟩
end
end Bc

namespace Bc
open PySem PySem.Spec PyProof.Rows L2 Evl
local macro_rules | `(tactic| walk_at "ev") => `(tactic| repeat' (first
  | with_reducible exact ev_c
  | with_reducible exact rv_I0
  | with_reducible exact ru_neg
  | with_reducible exact ea_nil
  | with_reducible refine' ev_var ?_
  | with_reducible refine' ev_chain ?_ ?_ ?_ ?_ ?_
  | with_reducible refine' ev_op ?_ ?_ ?_
  | with_reducible refine' ev_un ?_ ?_
  | with_reducible refine' ev_andV ?_ (fun _ => ?_)
  | with_reducible refine' ev_orV ?_ (fun _ => ?_)
  | with_reducible refine' ev_notV ?_
  | with_reducible refine' et_test ?_
  | with_reducible refine' et_B ?_
  | with_reducible refine' et_and ?_ (fun _ => ?_)
  | with_reducible refine' et_or ?_ (fun _ => ?_)
  | with_reducible refine' et_not ?_
  | with_reducible refine' ea_cons ?_ ?_
  | with_reducible refine' rv_it (by assumption) ?_
  | with_reducible refine' rv_mul ?_
  | with_reducible refine' rv_eq ?_
  | with_reducible refine' rv_ne ?_
  | exact rfl
  | ((with_reducible show CMul _ _); (try dsimp only at *); first | exact Or.inl ⟨by omega, by omega⟩ | exact Or.inr ⟨by omega, by omega⟩)))
section
variable {P : Program} {w : World} {K : PySem.W.Frag} {mg : Str → Option Value} {base : Heap} {ad : String → Addr}
/-! ### rhythms -/
def IsPhs (H : Hp) (v : V) (r : List (UInt8 × Nat)) : Prop := ∃ p vs, v = .ref p ∧ H p = some (.lst vs) ∧ Reps (IsPh H) vs r
theorem IsPhs.mono {H H' : Hp} {v : V} {r : List (UInt8 × Nat)} (h : IsPhs H v r) (e : Ex H H') : IsPhs H' v r := by
  obtain ⟨p, vs, rfl, hp, hr⟩ := h
  exact ⟨p, vs, rfl, e _ _ hp, hr.imp fun v x q => q.mono e⟩
abbrev s_read_rhythm : Stmt := top 48
abbrev N_read_rhythm : List Str := ["text", "phases", "together", "number", "part", "phase"]
theorem sc_read_rhythm : FnScope N_read_rhythm ["text"] (defScope s_read_rhythm) := ⟨rfl, rfl, rfl, by decide +kernel, rfl, by decide +kernel, by decide +kernel⟩
/-- what H0 doesn't know -/
def Fresh (H0 : Hp) (v : V) : Prop := ∀ q, v = .ref q → H0 q = none
def IsRead (H0 H : Hp) (v : V) : Except Nat (List (UInt8 × Nat)) → Prop
  | .error k => ∃ x, IsT H v [x, .int k] ∧ IsL H x []
  | .ok r => ∃ x, IsT H v [x, .non] ∧ IsPhs H x r ∧ Fresh H0 x
def sp_read_rhythm : Sp := fun vs H Q _ => ∃ b : List UInt8, ((∃ v, vs = [v] ∧ IsBy H v b) ∧ b.length ≤ 2000) ∧ ∀ v H', Ex H H' → IsRead H H' v (readGo 0 0 [] (Bn.split 32 b)) → Q v H'
theorem split_len : ∀ b : List UInt8, (Bn.split 32 b).length ≤ b.length + 1
  | [] => Nat.le_refl _
  | c :: r => by
    have ih := split_len r
    have u : Bn.split 32 (c :: r) = match Bn.split 32 r with
      | [] => [[c]]
      | w :: l => if c = 32 then [] :: w :: l else (c :: w) :: l := rfl
    rw [u]
    cases e : Bn.split 32 r with
    | nil => simp
    | cons w l =>
      rw [e] at ih
      show (if c = 32 then [] :: w :: l else (c :: w) :: l).length ≤ _
      split <;> simp at * <;> omega
theorem split_each : ∀ b : List UInt8, ∀ w ∈ Bn.split 32 b, w.length ≤ b.length
  | [], w, h => by
    have : w = [] := by simpa [Bn.split] using h
    rw [this]
    exact Nat.le_refl _
  | c :: r, w, h => by
    have ih := split_each r
    have u : Bn.split 32 (c :: r) = match Bn.split 32 r with
      | [] => [[c]]
      | w :: l => if c = 32 then [] :: w :: l else (c :: w) :: l := rfl
    rw [u] at h
    cases e : Bn.split 32 r with
    | nil => exact absurd e (split_ne r)
    | cons y l =>
      rw [e] at ih h
      have h : w ∈ (if c = 32 then [] :: y :: l else (c :: y) :: l) := h
      have hy := ih y (by simp)
      by_cases q : c = 32
      · rw [if_pos q] at h
        rcases List.eq_or_mem_of_mem_cons h with z | z
        · rw [z]; simp
        · have := ih w z
          simp; omega
      · rw [if_neg q] at h
        rcases List.eq_or_mem_of_mem_cons h with z | z
        · rw [z]; simp; exact hy
        · have := ih w (by simp [z])
          simp; omega
theorem ok_read_rhythm (T : Tx K mg ad) (D_split_text : Df P w K mg base "split_text" 1 ["text"] sp_split_text) (D_read_phase : Df P w K mg base "read_phase" 2 ["part"] sp_read_phase) {f : Addr} {fd : FuncData} (F : Fun K "read_rhythm" "read_rhythm" s_read_rhythm f fd) : FnOk P w K mg base CX0 3 f fd ["text"] sp_read_rhythm := by
  refine F.ok sc_read_rhythm (fun vs H Q E h => ?_) (fun cdv A outer s H vs Q E hr h => ?_)
  · obtain ⟨a, ⟨⟨v, rfl, _⟩, _⟩, _⟩ := h
    rfl
  · refine ⟨_, (pss_cons (ps_set (i := 1) sc_read_rhythm.nd rfl (Or.inl rfl) (pe_lst pa_nil))
    (pss_cons (ps_set (i := 2) sc_read_rhythm.nd rfl (Or.inl rfl) pe_int)
    (pss_cons (ps_for PassesOwn.never rfl (pi_enum (by rfl) T.b_enumerate (pa_cons (pe_df D_split_text (hr.mono (by decide)) (by rfl) (pa_cons (pv 0) pa_nil)) pa_nil)) (pg_tup rfl (pgs_cons (pg_name (i := 3) sc_read_rhythm.nd rfl (Or.inl rfl)) (pgs_cons (pg_name (i := 4) sc_read_rhythm.nd rfl (Or.inl rfl)) pgs_nil))) 
        (pss_cons (ps_set (i := 5) sc_read_rhythm.nd rfl (Or.inl rfl) (pe_df D_read_phase (hr.mono (by decide)) (by rfl) (pa_cons (pv 4) pa_nil)))
        (pss_cons (ps_if (PW.pt (pw_or (pt_cmpR op_isN (pv 5) pe_non (nomark _)) (pw_or1 (pt_cmpR op_eq (pv 3) (pe_gint (by rfl) T.g_MOST_PHASES) (nomark _))))) 
            (pss_one (ps_ret (pe_tup (pa_cons (pe_lst pa_nil) (pa_cons (pv 3) pa_nil))))) pss_nil)
        (pss_cons (ps_aug (i := 2) sc_read_rhythm.nd rfl (Or.inl rfl) (pe_ix ix_tup (pv 5) pe_int (fun _ _ => rfl)) ip_add)
        (pss_cons (ps_if (pt_cmpR op_gt (pv 2) (pe_gint (by rfl) T.g_MOST_TOGETHER) (nomark _)) 
            (pss_one (ps_ret (pe_tup (pa_cons (pe_lst pa_nil) (pa_cons (pv 3) pa_nil))))) pss_nil)
        (pss_one (ps_expr (pe_bm PySem.F.plainAttrs_list PySem.F.slot_list_append PySem.F.type_list_append mt_append (pv 1) (pa_cons (pv 5) pa_nil)))))))))
    (pss_one (ps_ret (pe_tup (pa_cons (pv 1) (pa_cons pe_non pa_nil)))))))), ?_⟩
    obtain ⟨b, ⟨⟨v, rfl, pa, rfl, ha⟩, hlen⟩, k⟩ := h
    refine q_asgL (el_lst ea_nil (by simp)) fun pp H1 npp e1 hpp => ?_
    refine q_asg ev_c fun H2 e2 => ?_
    refine ⟨_, rfl, b, ⟨⟨_, rfl, pa, rfl, (e1.trans e2) _ _ ha⟩, hlen⟩, fun v H3 e3 hv => ?_⟩
    obtain ⟨pw, ws, rfl, npw, hpw, hws⟩ := hv
    have nw : pw ≠ pp := fun z => by rw [z, e2 _ _ hpp] at npw; cases npw
    -- the number and the phase at fault
    have back : ∀ (i : Nat) (H' : Hp) (y0 y1 y2 y4 y5 : Option V) (D : Ends), D.rt = Q → Ex H H' → readGo 0 0 [] (Bn.split 32 b) = .error i → tRet (tTup (tCons (tLst tNil) (tCons (tVar 3) tNil))) D [y0, y1, y2, some (.int i), y4, y5] H' := by
      intro i H' y0 y1 y2 y4 y5 D hD e he
      refine ⟨Nat.zero_le _, fun l hl => ⟨_, rfl, (by show 2 ≤ sizeLine; decide), fun p hp => ?_⟩⟩
      rw [hD]
      refine k _ _ (e.trans ((Ex.new hl).trans (Ex.new hp))) ?_
      show IsRead _ _ _ (readGo 0 0 [] (Bn.split 32 b))
      rw [he]
      exact ⟨_, ⟨p, rfl, upd_same⟩, l, rfl, Ex.new hp _ _ upd_same⟩
    refine ⟨pw, ws, rfl, sq_of hpw, for_it (walk_enum (K := K) (a := pw) (xs := ws)) (fun i σ H' => ∃ vs acc sum y3 y4 y5, σ = [some (.ref pa), some (.ref pp), some (.int (sum : Nat)), y3, y4, y5] ∧ (∀ a o, a ≠ pp → H3 a = some o → H' a = some o) ∧ H' pp = some (.lst vs) ∧ Reps (IsPh H') vs acc ∧ (acc.length = i ∧ i ≤ 32) ∧ readGo 0 0 [] (Bn.split 32 b) = readGo i sum acc ((Bn.split 32 b).drop i))
      ⟨[], [], 0, none, none, none, rfl, fun a o _ z => z, e3 _ _ (e2 _ _ hpp), Reps.nil, ⟨rfl, by decide⟩, rfl⟩ ?_ ?_ ?_⟩
    · rintro i σ H' _ ⟨vs, acc, sum, y3, y4, y5, _, h, _⟩
      exact sq_of (h _ _ nw hpw)
    · rintro i v σ H4 H5 hi ⟨vs, acc, sum, y3, y4, y5, rfl, h1, h2, h3, h4, h5⟩ ⟨pt, x, y, rfl, nt, rfl, hx, hy⟩
      cases hx
      have ent : Ex H4 (upd H4 pt (.tup [.int (i : Nat), y])) := Ex.new nt
      refine ⟨pt, _, rfl, st_of upd_same, rfl, _, _, rfl, _, _, rfl, rfl, ?_⟩
      obtain ⟨wd, hwd, pq, rfl, npq, hq⟩ := hws.2 i y hy
      have nq : pq ≠ pp := fun z => by rw [z, e2 _ _ hpp] at npq; cases npq
      have hwl : wd.length ≤ 2000 := Nat.le_trans (split_each b wd (List.mem_of_getElem? hwd)) hlen
      rw [drop_at hwd] at h5
      have hgo : readGo i sum acc (wd :: (Bn.split 32 b).drop (i + 1)) = match phaseB wd with
          | none => .error i
          | some x => if i = 32 then .error i else if 6000 < sum + x.2 then .error i else readGo (i + 1) (sum + x.2) (acc ++ [x]) ((Bn.split 32 b).drop (i + 1)) := rfl
      have eH : ∀ {H6 : Hp}, Ex H4 H6 → Ex H H6 := fun {H6} e a o z => e _ _ (h1 _ _ (ne_of_none z npp) (e3 _ _ (e2 _ _ (e1 _ _ z))))
      refine ⟨_, rfl, wd, ⟨⟨_, rfl, pq, rfl, ent _ _ (h1 _ _ nq hq)⟩, hwl⟩, fun v H6 e6 hv => ?_⟩
      have e46 : Ex H4 H6 := ent.trans e6
      have hv : OptPh H6 v (phaseB wd) := hv
      dsimp only [gName]
      cases hph : phaseB wd with
      | none =>
        rw [hph] at hv hgo
        have hv : v = .non := hv
        subst hv
        refine q_when (b := true || decide (V.int (i : Nat) = V.int 32)) (et_or (b := decide (V.int (i : Nat) = V.int 32)) (et_test (fun H2 e2 Q q => ⟨_, rfl, rfl, q _ (Ex.refl _)⟩)) (fun q => absurd q (by decide))) (fun q H7 e7 => ?_) (fun q => by simp at q)
        exact back i H7 _ _ _ _ _ _ rfl (eH (e46.trans e7)) (h5.trans hgo)
      | some x =>
        rw [hph] at hv hgo
        have hv : IsPh H6 v x := hv
        obtain ⟨px, rfl, hx⟩ := hv
        have hgo : readGo i sum acc (wd :: (Bn.split 32 b).drop (i + 1)) = if i = 32 then .error i else if 6000 < sum + x.2 then .error i else readGo (i + 1) (sum + x.2) (acc ++ [x]) ((Bn.split 32 b).drop (i + 1)) := hgo
        refine q_when (b := false || decide (i = 32)) (et_or (et_test (fun H2 e2 Q q => ⟨_, rfl, rfl, q _ (Ex.refl _)⟩)) (fun _ => ?_)) (fun q H7 e7 => ?_) (fun q H7 e7 => ?_)
        · refine et_test (ev_is (ev_op (ev_var rfl) ev_c (rv_eq rfl)) ?_)
          rw [V.bl.injEq, decide_eq_decide, V.int.injEq]
          omega
        · rw [Bool.false_or, decide_eq_true_iff] at q
          rw [if_pos q] at hgo
          exact back i H7 _ _ _ _ _ _ rfl (eH (e46.trans e7)) (h5.trans hgo)
        · rw [Bool.false_or, decide_eq_false_iff_not] at q
          rw [if_neg q] at hgo
          refine q_aug (a := (sum : Nat)) (b := x.2) rfl (ev_op (ev_var rfl) ev_c (rv_it (e7 _ _ hx) rfl)) fun H8 e8 => ?_
          have esum : ((sum : Nat) : Int) + (x.2 : Int) = ((sum + x.2 : Nat) : Int) := by omega
          rw [esum]
          refine q_when (b := decide (6000 < ((sum + x.2 : Nat) : Int))) (et_test (ev_op (ev_var rfl) ev_c rv_I0)) (fun q2 H9 e9 => ?_) (fun q2 H9 e9 => ?_)
          · rw [if_pos (by have := of_decide_eq_true q2; omega)] at hgo
            exact back i H9 _ _ _ _ _ _ rfl (eH (e46.trans (e7.trans (e8.trans e9)))) (h5.trans hgo)
          · rw [if_neg (by have := of_decide_eq_false q2; omega)] at hgo
            have e49 := e46.trans (e7.trans (e8.trans e9))
            refine s_app (l := pp) (e49 _ _ h2) (ev_var rfl) (ev_var rfl) (by rw [h3.1]; omega) fun H10 e10 => ?_
            have n10 : H10 px = some (.tup [byV x.1, .int x.2]) := e10 _ _ (e9 _ _ (e8 _ _ (e7 _ _ hx)))
            have hne : px ≠ pp := fun z => by
              have := e10 _ _ (e49 _ _ h2)
              rw [← z, n10] at this
              cases this
            refine ⟨_, acc ++ [x], sum + x.2, _, _, _, rfl, fun a o na z => ?_, upd_same, ?_, ?_, ?_⟩
            · rw [upd_ne na]
              exact e10 _ _ (e49 _ _ (h1 _ _ na z))
            · refine Reps.add (h3.imp fun v y q => ?_) ⟨px, rfl, by rw [upd_ne hne]; exact n10⟩
              obtain ⟨p, rfl, hp⟩ := q
              refine ⟨p, rfl, ?_⟩
              rw [upd_ne (fun z => by rw [z, h2] at hp; cases hp)]
              exact e10 _ _ (e49 _ _ hp)
            · simp; omega
            · rw [h5, hgo]
    · rintro σ H4 ⟨vs, acc, sum, y3, y4, y5, rfl, h1, h2, h3, h4, h5⟩
      dsimp only
      rw [hws.1, List.drop_length] at h5
      have h5 : readGo 0 0 [] (Bn.split 32 b) = .ok acc := h5
      refine s_retU (xs := [.ref pp, .non]) (eu_tup (ea_cons (ev_var rfl) (ea_cons ev_c ea_nil)) (by simp)) fun p H5 hp e5 h6 => ?_
      refine k _ _ (fun a o z => e5 _ _ (h1 _ _ (ne_of_none z npp) (e3 _ _ (e2 _ _ (e1 _ _ z))))) ?_
      show IsRead _ _ _ (readGo 0 0 [] (Bn.split 32 b))
      rw [h5]
      refine ⟨_, ⟨p, rfl, h6⟩, ⟨pp, vs, rfl, e5 _ _ h2, h3.imp fun v x q => q.mono e5⟩, fun q z => ?_⟩
      cases z
      exact npp
abbrev s_is_white_and_dark : Stmt := top 49
abbrev N_is_white_and_dark : List Str := ["phases", "colour", "tenths"]
theorem sc_is_white_and_dark : FnScope N_is_white_and_dark ["phases"] (defScope s_is_white_and_dark) := ⟨rfl, rfl, rfl, by decide +kernel, rfl, by decide +kernel, by decide +kernel⟩
def sp_is_white_and_dark : Sp := spFn (fun vs H (r : List (UInt8 × Nat)) => ∃ v, vs = [v] ∧ IsPhs H v r) fun r v _ => v = .bl (r.all fun x => !(!decide (x.1 = 87) && !decide (x.1 = 45)))
theorem all_drop {α : Type} {f : α → Bool} {l : List α} {i : Nat} {x : α} (h : l[i]? = some x) : (l.drop i).all f = (f x && (l.drop (i + 1)).all f) := by
  rw [drop_at h, List.all_cons]
theorem ok_is_white_and_dark (T : Tx K mg ad) {f : Addr} {fd : FuncData} (F : Fun K "is_white_and_dark" "is_white_and_dark" s_is_white_and_dark f fd) : FnOk P w K mg base CX0 1 f fd ["phases"] sp_is_white_and_dark := by
  refine F.ok sc_is_white_and_dark (fun vs H Q E h => ?_) (fun cdv A outer s H vs Q E hr h => ?_)
  · obtain ⟨a, ⟨v, rfl, _⟩, _⟩ := h
    rfl
  · refine ⟨_, (pss_cons (ps_for PassesOwn.never rfl (pi_list (pv 0)) (pg_tup rfl (pgs_cons (pg_name (i := 1) sc_is_white_and_dark.nd rfl (Or.inl rfl)) (pgs_cons (pg_name (i := 2) sc_is_white_and_dark.nd rfl (Or.inl rfl)) pgs_nil))) 
        (pss_one (ps_if (PW.pt (pw_and (pt_cmpR op_ne (pv 1) (pe_gint (by rfl) T.g_WHITE) (nomark _)) (pw_and1 (pt_cmpR op_ne (pv 1) (pe_gint (by rfl) T.g_DARK) (nomark _))))) 
            (pss_one (ps_ret pe_bl)) pss_nil)))
    (pss_one (ps_ret pe_bl))), ?_⟩
    obtain ⟨r, ⟨v, rfl, pa, vs, rfl, ha, hvs⟩, k⟩ := h
    generalize hg : (fun x : UInt8 × Nat => !(!decide (x.1 = 87) && !decide (x.1 = 45))) = g at k
    refine ⟨_, rfl, pa, rfl, ⟨_, sq_of ha⟩, for_it (walk_list (K := K) (a := pa) (xs := vs)) (fun i σ H' => (∃ y z, σ = [some (.ref pa), y, z]) ∧ Ex H H' ∧ r.all g = (r.drop i).all g)
      ⟨⟨none, none, rfl⟩, Ex.refl H, rfl⟩ (fun i σ H' _ h => sq_of (h.2.1 _ _ ha)) ?_ ?_⟩
    · rintro i v σ H1 H2 hi ⟨⟨y, z, rfl⟩, e1, hd⟩ ⟨rfl, hx⟩
      obtain ⟨x, hxi, pt, rfl, ht⟩ := hvs.2 i v hx
      refine ⟨pt, _, rfl, st_of (e1 _ _ ht), rfl, _, _, rfl, _, _, rfl, rfl, ?_⟩
      rw [all_drop hxi] at hd
      have gx : g x = !(!decide (x.1 = 87) && !decide (x.1 = 45)) := by rw [← hg]
      refine s_when (b := !decide (x.1 = 87) && !decide (x.1 = 45)) ?_ (fun q H3 e3 => ?_) fun q H3 e3 => ?_
      · refine et_and (et_test (ev_is (ev_op (ev_var rfl) ev_c (rv_ne rfl)) (congrArg (fun q => V.bl (!q)) (byte_eq x.1 87 87 rfl)))) fun _ => et_test (ev_is (ev_op (ev_var rfl) ev_c (rv_ne rfl)) (congrArg (fun q => V.bl (!q)) (byte_eq x.1 45 45 rfl)))
      · refine s_ret (v := .bl false) ev_c fun H4 e4 => k _ _ (e1.trans (e3.trans e4)) ?_
        show V.bl false = V.bl (r.all g)
        rw [hd, gx, q]
        rfl
      · refine ⟨⟨_, _, rfl⟩, e1.trans e3, ?_⟩
        rw [hd, gx, q]
        rfl
    · rintro σ H1 ⟨⟨y, z, rfl⟩, e1, hd⟩
      dsimp only
      refine s_ret (v := .bl true) ev_c fun H3 e3 => k _ _ (e1.trans e3) ?_
      show V.bl true = V.bl (r.all g)
      rw [hd, hvs.1, List.drop_length]
      rfl
abbrev s_colour_byte_at : Stmt := top 50
abbrev N_colour_byte_at : List Str := ["phases", "moment", "rest", "number", "colour", "tenths"]
theorem sc_colour_byte_at : FnScope N_colour_byte_at ["phases", "moment"] (defScope s_colour_byte_at) := ⟨rfl, rfl, rfl, by decide +kernel, rfl, by decide +kernel, by decide +kernel⟩
def sumT (r : List (UInt8 × Nat)) : Nat := (r.map (·.2)).sum
def sp_colour_byte_at : Sp := spFn (fun vs H (a : List (UInt8 × Nat) × Nat) => (∃ v, vs = [v, .int a.2] ∧ IsPhs H v a.1) ∧ 0 < sumT a.1 ∧ a.1.length ≤ 32) fun a v _ => v = byV (byteIn a.1 (a.2 % sumT a.1))
theorem sum_drop {r : List (UInt8 × Nat)} {i : Nat} {x : UInt8 × Nat} (h : r[i]? = some x) : sumT (r.drop i) = x.2 + sumT (r.drop (i + 1)) := by
  rw [drop_at h]
  simp [sumT]
theorem sum_ints (r : List (UInt8 × Nat)) : (r.map fun x => (x.2 : Int)).sum = ((sumT r : Nat) : Int) := by
  unfold sumT
  induction r with
  | nil => rfl
  | cons x l ih =>
    rw [List.map_cons, List.sum_cons, ih, List.map_cons, List.sum_cons]
    omega
theorem ok_colour_byte_at (T : Tx K mg ad) {f : Addr} {fd : FuncData} (F : Fun K "colour_byte_at" "colour_byte_at" s_colour_byte_at f fd) : FnOk P w K mg base CX0 1 f fd ["phases", "moment"] sp_colour_byte_at := by
  refine F.ok sc_colour_byte_at (fun vs H Q E h => ?_) (fun cdv A outer s H vs Q E hr h => ?_)
  · obtain ⟨a, ⟨⟨v, rfl, _⟩, _⟩, _⟩ := h
    rfl
  · refine ⟨_, (pss_cons (ps_set (i := 2) sc_colour_byte_at.nd rfl (Or.inl rfl) (pe_op op_mod (pv 1) (pe_callB (cr_sum rfl) (by rfl) T.b_sum (by decide +kernel) (pa_cons (pe_lc (own := [("colour", 4), ("tenths", 5)]) (g := (gTup K 2 (gCons (gName 4) (gCons (gName 5) gNil)))) rfl sc_colour_byte_at.nd (pi_list (pv 0)) (blkOk_by (N := N_colour_byte_at) (sc := defScope s_colour_byte_at) (by decide +kernel)) (by intro _ _ _ _ _; exact (pg_tup rfl (pgs_cons (pg_name (i := 4) sc_colour_byte_at.nd rfl (Or.inl rfl)) (pgs_cons (pg_name (i := 5) sc_colour_byte_at.nd rfl (Or.inl rfl)) pgs_nil)))) (by intro _ _ _ _ _; exact pts_nil) (by intro _ _ _ _ _; exact (pv 5))) pa_nil))))
    (pss_cons (ps_set (i := 3) sc_colour_byte_at.nd rfl (Or.inl rfl) pe_int)
    (pss_cons (ps_while PassesOwn.never (pt_cmpR op_ge (pv 2) (pe_ix ix_tup (pe_ix ix_list (pv 0) (pv 3) (fun _ _ => rfl)) pe_int (fun _ _ => rfl)) (nomark _)) 
        (pss_cons (ps_aug (i := 2) sc_colour_byte_at.nd rfl (Or.inl rfl) (pe_ix ix_tup (pe_ix ix_list (pv 0) (pv 3) (fun _ _ => rfl)) pe_int (fun _ _ => rfl)) ip_sub)
        (pss_one (ps_aug (i := 3) sc_colour_byte_at.nd rfl (Or.inl rfl) pe_int ip_add))))
    (pss_one (ps_ret (pe_ix ix_tup (pe_ix ix_list (pv 0) (pv 3) (fun _ _ => rfl)) pe_int (fun _ _ => rfl))))))), ?_⟩
    obtain ⟨⟨r, t⟩, ⟨⟨v, rfl, pa, vs, rfl, ha, hvs⟩, hpos, hlen⟩, k⟩ := h
    dsimp only at hpos hlen
    refine ⟨_, rfl, _, rfl, pa, rfl, ⟨_, sq_of ha⟩, fun D hD => lc_it (walk_list (K := K) (a := pa) (xs := vs)) (fun i H' => Ex H H' ∧ H' D = some (.lst (((r.map fun x => (x.2 : Int)).take i).map V.int))) ⟨Ex.new hD, upd_same⟩ (fun i H' _ h => sq_of (h.1 _ _ ha)) ?_ ?_⟩
    · rintro i v H1 H2 hi ⟨e1, h1⟩ ⟨rfl, hx⟩
      obtain ⟨x, hxi, pt, rfl, ht⟩ := hvs.2 i v hx
      refine ⟨pt, _, rfl, st_of (e1 _ _ ht), rfl, _, _, rfl, _, _, rfl, rfl, ?_⟩
      refine ⟨rfl, ?_⟩
      dsimp only [tYes]
      rw [if_pos rfl]
      refine ⟨_, rfl, _, h1, ?_, ?_, ?_⟩
      · rw [List.length_map]
        refine Nat.lt_of_le_of_lt (List.length_take_le _ _) ?_
        rw [hvs.1] at hi
        exact Nat.lt_of_lt_of_le hi (Nat.le_trans hlen (by decide))
      · exact Ex.mut e1 hD
      · rw [upd_same, List.take_add_one, List.getElem?_map, hxi, List.map_append]
        rfl
    · rintro H1 ⟨e1, h1⟩
      rw [hvs.1, List.take_of_length_le (by simp)] at h1
      refine ⟨D, _, rfl, sq_of h1, ?_⟩
      rw [sum_ints]
      refine ⟨_, _, rfl, rfl, (by show (0 : Int) < _; omega), ?_⟩
      have em : ((t : Int) % ((sumT r : Nat) : Int)) = ((t % sumT r : Nat) : Int) := by omega
      dsimp only
      rw [em]
      have hlt : t % sumT r < sumT r := Nat.mod_lt _ hpos
      generalize hm : t % sumT r = m at *
      dsimp only [gName]
      refine q_asg ev_c fun H2 e2 => ?_
      refine ⟨fun mm σ H' => ∃ (n u : Nat) (y z : Option V), σ = [some (.ref pa), some (.int t), some (.int u), some (.int n), y, z] ∧ mm = r.length - n ∧ Ex H H' ∧ u < sumT (r.drop n) ∧ byteIn r m = byteIn (r.drop n) u, ⟨_, 0, m, none, none, rfl, rfl, e1.trans e2, hlt, rfl⟩, ?_⟩
      rintro mm σ H3 ⟨n, u, y, z, rfl, rfl, e3, hu, hb⟩
      have hn : n < r.length := by
        by_cases q : n < r.length
        · exact q
        · rw [List.drop_of_length_le (by omega)] at hu
          exact absurd hu (by simp [sumT])
      obtain ⟨x, hx⟩ : ∃ x, r[n]? = some x := ⟨r[n], by simp [hn]⟩
      obtain ⟨v, hv, pt, rfl, ht⟩ := hvs.at hx
      have hat : atI vs (n : Int) = some (.ref pt) := atI_nat hv
      rw [sum_drop hx] at hu
      have hby : byteIn (r.drop n) u = if u < x.2 then x.1 else byteIn (r.drop (n + 1)) (u - x.2) := by rw [drop_at hx]; rfl
      rw [hby] at hb
      refine (et_test (ev_op (ev_var rfl) (ev_op (ev_op (ev_var rfl) (ev_var rfl) (rv_il (e3 _ _ ha) hat)) ev_c (rv_it (e3 _ _ ht) rfl)) rv_I0) : EvT _ _ _ (decide ((x.2 : Int) ≤ (u : Int)))) H3 (Ex.refl H3) _ fun H4 e4 => ?_
      by_cases q : u < x.2
      · rw [if_pos q] at hb
        rw [if_neg (by rw [decide_eq_true_iff]; omega)]
        dsimp only
        refine s_ret (v := byV x.1) (ev_op (ev_op (ev_var rfl) (ev_var rfl) (rv_il (e4 _ _ (e3 _ _ ha)) hat)) ev_c (rv_it (e4 _ _ (e3 _ _ ht)) rfl)) fun H5 e5 => ?_
        refine k _ _ (e3.trans (e4.trans e5)) ?_
        show byV x.1 = byV (byteIn r (t % sumT r))
        rw [hm, hb]
      · rw [if_neg q] at hb
        rw [if_pos (by rw [decide_eq_true_iff]; omega)]
        refine ⟨fun σ' H' => ∃ (u' : Nat) (y z : Option V), σ' = [some (.ref pa), some (.int t), some (.int u'), some (.int ((n + 1 : Nat) : Int)), y, z] ∧ Ex H H' ∧ u' < sumT (r.drop (n + 1)) ∧ byteIn r m = byteIn (r.drop (n + 1)) u', ?_, ?_⟩
        · rintro σ' H' ⟨u', y, z, rfl, e5, h5, h6⟩
          exact ⟨r.length - (n + 1), by omega, n + 1, u', y, z, rfl, rfl, e5, h5, h6⟩
        · refine q_aug (a := (u : Nat)) (b := x.2) rfl (ev_op (ev_op (ev_var rfl) (ev_var rfl) (rv_il (e4 _ _ (e3 _ _ ha)) hat)) ev_c (rv_it (e4 _ _ (e3 _ _ ht)) rfl)) fun H5 e5 => ?_
          refine s_aug (a := (n : Nat)) (b := 1) rfl ev_c fun H6 e6 => ?_
          refine ⟨u - x.2, y, z, ?_, e3.trans (e4.trans (e5.trans e6)), by omega, hb⟩
          have e1 : ((u : Nat) : Int) - (x.2 : Int) = ((u - x.2 : Nat) : Int) := by omega
          have e2 : ((n : Nat) : Int) + 1 = ((n + 1 : Nat) : Int) := by omega
          rw [e1, e2]
          rfl
abbrev s_write_rhythm : Stmt := top 51
abbrev N_write_rhythm : List Str := ["phases", "shown", "text", "colour", "tenths", "digit"]
theorem sc_write_rhythm : FnScope N_write_rhythm ["phases", "shown"] (defScope s_write_rhythm) := ⟨rfl, rfl, rfl, by decide +kernel, rfl, by decide +kernel, by decide +kernel⟩
def sp_write_rhythm : Sp := spFn (fun vs H (a : List (UInt8 × Nat) × Nat) => (∃ v, vs = [v, .int a.2] ∧ IsPhs H v a.1) ∧ a.2 < 5 ∧ (∀ x ∈ a.1, x.2 ≤ 600) ∧ a.1.length ≤ 32) fun a v H' => IsBy H' v (toldGo [] (a.1.map (phaseText a.2)))
theorem digits_all : ∀ n : Fin 601, (Nat.toDigits 10 n.val).map Char.toNat = (Bn.decimal n.val).map UInt8.toNat := by decide +kernel
theorem num_codes {n : Nat} (h : n ≤ 600) : (Str.ofString (toString ((n : Nat) : Int))).cps.toList = (Bn.decimal n).map UInt8.toNat := (PySem.W.KIN.signs_num n).trans (digits_all ⟨n, by omega⟩)
theorem colours_at : ∀ c : Fin 5, atI [V.int 45, V.int 87, V.int 82, V.int 71, V.int 89] (c.val : Int) = some (byV (Bn.SIGNS.getD c.val 45)) := fun
  | ⟨0, _⟩ => rfl
  | ⟨1, _⟩ => rfl
  | ⟨2, _⟩ => rfl
  | ⟨3, _⟩ => rfl
  | ⟨4, _⟩ => rfl
theorem log_small {n : Nat} (h : n ≤ 600) : ((n : Nat) : Int).natAbs.log2 < 1920 := by
  have : ((n : Nat) : Int).natAbs = n := Int.natAbs_natCast n
  rw [this]
  by_cases z : n = 0
  · rw [z]; decide
  · exact (Nat.log2_lt z).mpr (Nat.lt_of_le_of_lt h (by decide +kernel))
theorem ok_write_rhythm (T : Tx K mg ad) {f : Addr} {fd : FuncData} (F : Fun K "write_rhythm" "write_rhythm" s_write_rhythm f fd) : FnOk P w K mg base CX0 1 f fd ["phases", "shown"] sp_write_rhythm := by
  refine F.ok sc_write_rhythm (fun vs H Q E h => ?_) (fun cdv A outer s H vs Q E hr h => ?_)
  · obtain ⟨a, ⟨⟨v, rfl, _⟩, _⟩, _⟩ := h
    rfl
  · refine ⟨_, (pss_cons (ps_set (i := 2) sc_write_rhythm.nd rfl (Or.inl rfl) (pe_lst pa_nil))
    (pss_cons (ps_for PassesOwn.never rfl (pi_list (pv 0)) (pg_tup rfl (pgs_cons (pg_name (i := 3) sc_write_rhythm.nd rfl (Or.inl rfl)) (pgs_cons (pg_name (i := 4) sc_write_rhythm.nd rfl (Or.inl rfl)) pgs_nil))) 
        (pss_cons (ps_if (pt_cmpR op_gt (pe_callB call_len_seq (by rfl) T.b_len PySem.boot_len (pa_cons (pv 2) pa_nil)) pe_int (nomark _)) 
            (pss_one (ps_expr (pe_bm PySem.F.plainAttrs_list PySem.F.slot_list_append PySem.F.type_list_append mt_append (pv 2) (pa_cons (pe_gint (by rfl) T.g_BLANK) pa_nil)))) pss_nil)
        (pss_cons (ps_expr (pe_bm PySem.F.plainAttrs_list PySem.F.slot_list_append PySem.F.type_list_append mt_append (pv 2) (pa_cons (pe_ifExp (pt_cmpR op_eq (pv 3) (pe_gint (by rfl) T.g_WHITE) (nomark _)) (pe_ix ix_tup (pe_gtup (by rfl) T.g_COLOUR_BYTES) (pv 1) (fun _ _ => rfl)) (pv 3)) pa_nil)))
        (pss_one (ps_expr (pe_bm PySem.F.plainAttrs_list PySem.F.slot_list_extend PySem.F.type_list_extend mt_extend (pv 2) (pa_cons (pe_lc (own := [("digit", 5)]) rfl sc_write_rhythm.nd (pi_str (pe_callTy call_str_int (by rfl) T.b_str (by decide +kernel) (pa_cons (pv 4) pa_nil))) (blkOk_by (N := N_write_rhythm) (sc := defScope s_write_rhythm) (by decide +kernel)) (by intro _ _ _ _ _; exact (pg_name (i := 5) sc_write_rhythm.nd rfl (Or.inl rfl))) (by intro _ _ _ _ _; exact pts_nil) (by intro _ _ _ _ _; exact (pe_callB call_ord (by rfl) T.b_ord (by decide +kernel) (pa_cons (pv 5) pa_nil)))) pa_nil)))))))
    (pss_one (ps_ret (pv 2))))), ?_⟩
    obtain ⟨⟨r, c⟩, ⟨⟨v, rfl, pa, vs, rfl, ha, hvs⟩, hc, hsm, hlen⟩, k⟩ := h
    dsimp only at hc hsm hlen hvs
    refine q_asgL (el_lst ea_nil (by simp)) fun pt H1 npt e1 hpt => ?_
    refine ⟨_, rfl, pa, rfl, ⟨_, sq_of (e1 _ _ ha)⟩, for_it (walk_list (K := K) (a := pa) (xs := vs)) (fun i σ H' => ∃ (acc : List UInt8) (y3 y4 y5 : Option V), σ = [some (.ref pa), some (.int (c : Nat)), some (.ref pt), y3, y4, y5] ∧ (∀ a o, H a = some o → H' a = some o) ∧ H' pt = some (.lst (acc.map byV)) ∧ acc.length ≤ 5 * i ∧ toldGo [] (r.map (phaseText c)) = toldGo acc ((r.map (phaseText c)).drop i))
      ⟨[], none, none, none, rfl, e1, hpt, by simp, rfl⟩ ?_ ?_ ?_⟩
    · rintro i σ H' _ ⟨acc, y3, y4, y5, _, h, _⟩
      exact sq_of (h _ _ ha)
    · rintro i v σ H2 H3 hi ⟨acc, y3, y4, y5, rfl, h1, h2, h3, h4⟩ ⟨rfl, hx⟩
      obtain ⟨x, hxi, px, rfl, hpx⟩ := hvs.2 i v hx
      have hx6 : x.2 ≤ 600 := hsm x (List.mem_of_getElem? hxi)
      have hi32 : i < 32 := by
        have := (List.getElem?_eq_some_iff.mp hxi).1
        omega
      refine ⟨px, _, rfl, st_of (h1 _ _ hpx), rfl, _, _, rfl, _, _, rfl, rfl, ?_⟩
      have hd : (r.map (phaseText c)).drop i = phaseText c x :: (r.map (phaseText c)).drop (i + 1) := drop_at (by rw [List.getElem?_map, hxi]; rfl)
      rw [hd] at h4
      have hstep : toldGo acc (phaseText c x :: (r.map (phaseText c)).drop (i + 1)) = toldGo ((if acc = [] then acc else acc ++ [32]) ++ phaseText c x) ((r.map (phaseText c)).drop (i + 1)) := rfl
      have hpt2 : phaseText c x = (if x.1 = 87 then Bn.SIGNS.getD c 45 else x.1) :: Bn.decimal x.2 := rfl
      generalize hb : (if x.1 = 87 then Bn.SIGNS.getD c 45 else x.1) = bc at hpt2
      have hdl : (Bn.decimal x.2).length ≤ 3 := dec_len ⟨x.2, by omega⟩
      generalize ha1 : (if acc = [] then acc else acc ++ [32]) = acc1 at hstep
      have hl1 : acc1.length ≤ acc.length + 1 := by
        rw [← ha1]
        split <;> simp
      -- from the text with its blank on
      have go : ∀ (H4 : Hp) (D : Ends), (∀ a o, H a = some o → H4 a = some o) → H4 pt = some (.lst (acc1.map byV)) → (∀ H5, (∀ a o, H a = some o → H5 a = some o) → H5 pt = some (.lst ((acc1 ++ phaseText c x).map byV)) → D.nx [some (.ref pa), some (.int (c : Nat)), some (.ref pt), some (byV x.1), some (.int x.2), y5] H5) →
          tSeq (tDrop (tBM K "list" rAppend (tVar 2) (tCons (tIf (tTest (tOp rEq (tVar 3) (tC (.int 87)))) (tOp (rIxT K) (tC (.ref (ad "COLOUR_BYTES"))) (tVar 1)) (tVar 3)) tNil)))
            (tDrop (tBM K "list" rExtend (tVar 2) (tCons (tLc (iStr (tCB (fun xs H Q => ∃ i : Int, xs = [.int i] ∧ i.natAbs.log2 < 1920 ∧ Q (.str (toString i)) H) (tCons (tVar 4) tNil))) (gName 5) tYes (tCB (fun xs H Q => ∃ x : Str, xs = [.str x] ∧ x.length = 1 ∧ Q (.int (x.cps.getD 0 0 : Nat)) H) (tCons (tVar 5) tNil)) [5]) tNil))) D
            [some (.ref pa), some (.int (c : Nat)), some (.ref pt), some (byV x.1), some (.int x.2), y5] H4 := by
        intro H4 D g1 g2 g3
        refine q_app (l := pt) (v := byV bc) g2 (ev_var rfl) ?_ (by rw [List.length_map]; omega) fun H5 e5 => ?_
        · refine ev_if (b := decide (x.1 = 87)) (et_test (ev_is (ev_op (ev_var rfl) ev_c (rv_eq rfl)) (congrArg V.bl (byte_eq x.1 87 87 rfl)))) (fun q => ?_) fun q => ?_
          · rw [← hb, if_pos (of_decide_eq_true q)]
            exact ev_op ev_c (ev_var rfl) (rv_ixT (T.s_COLOUR_BYTES _) (colours_at ⟨c, hc⟩))
          · rw [← hb, if_neg (of_decide_eq_false q)]
            exact ev_var rfl
        · have g5 : ∀ a o, H a = some o → upd H5 pt (.lst (acc1.map byV ++ [byV bc])) a = some o := fun a o z => by
            rw [upd_ne (ne_of_none z npt)]
            exact e5 _ _ (g1 _ _ z)
          refine ⟨_, rfl, .inl ⟨rfl, _, sq_of upd_same⟩, _, rfl, _, rfl, log_small hx6, _, rfl, fun Dl hD => ?_⟩
          have hcod := num_codes hx6
          generalize hz : (Str.ofString (toString ((x.2 : Nat) : Int))) = z at hcod
          have hz' : (toString ((x.2 : Nat) : Int) : String) = (toString ((x.2 : Nat) : Int)) := rfl
          have hsz : z.cps.size = (Bn.decimal x.2).length := by
            rw [← Array.length_toList, hcod, List.length_map]
          refine lc_it (walk_str (z := z)) (fun i H' => (∀ a o, upd H5 pt (.lst (acc1.map byV ++ [byV bc])) a = some o → H' a = some o) ∧ H' Dl = some (.lst (((Bn.decimal x.2).take i).map byV))) ⟨Ex.new hD, upd_same⟩ (fun _ _ _ _ => trivial) ?_ ?_
          · rintro i v H6 H7 hi ⟨f1, f2⟩ ⟨rfl, cc, hcc, rfl⟩
            refine ⟨rfl, ?_⟩
            dsimp only [tYes]
            rw [if_pos rfl]
            have hcc2 : ((Bn.decimal x.2).map UInt8.toNat)[i]? = some cc := by
              rw [← hcod, Array.getElem?_toList]
              exact hcc
            rw [List.getElem?_map] at hcc2
            cases hdi : (Bn.decimal x.2)[i]? with
            | none => rw [hdi] at hcc2; cases hcc2
            | some d =>
              rw [hdi] at hcc2
              have hcc2 : d.toNat = cc := Option.some.inj hcc2
              refine ⟨_, rfl, _, rfl, rfl, _, f2, ?_, fun a o q => ?_, ?_⟩
              · rw [List.length_map]
                exact Nat.lt_of_le_of_lt (List.length_take_le' _ _) (Nat.lt_of_le_of_lt hdl (by decide))
              · rw [upd_ne (ne_of_none q hD)]
                exact f1 _ _ q
              · rw [upd_same, List.take_add_one, hdi, List.map_append]
                rw [← hcc2]
                rfl
          · rintro H6 ⟨f1, f2⟩
            rw [hsz, List.take_length] at f2
            refine ⟨pt, Dl, _, _, rfl, rfl, f1 _ _ upd_same, f2, ?_, ?_⟩
            · simp only [List.length_append, List.length_map, List.length_singleton]
              exact Nat.le_trans (by omega) (show 1000 ≤ sizeLine by decide)
            · refine g3 _ (fun a o q => ?_) ?_
              · rw [upd_ne (ne_of_none q npt)]
                exact f1 _ _ (g5 _ _ q)
              · rw [upd_same, hpt2, List.map_append, List.map_cons, List.append_assoc]
                rfl
      have fin : ∀ H5 : Hp, (∀ a o, H a = some o → H5 a = some o) → H5 pt = some (.lst ((acc1 ++ phaseText c x).map byV)) → ∃ (acc : List UInt8) (y3 y4 y5' : Option V), [some (.ref pa), some (.int (c : Nat)), some (.ref pt), some (byV x.1), some (.int x.2), y5] = [some (.ref pa), some (.int (c : Nat)), some (.ref pt), y3, y4, y5'] ∧ (∀ a o, H a = some o → H5 a = some o) ∧ H5 pt = some (.lst (acc.map byV)) ∧ acc.length ≤ 5 * (i + 1) ∧ toldGo [] (r.map (phaseText c)) = toldGo acc ((r.map (phaseText c)).drop (i + 1)) := by
        intro H5 g1 g2
        refine ⟨_, _, _, _, rfl, g1, g2, ?_, h4.trans hstep⟩
        rw [List.length_append, hpt2, List.length_cons]
        omega
      refine q_when (b := decide (0 < (acc.length : Int))) ?_ (fun q H4 e4 => ?_) fun q H4 e4 => ?_
      · exact et_test (ev_op (ev_is (ev_len (ev_var rfl) (sq_of h2)) (by rw [List.length_map])) ev_c rv_I0)
      · have q : ¬ acc = [] := fun w => by
          have := of_decide_eq_true q
          rw [w] at this
          simp at this
        rw [if_neg q] at ha1
        refine s_app (l := pt) (v := byV 32) (e4 _ _ h2) (ev_var rfl) ev_c (by rw [List.length_map]; omega) fun H5 e5 => ?_
        refine go _ _ (fun a o z => ?_) ?_ fin
        · rw [upd_ne (ne_of_none z npt)]
          exact e5 _ _ (e4 _ _ (h1 _ _ z))
        · rw [upd_same, ← ha1, List.map_append]
          rfl
      · have q : acc = [] := by
          have := of_decide_eq_false q
          exact List.eq_nil_of_length_eq_zero (by omega)
        rw [if_pos q] at ha1
        refine go _ _ (fun a o z => e4 _ _ (h1 _ _ z)) ?_ fin
        rw [← ha1]
        exact e4 _ _ h2
    · rintro σ H2 ⟨acc, y3, y4, y5, rfl, h1, h2, h3, h4⟩
      dsimp only
      rw [hvs.1, List.drop_of_length_le (by simp)] at h4
      refine s_ret (v := .ref pt) (ev_var rfl) fun H3 e3 => k _ _ (fun a o z => e3 _ _ (h1 _ _ z)) ?_
      show IsBy _ _ (toldGo [] (r.map (phaseText c)))
      rw [h4]
      exact ⟨pt, rfl, e3 _ _ h2⟩
end
end Bc

namespace Bc
open PySem PySem.Spec PyProof.Rows L2 Evl
local macro_rules | `(tactic| walk_at "ev") => `(tactic| repeat' (first
  | with_reducible exact ev_c
  | with_reducible exact rv_I0
  | with_reducible exact ru_neg
  | with_reducible exact ea_nil
  | with_reducible refine' ev_var ?_
  | with_reducible refine' ev_chain ?_ ?_ ?_ ?_ ?_
  | with_reducible refine' ev_op ?_ ?_ ?_
  | with_reducible refine' ev_un ?_ ?_
  | with_reducible refine' ev_andV ?_ (fun _ => ?_)
  | with_reducible refine' ev_orV ?_ (fun _ => ?_)
  | with_reducible refine' ev_notV ?_
  | with_reducible refine' et_test ?_
  | with_reducible refine' et_B ?_
  | with_reducible refine' et_and ?_ (fun _ => ?_)
  | with_reducible refine' et_or ?_ (fun _ => ?_)
  | with_reducible refine' et_not ?_
  | with_reducible refine' ea_cons ?_ ?_
  | with_reducible refine' rv_it (by assumption) ?_
  | with_reducible refine' rv_mul ?_
  | with_reducible refine' rv_eq ?_
  | with_reducible refine' rv_ne ?_
  | exact rfl
  | ((with_reducible show CMul _ _); (try dsimp only at *); first | exact Or.inl ⟨by omega, by omega⟩ | exact Or.inr ⟨by omega, by omega⟩)))
section
variable {P : Program} {w : World} {K : PySem.W.Frag} {mg : Str → Option Value} {base : Heap} {ad : String → Addr}
/-! ### sectors -/
theorem int_eq (a b : Int) : decide (V.int a = V.int b) = decide (a = b) := by
  rw [decide_eq_decide, V.int.injEq]
abbrev s_is_direction : Stmt := top 13
abbrev N_is_direction : List Str := ["x", "y"]
theorem sc_is_direction : FnScope N_is_direction ["x", "y"] (defScope s_is_direction) := ⟨rfl, rfl, rfl, by decide +kernel, rfl, by decide +kernel, by decide +kernel⟩
def sp_is_direction : Sp := spFn (fun vs _ (a : Int × Int) => vs = [.int a.1, .int a.2]) fun a v _ => v = .bl (dirB a.1 a.2)
theorem ok_is_direction (T : Tx K mg ad) {f : Addr} {fd : FuncData} (F : Fun K "is_direction" "is_direction" s_is_direction f fd) : FnOk P w K mg base CX0 1 f fd ["x", "y"] sp_is_direction := by
  refine F.ok sc_is_direction (fun vs H Q E h => ?_) (fun cdv A outer s H vs Q E hr h => ?_)
  · obtain ⟨a, rfl, _⟩ := h
    rfl
  · refine ⟨_, (pss_cons (ps_if (PW.pt (pw_and (pt_cmpR op_eq (pv 0) pe_int (nomark _)) (pw_and1 (pt_cmpR op_eq (pv 1) pe_int (nomark _))))) 
        (pss_one (ps_ret pe_bl)) pss_nil)
    (pss_one (ps_ret (pe_and (pe_chain op_le op_le (pe_un un_neg (pe_gint (by rfl) T.g_LONGEST_DIRECTION)) (pv 0) (pe_gint (by rfl) T.g_LONGEST_DIRECTION)) (pe_one (pe_chain op_le op_le (pe_un un_neg (pe_gint (by rfl) T.g_LONGEST_DIRECTION)) (pv 1) (pe_gint (by rfl) T.g_LONGEST_DIRECTION))))))), ?_⟩
    obtain ⟨⟨x, y⟩, rfl, k⟩ := h
    refine q_when (b := decide (x = 0) && decide (y = 0)) (et_and (et_test (ev_is (ev_op (ev_var rfl) ev_c (rv_eq rfl)) (congrArg V.bl (int_eq _ _)))) fun _ => et_test (ev_is (ev_op (ev_var rfl) ev_c (rv_eq rfl)) (congrArg V.bl (int_eq _ _)))) (fun q H1 e1 => ?_) fun q H1 e1 => ?_
    · refine s_ret (v := .bl false) ev_c fun H2 e2 => k _ _ (e1.trans e2) ?_
      show V.bl false = V.bl (dirB x y)
      unfold dirB
      rw [q]
      rfl
    · refine s_ret (v := .bl (dirB x y)) ?_ fun H2 e2 => by exact k _ _ (e1.trans e2) rfl
      unfold dirB
      rw [q]
      refine ev_is (v := .bl ((decide (-1000 ≤ x) && decide (x ≤ 1000)) && (decide (-1000 ≤ y) && decide (y ≤ 1000)))) ?_ rfl
      walk_at "ev"
abbrev s_half_of_turn : Stmt := top 14
abbrev N_half_of_turn : List Str := ["way", "x", "y"]
theorem sc_half_of_turn : FnScope N_half_of_turn ["way"] (defScope s_half_of_turn) := ⟨rfl, rfl, rfl, by decide +kernel, rfl, by decide +kernel, by decide +kernel⟩
def sp_half_of_turn : Sp := spFn (fun vs H (a : Pt) => ∃ v, vs = [v] ∧ IsPt H v a) fun a v _ => v = .int (BnC.half a : Nat)
theorem ok_half_of_turn {f : Addr} {fd : FuncData} (F : Fun K "half_of_turn" "half_of_turn" s_half_of_turn f fd) : FnOk P w K mg base CX0 1 f fd ["way"] sp_half_of_turn := by
  refine F.ok sc_half_of_turn (fun vs H Q E h => ?_) (fun cdv A outer s H vs Q E hr h => ?_)
  · obtain ⟨a, ⟨v, rfl, _⟩, _⟩ := h
    rfl
  · refine ⟨_, (pss_cons (ps_asg (pv 0) (pg_tup rfl (pgs_cons (pg_name (i := 1) sc_half_of_turn.nd rfl (Or.inl rfl)) (pgs_cons (pg_name (i := 2) sc_half_of_turn.nd rfl (Or.inl rfl)) pgs_nil))))
    (pss_cons (ps_if (PW.pt (pw_or (pt_cmpR op_gt (pv 2) pe_int (nomark _)) (pw_or1 (PW.pt (pw_and (pt_cmpR op_eq (pv 2) pe_int (nomark _)) (pw_and1 (pt_cmpR op_gt (pv 1) pe_int (nomark _)))))))) 
        (pss_one (ps_ret pe_int)) pss_nil)
    (pss_one (ps_ret pe_int)))), ?_⟩
    obtain ⟨a, ⟨v, rfl, p, rfl, hp⟩, k⟩ := h
    refine q_un2 (ev_var rfl) hp fun H1 e1 => ?_
    refine q_when (b := decide (0 < a.2) || (decide (a.2 = 0) && decide (0 < a.1))) (et_or (et_test (ev_op (ev_var rfl) ev_c rv_I0)) fun _ => et_and (et_test (ev_is (ev_op (ev_var rfl) ev_c (rv_eq rfl)) (congrArg V.bl (int_eq _ _)))) fun _ => et_test (ev_op (ev_var rfl) ev_c rv_I0)) (fun q H2 e2 => ?_) fun q H2 e2 => ?_
    · refine s_ret (v := .int 0) ev_c fun H3 e3 => k _ _ (e1.trans (e2.trans e3)) ?_
      show V.int 0 = V.int (BnC.half a : Nat)
      simp only [Bool.or_eq_true, Bool.and_eq_true, decide_eq_true_iff] at q
      rw [half_0.mpr q]
      rfl
    · refine s_ret (v := .int 1) ev_c fun H3 e3 => k _ _ (e1.trans (e2.trans e3)) ?_
      show V.int 1 = V.int (BnC.half a : Nat)
      have q : ¬ (0 < a.2 ∨ (a.2 = 0 ∧ 0 < a.1)) := by
        intro z
        have : (decide (0 < a.2) || (decide (a.2 = 0) && decide (0 < a.1))) = true := by simpa using z
        rw [q] at this
        cases this
      have h1 : BnC.half a = 1 := by
        rcases half_01 a with z | z
        · exact absurd (half_0.mp z) q
        · exact z
      rw [h1]
      rfl
abbrev s_is_before : Stmt := top 15
abbrev N_is_before : List Str := ["first", "second"]
theorem sc_is_before : FnScope N_is_before ["first", "second"] (defScope s_is_before) := ⟨rfl, rfl, rfl, by decide +kernel, rfl, by decide +kernel, by decide +kernel⟩
def sp_is_before : Sp := spFn (fun vs H (a : Pt × Pt) => (∃ v u, vs = [v, u] ∧ IsPt H v a.1 ∧ IsPt H u a.2) ∧ Near 1000000 a.1) fun a v _ => v = .bl (BnC.dirBefore a.1 a.2)
theorem ok_is_before (D_half_of_turn : Df P w K mg base "half_of_turn" 1 ["way"] sp_half_of_turn) (D_turn_between : Df P w K mg base "turn_between" 1 ["first", "second"] sp_turn_between)
    {f : Addr} {fd : FuncData} (F : Fun K "is_before" "is_before" s_is_before f fd) : FnOk P w K mg base CX0 2 f fd ["first", "second"] sp_is_before := by
  refine F.ok sc_is_before (fun vs H Q E h => ?_) (fun cdv A outer s H vs Q E hr h => ?_)
  · obtain ⟨a, ⟨⟨v, u, rfl, _⟩, _⟩, _⟩ := h
    rfl
  · refine ⟨_, (pss_cons (ps_if (pt_cmpR op_ne (pe_df D_half_of_turn (hr.mono (by decide)) (by rfl) (pa_cons (pv 0) pa_nil)) (pe_df D_half_of_turn (hr.mono (by decide)) (by rfl) (pa_cons (pv 1) pa_nil)) (nomark _)) 
        (pss_one (ps_ret (pe_cmpR op_lt (pe_df D_half_of_turn (hr.mono (by decide)) (by rfl) (pa_cons (pv 0) pa_nil)) (pe_df D_half_of_turn (hr.mono (by decide)) (by rfl) (pa_cons (pv 1) pa_nil)) (nomark _)))) pss_nil)
    (pss_one (ps_ret (pe_cmpR op_gt (pe_df D_turn_between (hr.mono (by decide)) (by rfl) (pa_cons (pv 0) (pa_cons (pv 1) pa_nil))) pe_int (nomark _))))), ?_⟩
    obtain ⟨⟨a, b⟩, ⟨⟨v, u, rfl, hv, hu⟩, na⟩, k⟩ := h
    have c1 : ∀ {H' : Hp}, Ex H H' → Ev (tCall sp_half_of_turn [] E0 (tCons (tVar 0) tNil)) (start N_is_before [v, u]) H' (.int (BnC.half a : Nat)) := fun e =>
      ev_fn a (vs := [v]) (ea_cons (ev_var rfl) ea_nil) (fun H1 e1 => ⟨_, rfl, hv.mono (e.trans e1)⟩) fun v H1 h => h
    have c2 : ∀ {H' : Hp}, Ex H H' → Ev (tCall sp_half_of_turn [] E0 (tCons (tVar 1) tNil)) (start N_is_before [v, u]) H' (.int (BnC.half b : Nat)) := fun e =>
      ev_fn b (vs := [u]) (ea_cons (ev_var rfl) ea_nil) (fun H1 e1 => ⟨_, rfl, hu.mono (e.trans e1)⟩) fun v H1 h => h
    refine q_when (b := !decide (BnC.half a = BnC.half b)) ?_ (fun q H1 e1 => ?_) fun q H1 e1 => ?_
    · refine et_test (ev_is (ev_op (c1 (Ex.refl H)) (c2 (Ex.refl H)) (rv_ne rfl)) ?_)
      rw [int_eq]
      congr 2
      rw [decide_eq_decide]
      omega
    · refine s_ret (v := .bl (BnC.dirBefore a b)) (ev_is (ev_op (c1 e1) (c2 e1) rv_I0) ?_) fun H2 e2 => by exact k _ _ (e1.trans e2) rfl
      have q : ¬ BnC.half a = BnC.half b := by simpa using q
      congr 1
      rw [Bool.eq_iff_iff, before_iff, decide_eq_true_iff]
      omega
    · refine s_ret (v := .bl (BnC.dirBefore a b)) (ev_is (ev_op (ev_fn (a, b) (vs := [v, u]) (ea_cons (ev_var rfl) (ea_cons (ev_var rfl) ea_nil)) (fun H2 e2 => ⟨⟨_, _, rfl, hv.mono (e1.trans e2), hu.mono (e1.trans e2)⟩, na⟩) fun v H1 h => h) ev_c rv_I0) ?_) fun H2 e2 => by exact k _ _ (e1.trans e2) rfl
      have q : BnC.half a = BnC.half b := by simpa using q
      congr 1
      rw [Bool.eq_iff_iff, before_iff, decide_eq_true_iff]
      dsimp only
      omega
/-- a sector as it is held; a list of them -/
def IsSec (H : Hp) (v : V) (s : BnC.Sector) : Prop := IsT H v [.int s.1.1, .int s.1.2, .int (s.2 : Nat)] ∧ Near 1000 s.1
theorem IsSec.mono {H H' : Hp} {v : V} {s : BnC.Sector} (h : IsSec H v s) (e : Ex H H') : IsSec H' v s := ⟨h.1.mono e, h.2⟩
def IsSecs (H : Hp) (v : V) (l : List BnC.Sector) : Prop := ∃ p vs, v = .ref p ∧ H p = some (.lst vs) ∧ Reps (IsSec H) vs l
theorem IsSecs.mono {H H' : Hp} {v : V} {l : List BnC.Sector} (h : IsSecs H v l) (e : Ex H H') : IsSecs H' v l := by
  obtain ⟨p, vs, rfl, hp, hr⟩ := h
  exact ⟨p, vs, rfl, e _ _ hp, hr.imp fun v x q => q.mono e⟩
theorem atI_last {α : Type} {xs : List α} {v : α} (h : xs.getLast? = some v) : atI xs (-1) = some v := by
  have hne : xs ≠ [] := fun z => by rw [z] at h; cases h
  have hl : 0 < xs.length := List.length_pos_iff.mpr hne
  unfold atI ixN
  rw [if_neg (by decide), if_pos (by omega)]
  have e : ((-1 : Int) + (xs.length : Int)).toNat = xs.length - 1 := by omega
  show xs[((-1 : Int) + (xs.length : Int)).toNat]? = some v
  rw [e, ← h, List.getLast?_eq_getElem?]
theorem Reps.last {α : Type} {R : V → α → Prop} {vs : List V} {xs : List α} {x : α} (h : Reps R vs xs) (e : xs.getLast? = some x) : ∃ v, vs.getLast? = some v ∧ R v x := by
  rw [List.getLast?_eq_getElem?] at e
  obtain ⟨v, h1, h2⟩ := h.at e
  refine ⟨v, ?_, h2⟩
  rw [List.getLast?_eq_getElem?, h.1]
  exact h1
theorem cut2_ok {a b c : V} : ¬ (HT.sIx [a, b, c].length 0 none = 0 ∧ HT.sIx [a, b, c].length [a, b, c].length (some 2) = [a, b, c].length) := by
  intro h
  have h2 : HT.sIx 3 3 (some 2) = 3 := h.2
  exact absurd h2 (by decide)
abbrev s_is_next_sector : Stmt := top 16
abbrev N_is_next_sector : List Str := ["sectors", "x", "y", "colour"]
theorem sc_is_next_sector : FnScope N_is_next_sector ["sectors", "x", "y", "colour"] (defScope s_is_next_sector) := ⟨rfl, rfl, rfl, by decide +kernel, rfl, by decide +kernel, by decide +kernel⟩
def sp_is_next_sector : Sp := spFn (fun vs H (a : List BnC.Sector × Int × Int × Int) => ∃ v, vs = [v, .int a.2.1, .int a.2.2.1, .int a.2.2.2] ∧ IsSecs H v a.1) fun a v _ => v = .bl (nextOk a.1 a.2.1 a.2.2.1 a.2.2.2)
theorem ok_is_next_sector (T : Tx K mg ad) (D_is_direction : Df P w K mg base "is_direction" 1 ["x", "y"] sp_is_direction) (D_is_before : Df P w K mg base "is_before" 2 ["first", "second"] sp_is_before)
    {f : Addr} {fd : FuncData} (F : Fun K "is_next_sector" "is_next_sector" s_is_next_sector f fd) : FnOk P w K mg base CX0 3 f fd ["sectors", "x", "y", "colour"] sp_is_next_sector := by
  refine F.ok sc_is_next_sector (fun vs H Q E h => ?_) (fun cdv A outer s H vs Q E hr h => ?_)
  · obtain ⟨a, ⟨v, rfl, _⟩, _⟩ := h
    rfl
  · refine ⟨_, (pss_cons (ps_if (PW.pt (pw_or (pt_not (pt_val (pe_df D_is_direction (hr.mono (by decide)) (by rfl) (pa_cons (pv 1) (pa_cons (pv 2) pa_nil))))) (pw_or (pt_cmpR op_lt (pv 3) (pe_gint (by rfl) T.g_NOTHING) (nomark _)) (pw_or1 (pt_cmpR op_gt (pv 3) (pe_gint (by rfl) T.g_LAST_COLOUR) (nomark _)))))) 
        (pss_one (ps_ret pe_bl)) pss_nil)
    (pss_one (ps_ret (pe_or (pe_cmpR op_eq (pe_callB call_len_seq (by rfl) T.b_len PySem.boot_len (pa_cons (pv 0) pa_nil)) pe_int (nomark _)) (pe_one (pe_df D_is_before (hr.mono (by decide)) (by rfl) (pa_cons (pe_slice sl_tup (pe_ix ix_list (pv 0) (pe_un un_neg pe_int) (fun _ _ => rfl)) po_none (po_some pe_int)) (pa_cons (pe_tup (pa_cons (pv 1) (pa_cons (pv 2) pa_nil))) pa_nil)))))))), ?_⟩
    obtain ⟨⟨l, x, y, c⟩, ⟨v, rfl, pa, vs, rfl, ha, hvs⟩, k⟩ := h
    dsimp only at hvs
    refine q_when (b := !dirB x y || (decide (c < 0) || decide (4 < c))) (et_or (et_not (et_B (ev_fn (x, y) (vs := [.int x, .int y]) (ea_cons (ev_var rfl) (ea_cons (ev_var rfl) ea_nil)) (fun H1 e => rfl) fun v H1 h => h))) fun _ => et_or (et_test (ev_op (ev_var rfl) ev_c rv_I0)) fun _ => et_test (ev_op (ev_var rfl) ev_c rv_I0)) (fun q H1 e1 => ?_) fun q H1 e1 => ?_
    · refine s_ret (v := .bl false) ev_c fun H2 e2 => k _ _ (e1.trans e2) ?_
      show V.bl false = V.bl (nextOk l x y c)
      have : (dirB x y && (decide (0 ≤ c) && decide (c ≤ 4))) = false := by
        rw [← Bool.not_eq_true]
        intro z
        simp only [Bool.and_eq_true, decide_eq_true_iff] at z
        simp only [Bool.or_eq_true, Bool.not_eq_true', decide_eq_true_iff] at q
        rcases q with q | q | q
        · rw [z.1] at q; cases q
        · omega
        · omega
      unfold nextOk
      rw [this]
      rfl
    · have hy : (dirB x y && (decide (0 ≤ c) && decide (c ≤ 4))) = true := by
        simp only [Bool.or_eq_false_iff, Bool.not_eq_false', decide_eq_false_iff_not] at q
        simp only [Bool.and_eq_true, decide_eq_true_iff]
        refine ⟨q.1, by omega, by omega⟩
      refine s_ret (v := .bl (nextOk l x y c)) ?_ fun H2 e2 => by exact k _ _ (e1.trans e2) rfl
      have hno : nextOk l x y c = (match l.getLast? with
        | none => true
        | some s => BnC.dirBefore s.1 (x, y)) := by
        unfold nextOk
        rw [hy, Bool.true_and]
        all_goals (cases l.getLast? <;> rfl)
      rw [hno]
      cases hl : l.getLast? with
      | none =>
        have hnil : l = [] := by simpa using hl
        have hv0 : vs = [] := List.eq_nil_of_length_eq_zero (by rw [hvs.1, hnil]; rfl)
        subst hv0
        refine ev_is (v := .bl (true || true)) (ev_orV (ev_op (ev_len (ev_var rfl) (sq_of (e1 _ _ ha))) ev_c (rv_eq rfl)) fun q => absurd q (by decide)) rfl
      | some s =>
        obtain ⟨u, hu, ⟨pu, rfl, hpu⟩, hn⟩ := hvs.last hl
        have hne : vs.length ≠ 0 := fun z => by rw [List.eq_nil_of_length_eq_zero z] at hu; cases hu
        refine ev_is (v := .bl (false || BnC.dirBefore s.1 (x, y))) (ev_orV (ev_is (ev_op (ev_len (ev_var rfl) (sq_of (e1 _ _ ha))) ev_c (rv_eq rfl)) ?_) fun _ => ?_) (by rw [Bool.false_or])
        · rw [int_eq]
          congr 1
          rw [decide_eq_false_iff_not]
          omega
        · intro H2 e2 Q q
          refine ⟨_, rfl, _, rfl, pa, vs, _, _, rfl, rfl, sq_of (e2 _ _ (e1 _ _ ha)), atI_last hu, _, rfl, pu, _, rfl, st_of (e2 _ _ (e1 _ _ hpu)), cut2_ok, fun p hp => ⟨_, rfl, _, rfl, (by show 2 ≤ sizeLine; decide), fun p2 hp2 => ?_⟩⟩
          refine ⟨(s.1, (x, y)), ⟨⟨_, _, rfl, ⟨p, rfl, ?_⟩, ⟨p2, rfl, upd_same⟩⟩, Near.le hn (by omega)⟩, fun v H3 e3 hv => ?_⟩
          · rw [upd_ne (fun z => by rw [z, upd_same] at hp2; cases hp2), upd_same]
            rfl
          · have hv : v = .bl (BnC.dirBefore s.1 (x, y)) := hv
            rw [hv]
            exact q _ ((Ex.new hp).trans ((Ex.new hp2).trans e3))
abbrev s_read_sectors : Stmt := top 17
abbrev N_read_sectors : List Str := ["numbers", "count", "sectors", "sector", "start", "x", "y", "colour"]
theorem sc_read_sectors : FnScope N_read_sectors ["numbers"] (defScope s_read_sectors) := ⟨rfl, rfl, rfl, by decide +kernel, rfl, by decide +kernel, by decide +kernel⟩
def OptSecs (H : Hp) (v : V) : Option (List BnC.Sector) → Prop
  | none => v = .non
  | some l => IsSecs H v l
def sp_read_sectors : Sp := fun vs H Q _ => ∃ ns : List Int, ((∃ v, vs = [v] ∧ IsL H v (ns.map V.int)) ∧ ns.length ≤ 30000) ∧ ∀ v H', Ex H H' → OptSecs H' v (readSecs ns) → Fresh H v → Q v H'
theorem cut_three {ns : List Int} {i : Nat} {x y c : Int} {r : List Int} (h : ns.drop (3 * i) = x :: y :: c :: r) : cutV (ns.map V.int) (some (((i * 3 : Nat) : Int))) (some (((i * 3 + 3 : Nat) : Int))) = [.int x, .int y, .int c] := by
  have hl : (ns.drop (3 * i)).length = r.length + 3 := by rw [h]; rfl
  rw [List.length_drop] at hl
  unfold cutV
  rw [HT.sIx_nat, HT.sIx_nat, List.length_map, Nat.min_eq_left (by omega), Nat.min_eq_left (by omega), ← List.map_drop, Nat.mul_comm i 3, h]
  have e : 3 * i + 3 - 3 * i = 3 := by omega
  rw [e]
  rfl
theorem drop_three : ∀ {ns : List Int}, 3 ≤ ns.length → ∃ x y c r, ns = x :: y :: c :: r
  | [], h => absurd h (by decide)
  | [_], h => absurd h (by simp)
  | [_, _], h => absurd h (by simp)
  | x :: y :: c :: r, _ => ⟨x, y, c, r, rfl⟩
theorem nextOk_bounds {l : List BnC.Sector} {x y c : Int} (h : nextOk l x y c = true) : Near 1000 (x, y) ∧ 0 ≤ c := by
  unfold nextOk dirB at h
  simp only [Bool.and_eq_true, decide_eq_true_iff] at h
  unfold Near
  dsimp only
  omega
theorem ok_read_sectors (T : Tx K mg ad) (D_is_next_sector : Df P w K mg base "is_next_sector" 3 ["sectors", "x", "y", "colour"] sp_is_next_sector)
    {f : Addr} {fd : FuncData} (F : Fun K "read_sectors" "read_sectors" s_read_sectors f fd) : FnOk P w K mg base CX0 4 f fd ["numbers"] sp_read_sectors := by
  refine F.ok sc_read_sectors (fun vs H Q E h => ?_) (fun cdv A outer s H vs Q E hr h => ?_)
  · obtain ⟨a, ⟨⟨v, rfl, _⟩, _⟩, _⟩ := h
    rfl
  · refine ⟨_, (pss_cons (ps_set (i := 1) sc_read_sectors.nd rfl (Or.inl rfl) (pe_op op_fdiv (pe_callB call_len_seq (by rfl) T.b_len PySem.boot_len (pa_cons (pv 0) pa_nil)) (pe_gint (by rfl) T.g_NUMBERS_OF_SECTOR)))
    (pss_cons (ps_if (PW.pt (pw_or (pt_cmpR op_ne (pe_callB call_len_seq (by rfl) T.b_len PySem.boot_len (pa_cons (pv 0) pa_nil)) (pe_op op_mul (pv 1) (pe_gint (by rfl) T.g_NUMBERS_OF_SECTOR)) (nomark _)) (pw_or (pt_cmpR op_lt (pv 1) pe_int (nomark _)) (pw_or1 (pt_cmpR op_gt (pv 1) (pe_gint (by rfl) T.g_MOST_SECTORS) (nomark _)))))) 
        (pss_one (ps_ret pe_non)) pss_nil)
    (pss_cons (ps_set (i := 2) sc_read_sectors.nd rfl (Or.inl rfl) (pe_lst pa_nil))
    (pss_cons (ps_for PassesOwn.never rfl (pi_range1 (by rfl) T.b_range (pa_cons (pv 1) pa_nil)) (pg_name (i := 3) sc_read_sectors.nd rfl (Or.inl rfl)) 
        (pss_cons (ps_set (i := 4) sc_read_sectors.nd rfl (Or.inl rfl) (pe_op op_mul (pv 3) (pe_gint (by rfl) T.g_NUMBERS_OF_SECTOR)))
        (pss_cons (ps_asg (pe_slice sl_list (pv 0) (po_some (pv 4)) (po_some (pe_op op_add (pv 4) (pe_gint (by rfl) T.g_NUMBERS_OF_SECTOR)))) (pg_unl rfl (pgs_cons (pg_name (i := 5) sc_read_sectors.nd rfl (Or.inl rfl)) (pgs_cons (pg_name (i := 6) sc_read_sectors.nd rfl (Or.inl rfl)) (pgs_cons (pg_name (i := 7) sc_read_sectors.nd rfl (Or.inl rfl)) pgs_nil)))))
        (pss_cons (ps_if (pt_not (pt_val (pe_df D_is_next_sector (hr.mono (by decide)) (by rfl) (pa_cons (pv 2) (pa_cons (pv 5) (pa_cons (pv 6) (pa_cons (pv 7) pa_nil))))))) 
            (pss_one (ps_ret pe_non)) pss_nil)
        (pss_one (ps_expr (pe_bm PySem.F.plainAttrs_list PySem.F.slot_list_append PySem.F.type_list_append mt_append (pv 2) (pa_cons (pe_tup (pa_cons (pv 5) (pa_cons (pv 6) (pa_cons (pv 7) pa_nil)))) pa_nil))))))))
    (pss_one (ps_ret (pv 2))))))), ?_⟩
    obtain ⟨ns, ⟨⟨v, rfl, pa, rfl, ha⟩, hlen⟩, k⟩ := h
    refine q_asg (v := .int ((ns.length / 3 : Nat) : Int)) (ev_is (ev_op (ev_is (ev_len (ev_var rfl) (sq_of ha)) (by rw [List.length_map])) ev_c (rv_I (g := fun i j => .int (i / j)) ⟨by decide, by decide⟩)) (congrArg V.int (by omega))) fun H1 e1 => ?_
    have lenE : ∀ {σ : L2.St} {H' : Hp}, σ[0]? = some (some (.ref pa)) → Ex H H' → Ev (tCB (rLenS K) (tCons (tVar 0) tNil)) σ H' (.int (ns.length : Int)) := fun h e => ev_is (ev_len (ev_var h) (sq_of (e _ _ ha))) (by rw [List.length_map])
    refine q_when (b := !decide (ns.length = ns.length / 3 * 3) || (decide (((ns.length / 3 : Nat) : Int) < 1) || decide (12 < ((ns.length / 3 : Nat) : Int)))) (et_or (et_test (ev_is (ev_op (lenE rfl e1) (ev_op (ev_var rfl) ev_c (rv_mul (.inl ⟨by omega, by omega⟩))) (rv_ne rfl)) ?_)) fun _ => et_or (et_test (ev_op (ev_var rfl) ev_c rv_I0)) fun _ => et_test (ev_op (ev_var rfl) ev_c rv_I0)) (fun q H2 e2 => ?_) fun q H2 e2 => ?_
    · rw [int_eq]
      congr 2
      rw [decide_eq_decide]
      omega
    · refine s_ret (v := .non) ev_c fun H3 e3 => k _ _ (e1.trans (e2.trans e3)) ?_ (fun q z => nomatch z)
      simp only [Bool.or_eq_true, Bool.not_eq_true', decide_eq_true_iff, decide_eq_false_iff_not] at q
      unfold readSecs
      rw [if_pos (by omega)]
      rfl
    · simp only [Bool.or_eq_false_iff, Bool.not_eq_false', decide_eq_true_iff, decide_eq_false_iff_not] at q
      have hrd : readSecs ns = sectorsFrom [] ns := by
        unfold readSecs
        rw [if_neg (by omega)]
      obtain ⟨cnt, hcnt⟩ : ∃ cnt, ns.length / 3 = cnt := ⟨_, rfl⟩
      rw [hcnt] at q ⊢
      have hns : ns.length = 3 * cnt := by omega
      have e02 := e1.trans e2
      refine q_asgL (el_lst ea_nil (by simp)) fun pp H3 npp e3 hpp => ?_
      refine ⟨_, rfl, _, rfl, by omega, by omega, for_it (walk_range (lo := 0) (n := cnt)) (fun i σ H' => ∃ (vs : List V) (acc : List BnC.Sector) (y3 y4 y5 y6 y7 : Option V), σ = [some (.ref pa), some (.int (cnt : Nat)), some (.ref pp), y3, y4, y5, y6, y7] ∧ (∀ a o, H2 a = some o → H' a = some o) ∧ H' pp = some (.lst vs) ∧ Reps (IsSec H') vs acc ∧ acc.length = i ∧ sectorsFrom [] ns = sectorsFrom acc (ns.drop (3 * i)))
        ⟨[], [], none, none, none, none, none, rfl, e3, hpp, Reps.nil, rfl, rfl⟩ (fun _ _ _ _ _ => trivial) ?_ ?_⟩
      · rintro i v σ H4 H5 hi ⟨vs, acc, y3, y4, y5, y6, y7, rfl, h1, h2, h3, h4, h5⟩ ⟨rfl, rfl⟩
        dsimp only
        rw [Int.zero_add]
        obtain ⟨x, y, c, r, hx⟩ := drop_three (ns := ns.drop (3 * i)) (by rw [List.length_drop]; omega)
        rw [hx] at h5
        have hs : sectorsFrom acc (x :: y :: c :: r) = if nextOk acc x y c = true then sectorsFrom (acc ++ [((x, y), c.toNat)]) r else none := rfl
        have hx2 : ns.drop (3 * (i + 1)) = r := by
          have : 3 * (i + 1) = 3 * i + 3 := by omega
          rw [this, ← List.drop_drop, hx]
          rfl
        dsimp only [gName]
        refine q_asg (v := .int ((i * 3 : Nat) : Int)) (ev_is (ev_op (ev_var rfl) ev_c (rv_mul (.inr ⟨by decide, by decide⟩))) (congrArg V.int (by omega))) fun H6 e6 => ?_
        -- x, y, colour = numbers[start:start + 3]
        have ei : ((i * 3 : Nat) : Int) + 3 = ((i * 3 + 3 : Nat) : Int) := by omega
        refine ⟨_, rfl, _, rfl, _, rfl, _, rfl, _, _, rfl, rfl, _, rfl, pa, _, rfl, sq_of (e6 _ _ (h1 _ _ (e02 _ _ ha))), fun p hp => ?_⟩
        rw [ei, cut_three hx]
        refine ⟨p, _, rfl, sq_of upd_same, rfl, _, _, rfl, _, _, rfl, _, _, rfl, rfl, ?_⟩
        dsimp only
        have ep := Ex.new (o := .lst [V.int x, V.int y, V.int c]) hp
        have hpp6 : H6 pp = some (.lst vs) := e6 _ _ h2
        refine q_when (b := !nextOk acc x y c) (et_not (et_B (ev_fn (acc, x, y, c) (vs := [.ref pp, .int x, .int y, .int c]) (ea_cons (ev_var rfl) (ea_cons (ev_var rfl) (ea_cons (ev_var rfl) (ea_cons (ev_var rfl) ea_nil)))) (fun H7 e7 => ⟨_, rfl, pp, vs, rfl, e7 _ _ (ep _ _ hpp6), h3.imp fun v x q => q.mono (e6.trans (ep.trans e7))⟩) fun v H1 h => h))) (fun q2 H7 e7 => ?_) fun q2 H7 e7 => ?_
        · refine s_ret (v := .non) ev_c fun H8 e8 => k _ _ (fun a o z => e8 _ _ (e7 _ _ (ep _ _ (e6 _ _ (h1 _ _ (e02 _ _ z)))))) ?_ (fun q z => nomatch z)
          rw [hrd, h5, hs, if_neg (by simpa using q2)]
          rfl
        · have q2 : nextOk acc x y c = true := by simpa using q2
          obtain ⟨nb, hc0⟩ := nextOk_bounds q2
          refine s_appU (l := pp) (xs := vs) (ys := [.int x, .int y, .int c]) (e7 _ _ (ep _ _ hpp6)) (ev_var rfl) (eu_tup (ea_cons (ev_var rfl) (ea_cons (ev_var rfl) (ea_cons (ev_var rfl) ea_nil))) (by simp)) (by rw [h3.1]; omega) fun pt H8 hpt e8 h8 => ?_
          have nt : pt ≠ pp := fun z => by rw [z, e7 _ _ (ep _ _ hpp6)] at hpt; cases hpt
          have old : ∀ a o, a ≠ pp → H5 a = some o → upd H8 pp (.lst (vs ++ [V.ref pt])) a = some o := fun a o na z => by
            rw [upd_ne na]
            exact e8 _ _ (e7 _ _ (ep _ _ (e6 _ _ z)))
          refine ⟨_, acc ++ [((x, y), c.toNat)], _, _, _, _, _, rfl, fun a o z => old a o (ne_of_none z npp) (h1 _ _ z), upd_same, Reps.add (h3.imp fun v s q => ?_) ⟨⟨pt, rfl, ?_⟩, nb⟩, by simp [h4], ?_⟩
          · obtain ⟨⟨p2, rfl, hp2⟩, n2⟩ := q
            exact ⟨⟨p2, rfl, old _ _ (fun z => by rw [z, h2] at hp2; cases hp2) hp2⟩, n2⟩
          · rw [upd_ne nt, h8]
            dsimp only
            rw [Int.toNat_of_nonneg hc0]
          · rw [h5, hs, if_pos q2, hx2]
      · rintro σ H4 ⟨vs, acc, y3, y4, y5, y6, y7, rfl, h1, h2, h3, h4, h5⟩
        dsimp only
        refine s_ret (v := .ref pp) (ev_var rfl) fun H5 e5 => k _ _ (fun a o z => e5 _ _ (h1 _ _ (e02 _ _ z))) ?_ (fun q z => by cases z; exact fresh_back e02 npp)
        rw [hrd, h5, List.drop_of_length_le (by omega)]
        exact ⟨pp, vs, rfl, e5 _ _ h2, h3.imp fun v x q => q.mono e5⟩
abbrev s_colour_towards : Stmt := top 18
abbrev N_colour_towards : List Str := ["sectors", "way", "shown", "x", "y", "colour"]
theorem sc_colour_towards : FnScope N_colour_towards ["sectors", "way"] (defScope s_colour_towards) := ⟨rfl, rfl, rfl, by decide +kernel, rfl, by decide +kernel, by decide +kernel⟩
def sp_colour_towards : Sp := spFn (fun vs H (a : (List BnC.Sector × BnC.Sector) × Pt) => (∃ v u, vs = [v, u] ∧ IsSecs H v a.1.1 ∧ IsPt H u a.2) ∧ a.1.1.getLast? = some a.1.2 ∧ Near 1000000 a.2) fun a v _ => v = .int (towards a.1.2.2 a.1.1 a.2 : Nat)
theorem ok_colour_towards (D_is_before : Df P w K mg base "is_before" 2 ["first", "second"] sp_is_before)
    {f : Addr} {fd : FuncData} (F : Fun K "colour_towards" "colour_towards" s_colour_towards f fd) : FnOk P w K mg base CX0 3 f fd ["sectors", "way"] sp_colour_towards := by
  refine F.ok sc_colour_towards (fun vs H Q E h => ?_) (fun cdv A outer s H vs Q E hr h => ?_)
  · obtain ⟨a, ⟨⟨v, u, rfl, _⟩, _⟩, _⟩ := h
    rfl
  · refine ⟨_, (pss_cons (ps_set (i := 2) sc_colour_towards.nd rfl (Or.inl rfl) (pe_ix ix_tup (pe_ix ix_list (pv 0) (pe_un un_neg pe_int) (fun _ _ => rfl)) pe_int (fun _ _ => rfl)))
    (pss_cons (ps_for PassesOwn.never rfl (pi_list (pv 0)) (pg_tup rfl (pgs_cons (pg_name (i := 3) sc_colour_towards.nd rfl (Or.inl rfl)) (pgs_cons (pg_name (i := 4) sc_colour_towards.nd rfl (Or.inl rfl)) (pgs_cons (pg_name (i := 5) sc_colour_towards.nd rfl (Or.inl rfl)) pgs_nil)))) 
        (pss_cons (ps_if (pt_val (pe_df D_is_before (hr.mono (by decide)) (by rfl) (pa_cons (pv 1) (pa_cons (pe_tup (pa_cons (pv 3) (pa_cons (pv 4) pa_nil))) pa_nil)))) 
            (pss_one (ps_ret (pv 2))) pss_nil)
        (pss_one (ps_set (i := 2) sc_colour_towards.nd rfl (Or.inl rfl) (pv 5)))))
    (pss_one (ps_ret (pv 2))))), ?_⟩
    obtain ⟨⟨⟨l, s⟩, wy⟩, ⟨⟨v, u, rfl, ⟨pa, vs, rfl, ha, hvs⟩, pw, rfl, hw⟩, hl, nw⟩, k⟩ := h
    dsimp only at hvs hl nw hw
    have k : ∀ v H', Ex H H' → v = .int (towards s.2 l wy : Nat) → Q v H' := k
    obtain ⟨u, hu, ⟨pu, rfl, hpu⟩, hn⟩ := hvs.last hl
    refine q_asg (v := .int (s.2 : Nat)) (ev_op (ev_op (ev_var rfl) (ev_un ev_c ru_neg) (rv_il ha (atI_last hu))) ev_c (rv_it hpu rfl)) fun H1 e1 => ?_
    refine ⟨_, rfl, pa, rfl, ⟨_, sq_of (e1 _ _ ha)⟩, for_it (walk_list (K := K) (a := pa) (xs := vs)) (fun i σ H' => ∃ (sh : Nat) (y3 y4 y5 : Option V), σ = [some (.ref pa), some (.ref pw), some (.int sh), y3, y4, y5] ∧ Ex H H' ∧ towards s.2 l wy = towards sh (l.drop i) wy)
      ⟨s.2, none, none, none, rfl, e1, rfl⟩ ?_ ?_ ?_⟩
    · rintro i σ H' _ ⟨sh, y3, y4, y5, _, e, _⟩
      exact sq_of (e _ _ ha)
    · rintro i v σ H2 H3 hi ⟨sh, y3, y4, y5, rfl, e2, h5⟩ ⟨rfl, hx⟩
      obtain ⟨t, hti, ⟨pt, rfl, hpt⟩, nt⟩ := hvs.2 i v hx
      rw [drop_at hti] at h5
      have hs : towards sh (t :: l.drop (i + 1)) wy = if BnC.dirBefore wy t.1 = true then sh else towards t.2 (l.drop (i + 1)) wy := rfl
      refine ⟨pt, _, rfl, st_of (e2 _ _ hpt), rfl, _, _, rfl, _, _, rfl, _, _, rfl, rfl, ?_⟩
      dsimp only
      refine q_when (b := BnC.dirBefore wy t.1) (et_B ?_) (fun q H4 e4 => ?_) fun q H4 e4 => ?_
      · intro H4 e4 Q' q
        refine ⟨_, rfl, _, rfl, _, rfl, (by show 2 ≤ sizeLine; decide), fun p hp => ⟨(wy, t.1), ⟨⟨_, _, rfl, ⟨pw, rfl, Ex.new hp _ _ (e4 _ _ (e2 _ _ hw))⟩, p, rfl, upd_same⟩, nw⟩, fun v H5 e5 hv => ?_⟩⟩
        have hv : v = .bl (BnC.dirBefore wy t.1) := hv
        rw [hv]
        exact q _ ((Ex.new hp).trans e5)
      · refine s_ret (v := .int sh) (ev_var rfl) fun H5 e5 => k _ _ (e2.trans (e4.trans e5)) ?_
        rw [h5, hs, if_pos q]
      · refine s_asg (v := .int (t.2 : Nat)) (ev_var rfl) fun H5 e5 => ⟨t.2, _, _, _, rfl, e2.trans (e4.trans e5), ?_⟩
        rw [h5, hs, if_neg (by rw [q]; decide)]
    · rintro σ H2 ⟨sh, y3, y4, y5, rfl, e2, h5⟩
      dsimp only
      refine s_ret (v := .int sh) (ev_var rfl) fun H3 e3 => k _ _ (e2.trans e3) ?_
      rw [h5, hvs.1, List.drop_length]
      rfl
end
end Bc

namespace Bc
open PySem PySem.Spec PyProof.Rows L2 Evl
local macro_rules | `(tactic| walk_at "ev") => `(tactic| repeat' (first
  | with_reducible exact ev_c
  | with_reducible exact rv_I0
  | with_reducible exact ru_neg
  | with_reducible exact ea_nil
  | with_reducible refine' ev_var ?_
  | with_reducible refine' ev_chain ?_ ?_ ?_ ?_ ?_
  | with_reducible refine' ev_op ?_ ?_ ?_
  | with_reducible refine' ev_un ?_ ?_
  | with_reducible refine' ev_andV ?_ (fun _ => ?_)
  | with_reducible refine' ev_orV ?_ (fun _ => ?_)
  | with_reducible refine' ev_notV ?_
  | with_reducible refine' et_test ?_
  | with_reducible refine' et_B ?_
  | with_reducible refine' et_and ?_ (fun _ => ?_)
  | with_reducible refine' et_or ?_ (fun _ => ?_)
  | with_reducible refine' et_not ?_
  | with_reducible refine' ea_cons ?_ ?_
  | with_reducible refine' rv_it (by assumption) ?_
  | with_reducible refine' rv_mul ?_
  | with_reducible refine' rv_eq ?_
  | with_reducible refine' rv_ne ?_
  | exact rfl
  | ((with_reducible show CMul _ _); (try dsimp only at *); first | exact Or.inl ⟨by omega, by omega⟩ | exact Or.inr ⟨by omega, by omega⟩)))
section
variable {P : Program} {w : World} {K : PySem.W.Frag} {mg : Str → Option Value} {base : Heap} {ad : String → Addr}
/-! ### shadows -/
structure BdOk (b : Bd) : Prop where
  ab : Near 20000 (b.1, b.2.1)
  c1 : -1000000000 ≤ b.2.2
  c2 : b.2.2 ≤ 1000000000
def IsBd (H : Hp) (v : V) (b : Bd) : Prop := IsT H v [.int b.1, .int b.2.1, .int b.2.2] ∧ BdOk b
theorem IsBd.mono {H H' : Hp} {v : V} {b : Bd} (h : IsBd H v b) (e : Ex H H') : IsBd H' v b := ⟨h.1.mono e, h.2⟩
def IsSh (H : Hp) (v : V) (bs : List Bd) : Prop := ∃ p vs, v = .ref p ∧ H p = some (.lst vs) ∧ Reps (IsBd H) vs bs
theorem IsSh.mono {H H' : Hp} {v : V} {bs : List Bd} (h : IsSh H v bs) (e : Ex H H') : IsSh H' v bs := by
  obtain ⟨p, vs, rfl, hp, hr⟩ := h
  exact ⟨p, vs, rfl, e _ _ hp, hr.imp fun v x q => q.mono e⟩
theorem reps3 {α : Type} {R : V → α → Prop} {u v w : V} {x y z : α} (h1 : R u x) (h2 : R v y) (h3 : R w z) : Reps R [u, v, w] [x, y, z] :=
  ((Reps.nil.add h1).add h2).add h3
theorem along_ok {s d : Pt} (hs : Near 10000 s) (hd : Near 20000 d) : BdOk (along s d) := by
  unfold along
  have h1 := mul_near (m := 10000) (n := 20000) (x := s.1) (y := d.2) (by unfold Near at hs; omega) (by unfold Near at hd; omega)
  have h2 := mul_near (m := 10000) (n := 20000) (x := s.2) (y := d.1) (by unfold Near at hs; omega) (by unfold Near at hd; omega)
  refine ⟨?_, ?_, ?_⟩
  · unfold Near at *
    dsimp only
    omega
  · dsimp only [BnC.cross]
    omega
  · dsimp only [BnC.cross]
    omega
abbrev s_border_along : Stmt := top 29
abbrev N_border_along : List Str := ["start", "way"]
theorem sc_border_along : FnScope N_border_along ["start", "way"] (defScope s_border_along) := ⟨rfl, rfl, rfl, by decide +kernel, rfl, by decide +kernel, by decide +kernel⟩
def sp_border_along : Sp := spFn (fun vs H (a : Pt × Pt) => (∃ v u, vs = [v, u] ∧ IsPt H v a.1 ∧ IsPt H u a.2) ∧ Near 10000 a.1 ∧ Near 20000 a.2) fun a v H' => IsBd H' v (along a.1 a.2)
theorem ok_border_along (D_turn_between : Df P w K mg base "turn_between" 1 ["first", "second"] sp_turn_between) {f : Addr} {fd : FuncData} (F : Fun K "border_along" "border_along" s_border_along f fd) : FnOk P w K mg base CX0 2 f fd ["start", "way"] sp_border_along := by
  refine F.ok sc_border_along (fun vs H Q E h => ?_) (fun cdv A outer s H vs Q E hr h => ?_)
  · obtain ⟨a, ⟨⟨v, u, rfl, _⟩, _⟩, _⟩ := h
    rfl
  · refine ⟨_, (pss_one (ps_ret (pe_tup (pa_cons (pe_un un_neg (pe_ix ix_tup (pv 1) pe_int (fun _ _ => rfl))) (pa_cons (pe_ix ix_tup (pv 1) pe_int (fun _ _ => rfl)) (pa_cons (pe_df D_turn_between (hr.mono (by decide)) (by rfl) (pa_cons (pv 0) (pa_cons (pv 1) pa_nil))) pa_nil)))))), ?_⟩
    obtain ⟨⟨s, d⟩, ⟨⟨v, u, rfl, ⟨p, rfl, hp⟩, ⟨q, rfl, hq⟩⟩, n1, n2⟩, k⟩ := h
    dsimp only at hp hq n1 n2
    refine s_retU (xs := [.int (-d.2), .int d.1, .int (BnC.cross s d)]) (eu_tup (ea_cons ?_ (ea_cons ?_ (ea_cons (ev_fn (s, d) (vs := [.ref p, .ref q]) (ea_cons (ev_var rfl) (ea_cons (ev_var rfl) ea_nil)) (fun H1 e => ⟨⟨_, _, rfl, ⟨_, rfl, e _ _ hp⟩, ⟨_, rfl, e _ _ hq⟩⟩, n1.le (by omega)⟩) fun v H1 h => h) ea_nil))) (by simp)) fun r H1 hr e h1 => k _ _ e ⟨⟨r, rfl, h1⟩, along_ok n1 n2⟩
    · walk_at "ev"
    · walk_at "ev"
/-- border_along(a place, (x, y)) among a list's items -/
theorem ec_border {σ : L2.St} {H : Hp} {i : Nat} {vn : V} {ta tb : TE} {n : Pt} {x y : Int} {rest : TA} {Q : List V → Hp → Prop} (hi : σ[i]? = some (some vn)) (hn : IsPt H vn n) (hx : Ev ta σ H (.int x)) (hy : Ev tb σ H (.int y)) (n1 : Near 10000 n) (n2 : Near 20000 (x, y))
    (k : ∀ v H1, Ex H H1 → IsBd H1 v (along n (x, y)) → rest σ H1 fun r H2 => Q (v :: r) H2) : tCons (tCall sp_border_along [] E0 (tCons (tVar i) (tCons (tTup (tCons ta (tCons tb tNil))) tNil))) rest σ H Q := by
  refine ⟨_, hi, hx H (Ex.refl H) _ fun H1 e1 => hy H1 e1 _ fun H2 e2 => ⟨(by show 2 ≤ sizeLine; decide), fun p hp => ?_⟩⟩
  have e02 := e1.trans e2
  exact ⟨(n, (x, y)), ⟨⟨_, _, rfl, hn.mono (e02.trans (Ex.new hp)), ⟨p, rfl, upd_same⟩⟩, n1, n2⟩, fun v H3 e3 h => k v H3 (e02.trans ((Ex.new hp).trans e3)) h⟩
/-- border_along(a place, way_between(b, c)) among a list's items -/
theorem ec_border2 {σ : L2.St} {H : Hp} {i j l : Nat} {va vb vc : V} {a b c : Pt} {rest : TA} {Q : List V → Hp → Prop} (hi : σ[i]? = some (some va)) (hj : σ[j]? = some (some vb)) (hl : σ[l]? = some (some vc)) (ha : IsPt H va a) (hb : IsPt H vb b) (hc : IsPt H vc c)
    (n1 : Near 10000 a) (n2 : Near 10000 b) (n3 : Near 10000 c) (k : ∀ v H1, Ex H H1 → IsBd H1 v (along a (way b c)) → rest σ H1 fun r H2 => Q (v :: r) H2) :
    tCons (tCall sp_border_along [] E0 (tCons (tVar i) (tCons (tCall sp_way_between [] E0 (tCons (tVar j) (tCons (tVar l) tNil))) tNil))) rest σ H Q := by
  refine ⟨_, hi, _, hj, _, hl, (b, c), ⟨_, _, rfl, hb, hc⟩, fun v1 H1 e1 h1 => ⟨(a, way b c), ⟨⟨_, _, rfl, ha.mono e1, h1⟩, n1, near_way n2 n3⟩, fun v H3 e3 h => k v H3 (e1.trans e3) h⟩⟩
abbrev s_shadow_in_line : Stmt := top 30
abbrev N_shadow_in_line : List Str := ["light", "coast", "first", "second", "x", "y", "near"]
theorem sc_shadow_in_line : FnScope N_shadow_in_line ["light", "coast"] (defScope s_shadow_in_line) := ⟨rfl, rfl, rfl, by decide +kernel, rfl, by decide +kernel, by decide +kernel⟩
def spSh (mk : Pt → BnC.Coast → List Bd) : Sp := fun vs H Q _ => ∃ (l : Pt) (c : BnC.Coast), (∃ v u, vs = [v, u] ∧ IsPt H v l ∧ IsCo H u c) ∧ Near 10000 l ∧ ∀ v H', Ex H H' → IsSh H' v (mk l c) → Fresh H v → Q v H'
abbrev sp_shadow_in_line : Sp := spSh lineShad
abbrev sp_shadow_of : Sp := spSh shad
theorem ok_shadow_in_line (D_way_between : Df P w K mg base "way_between" 1 ["start", "end"] sp_way_between) (D_square_of_length : Df P w K mg base "square_of_length" 1 ["way"] sp_square_of_length) (D_border_along : Df P w K mg base "border_along" 2 ["start", "way"] sp_border_along)
    {f : Addr} {fd : FuncData} (F : Fun K "shadow_in_line" "shadow_in_line" s_shadow_in_line f fd) : FnOk P w K mg base CX0 3 f fd ["light", "coast"] sp_shadow_in_line := by
  refine F.ok sc_shadow_in_line (fun vs H Q E h => ?_) (fun cdv A outer s H vs Q E hr h => ?_)
  · obtain ⟨l, c, ⟨v, u, rfl, _⟩, _⟩ := h
    rfl
  · refine ⟨_, (pss_cons (ps_set (i := 2) sc_shadow_in_line.nd rfl (Or.inl rfl) (pe_df D_way_between (hr.mono (by decide)) (by rfl) (pa_cons (pv 0) (pa_cons (pe_ix ix_tup (pv 1) pe_int (fun _ _ => rfl)) pa_nil))))
    (pss_cons (ps_set (i := 3) sc_shadow_in_line.nd rfl (Or.inl rfl) (pe_df D_way_between (hr.mono (by decide)) (by rfl) (pa_cons (pv 0) (pa_cons (pe_ix ix_tup (pv 1) pe_int (fun _ _ => rfl)) pa_nil))))
    (pss_cons (ps_if (pt_cmpR op_le (pe_op op_add (pe_op op_mul (pe_ix ix_tup (pv 2) pe_int (fun _ _ => rfl)) (pe_ix ix_tup (pv 3) pe_int (fun _ _ => rfl))) (pe_op op_mul (pe_ix ix_tup (pv 2) pe_int (fun _ _ => rfl)) (pe_ix ix_tup (pv 3) pe_int (fun _ _ => rfl)))) pe_int (nomark _)) 
        (pss_one (ps_ret (pe_lst pa_nil))) pss_nil)
    (pss_cons (ps_asg (pe_ifExp (pt_cmpR op_lt (pe_df D_square_of_length (hr.mono (by decide)) (by rfl) (pa_cons (pv 2) pa_nil)) (pe_df D_square_of_length (hr.mono (by decide)) (by rfl) (pa_cons (pv 3) pa_nil)) (nomark _)) (pv 2) (pv 3)) (pg_tup rfl (pgs_cons (pg_name (i := 4) sc_shadow_in_line.nd rfl (Or.inl rfl)) (pgs_cons (pg_name (i := 5) sc_shadow_in_line.nd rfl (Or.inl rfl)) pgs_nil))))
    (pss_cons (ps_set (i := 6) sc_shadow_in_line.nd rfl (Or.inl rfl) (pe_tup (pa_cons (pe_op op_add (pe_ix ix_tup (pv 0) pe_int (fun _ _ => rfl)) (pv 4)) (pa_cons (pe_op op_add (pe_ix ix_tup (pv 0) pe_int (fun _ _ => rfl)) (pv 5)) pa_nil))))
    (pss_one (ps_ret (pe_lst (pa_cons (pe_df D_border_along (hr.mono (by decide)) (by rfl) (pa_cons (pv 6) (pa_cons (pe_tup (pa_cons (pv 4) (pa_cons (pv 5) pa_nil))) pa_nil))) (pa_cons (pe_df D_border_along (hr.mono (by decide)) (by rfl) (pa_cons (pv 6) (pa_cons (pe_tup (pa_cons (pe_un un_neg (pv 4)) (pa_cons (pe_un un_neg (pv 5)) pa_nil))) pa_nil))) (pa_cons (pe_df D_border_along (hr.mono (by decide)) (by rfl) (pa_cons (pv 6) (pa_cons (pe_tup (pa_cons (pv 5) (pa_cons (pe_un un_neg (pv 4)) pa_nil))) pa_nil))) pa_nil))))))))))), ?_⟩
    obtain ⟨l, ⟨c, d⟩, ⟨v, u, rfl, hl, ⟨⟨x1, x2, ⟨pc, rfl, hc⟩, hc1, hc2⟩, nc, nd, ncd⟩⟩, nl, k⟩ := h
    dsimp only at hc1 hc2 nc nd
    -- first = way_between(light, coast[0]); second = way_between(light, coast[1])
    refine ⟨_, rfl, _, rfl, pc, _, _, _, rfl, rfl, st_of hc, rfl, (l, c), ⟨_, _, rfl, hl, hc1⟩, fun v1 H1 e1 h1 => ?_⟩
    obtain ⟨p1, rfl, h1⟩ := h1
    dsimp only [gName]
    refine ⟨_, rfl, _, rfl, pc, _, _, _, rfl, rfl, st_of (e1 _ _ hc), rfl, (l, d), ⟨_, _, rfl, hl.mono e1, hc2.mono e1⟩, fun v2 H2 e2 h2 => ?_⟩
    obtain ⟨p2, rfl, h2⟩ := h2
    dsimp only [gName]
    have h1 := e2 _ _ h1
    have e02 := e1.trans e2
    have nf : Near 20000 (way l c) := near_way nl nc
    have ng : Near 20000 (way l d) := near_way nl nd
    dsimp only at h1 h2
    generalize hf : way l c = ff at h1 nf
    generalize hg : way l d = gg at h2 ng
    have ef : lineShad l (c, d) = if ff.1 * gg.1 + ff.2 * gg.2 ≤ 0 then [] else [along (l.1 + (nearer ff gg).1, l.2 + (nearer ff gg).2) (nearer ff gg), along (l.1 + (nearer ff gg).1, l.2 + (nearer ff gg).2) (-(nearer ff gg).1, -(nearer ff gg).2), along (l.1 + (nearer ff gg).1, l.2 + (nearer ff gg).2) ((nearer ff gg).2, -(nearer ff gg).1)] := by
      rw [← hf, ← hg]
      rfl
    unfold Near at nf ng
    refine q_when (b := decide (ff.1 * gg.1 + ff.2 * gg.2 ≤ 0)) ?_ (fun q H3 e3 => ?_) fun q H3 e3 => ?_
    · walk_at "ev"
    · rw [if_pos (of_decide_eq_true q)] at ef
      refine s_retL (xs := []) (el_lst ea_nil (by simp)) fun p H4 hp e4 h4 => k _ _ (e02.trans (e3.trans e4)) ?_ fun q hq => ?_
      · rw [ef]
        exact ⟨p, [], rfl, h4, Reps.nil⟩
      · cases hq
        exact fresh_back (e02.trans e3) hp
    · rw [if_neg (of_decide_eq_false q)] at ef
      have e03 := e02.trans e3
      -- x, y = the nearer way
      have hn : ∃ pn, H3 pn = some (.tup [.int (nearer ff gg).1, .int (nearer ff gg).2]) ∧ Ev (tIf (tTest (tOp (rI0 fun i j => .bl (decide (i < j))) (tCall sp_square_of_length [] E0 (tCons (tVar 2) tNil)) (tCall sp_square_of_length [] E0 (tCons (tVar 3) tNil)))) (tVar 2) (tVar 3)) (((start N_shadow_in_line [v, V.ref pc]).set 2 (some (V.ref p1))).set 3 (some (V.ref p2))) H3 (.ref pn) := by
        have sq1 : Ev (tCall sp_square_of_length [] E0 (tCons (tVar 2) tNil)) (((start N_shadow_in_line [v, V.ref pc]).set 2 (some (V.ref p1))).set 3 (some (V.ref p2))) H3 (.int (BnC.dot ff ff)) := ev_fn ff (vs := [.ref p1]) (ea_cons (ev_var rfl) ea_nil) (fun H4 e4 => ⟨⟨_, rfl, p1, rfl, e4 _ _ (e3 _ _ h1)⟩, by unfold Near; omega⟩) fun v H1 h => h
        have sq2 : Ev (tCall sp_square_of_length [] E0 (tCons (tVar 3) tNil)) (((start N_shadow_in_line [v, V.ref pc]).set 2 (some (V.ref p1))).set 3 (some (V.ref p2))) H3 (.int (BnC.dot gg gg)) := ev_fn gg (vs := [.ref p2]) (ea_cons (ev_var rfl) ea_nil) (fun H4 e4 => ⟨⟨_, rfl, p2, rfl, e4 _ _ (e3 _ _ h2)⟩, by unfold Near; omega⟩) fun v H1 h => h
        by_cases z : BnC.dot ff ff < BnC.dot gg gg
        · refine ⟨p1, ?_, ev_if (b := decide (BnC.dot ff ff < BnC.dot gg gg)) (et_test (ev_op sq1 sq2 rv_I0)) (fun _ => ev_var rfl) fun w => absurd z (of_decide_eq_false w)⟩
          unfold nearer
          rw [if_pos z]
          exact e3 _ _ h1
        · refine ⟨p2, ?_, ev_if (b := decide (BnC.dot ff ff < BnC.dot gg gg)) (et_test (ev_op sq1 sq2 rv_I0)) (fun w => absurd (of_decide_eq_true w) z) fun _ => ev_var rfl⟩
          unfold nearer
          rw [if_neg z]
          exact e3 _ _ h2
      obtain ⟨pn, hpn, hev⟩ := hn
      have nn : Near 20000 (nearer ff gg) ∧ Near 10000 (l.1 + (nearer ff gg).1, l.2 + (nearer ff gg).2) := by
        unfold nearer Near at *
        subst hf hg
        unfold way at *
        split <;> (dsimp only at *; omega)
      generalize nearer ff gg = ww at *
      refine q_un2 hev hpn fun H4 e4 => ?_
      have e04 := e03.trans e4
      obtain ⟨pl, rfl, hpl⟩ := id (hl.mono e04)
      -- near = (light[0] + x, light[1] + y)
      refine q_asgU (xs := [.int (l.1 + ww.1), .int (l.2 + ww.2)]) (eu_tup (ea_cons ?_ (ea_cons ?_ ea_nil)) (by simp)) fun pq H5 hpq e5 h5 => ?_
      · walk_at "ev"
      · walk_at "ev"
      have hq : IsPt H5 (.ref pq) (l.1 + ww.1, l.2 + ww.2) := ⟨pq, rfl, h5⟩
      obtain ⟨n1, n2⟩ := nn
      unfold Near at n1
      unfold tRet tLst
      refine ec_border (x := ww.1) (y := ww.2) rfl hq (by exact ev_var rfl) (by exact ev_var rfl) n2 (by unfold Near; dsimp only; omega) fun v1 H6 e6 g1 => ?_
      refine ec_border (x := -ww.1) (y := -ww.2) rfl (hq.mono e6) (by exact ev_un (ev_var rfl) ru_neg) (by exact ev_un (ev_var rfl) ru_neg) n2 (by unfold Near; dsimp only; omega) fun v2 H7 e7 g2 => ?_
      refine ec_border (x := ww.2) (y := -ww.1) rfl (hq.mono (e6.trans e7)) (by exact ev_var rfl) (by exact ev_un (ev_var rfl) ru_neg) n2 (by unfold Near; dsimp only; omega) fun v3 H8 e8 g3 => ?_
      have e08 := e04.trans (e5.trans (e6.trans (e7.trans e8)))
      refine ⟨(by show 3 ≤ sizeLine; decide), fun p9 hp9 => k _ _ (e08.trans (Ex.new hp9)) ?_ fun q hq => ?_⟩
      · rw [ef]
        have e9 := Ex.new (o := .lst [v1, v2, v3]) hp9
        exact ⟨p9, _, rfl, upd_same, reps3 (g1.mono (e7.trans (e8.trans e9))) (g2.mono (e8.trans e9)) (g3.mono e9)⟩
      · cases hq
        exact fresh_back e08 hp9
end
end Bc

namespace Bc
open PySem PySem.Spec PyProof.Rows L2 Evl
local macro_rules | `(tactic| walk_at "ev") => `(tactic| repeat' (first
  | with_reducible exact ev_c
  | with_reducible exact rv_I0
  | with_reducible exact ru_neg
  | with_reducible exact ea_nil
  | with_reducible refine' ev_var ?_
  | with_reducible refine' ev_chain ?_ ?_ ?_ ?_ ?_
  | with_reducible refine' ev_op ?_ ?_ ?_
  | with_reducible refine' ev_un ?_ ?_
  | with_reducible refine' ev_andV ?_ (fun _ => ?_)
  | with_reducible refine' ev_orV ?_ (fun _ => ?_)
  | with_reducible refine' ev_notV ?_
  | with_reducible refine' et_test ?_
  | with_reducible refine' et_B ?_
  | with_reducible refine' et_and ?_ (fun _ => ?_)
  | with_reducible refine' et_or ?_ (fun _ => ?_)
  | with_reducible refine' et_not ?_
  | with_reducible refine' ea_cons ?_ ?_
  | with_reducible refine' rv_it (by assumption) ?_
  | with_reducible refine' rv_mul ?_
  | with_reducible refine' rv_eq ?_
  | with_reducible refine' rv_ne ?_
  | exact rfl
  | ((with_reducible show CMul _ _); (try dsimp only at *); first | exact Or.inl ⟨by omega, by omega⟩ | exact Or.inr ⟨by omega, by omega⟩)))
section
variable {P : Program} {w : World} {K : PySem.W.Frag} {mg : Str → Option Value} {base : Heap} {ad : String → Addr}
abbrev s_shadow_of : Stmt := top 31
abbrev N_shadow_of : List Str := ["light", "coast", "first", "second", "side"]
theorem sc_shadow_of : FnScope N_shadow_of ["light", "coast"] (defScope s_shadow_of) := ⟨rfl, rfl, rfl, by decide +kernel, rfl, by decide +kernel, by decide +kernel⟩
theorem ok_shadow_of (D_way_between : Df P w K mg base "way_between" 1 ["start", "end"] sp_way_between) (D_turn_between : Df P w K mg base "turn_between" 1 ["first", "second"] sp_turn_between) (D_border_along : Df P w K mg base "border_along" 2 ["start", "way"] sp_border_along)
    (D_shadow_in_line : Df P w K mg base "shadow_in_line" 3 ["light", "coast"] sp_shadow_in_line)
    {f : Addr} {fd : FuncData} (F : Fun K "shadow_of" "shadow_of" s_shadow_of f fd) : FnOk P w K mg base CX0 4 f fd ["light", "coast"] sp_shadow_of := by
  refine F.ok sc_shadow_of (fun vs H Q E h => ?_) (fun cdv A outer s H vs Q E hr h => ?_)
  · obtain ⟨l, c, ⟨v, u, rfl, _⟩, _⟩ := h
    rfl
  · refine ⟨_, (pss_cons (ps_asg (pv 1) (pg_tup rfl (pgs_cons (pg_name (i := 2) sc_shadow_of.nd rfl (Or.inl rfl)) (pgs_cons (pg_name (i := 3) sc_shadow_of.nd rfl (Or.inl rfl)) pgs_nil))))
    (pss_cons (ps_set (i := 4) sc_shadow_of.nd rfl (Or.inl rfl) (pe_df D_turn_between (hr.mono (by decide)) (by rfl) (pa_cons (pe_df D_way_between (hr.mono (by decide)) (by rfl) (pa_cons (pv 0) (pa_cons (pv 2) pa_nil))) (pa_cons (pe_df D_way_between (hr.mono (by decide)) (by rfl) (pa_cons (pv 0) (pa_cons (pv 3) pa_nil))) pa_nil))))
    (pss_cons (ps_if (pt_cmpR op_eq (pv 4) pe_int (nomark _)) 
        (pss_one (ps_ret (pe_df D_shadow_in_line (hr.mono (by decide)) (by rfl) (pa_cons (pv 0) (pa_cons (pv 1) pa_nil))))) pss_nil)
    (pss_cons (ps_if (pt_cmpR op_lt (pv 4) pe_int (nomark _)) 
        (pss_one (ps_par (i := 2) (j := 3) rfl sc_shadow_of.nd rfl rfl (by decide) rfl rfl (pa_cons (pv 3) (pa_cons (pv 2) pa_nil)) rfl)) pss_nil)
    (pss_one (ps_ret (pe_lst (pa_cons (pe_df D_border_along (hr.mono (by decide)) (by rfl) (pa_cons (pv 0) (pa_cons (pe_df D_way_between (hr.mono (by decide)) (by rfl) (pa_cons (pv 0) (pa_cons (pv 2) pa_nil))) pa_nil))) (pa_cons (pe_df D_border_along (hr.mono (by decide)) (by rfl) (pa_cons (pv 3) (pa_cons (pe_df D_way_between (hr.mono (by decide)) (by rfl) (pa_cons (pv 3) (pa_cons (pv 0) pa_nil))) pa_nil))) (pa_cons (pe_df D_border_along (hr.mono (by decide)) (by rfl) (pa_cons (pv 3) (pa_cons (pe_df D_way_between (hr.mono (by decide)) (by rfl) (pa_cons (pv 3) (pa_cons (pv 2) pa_nil))) pa_nil))) pa_nil)))))))))), ?_⟩
    obtain ⟨l, ⟨c, d⟩, ⟨v, u, rfl, hl, hcd0⟩, nl, k⟩ := h
    obtain ⟨⟨x1, x2, ⟨pc, rfl, hc⟩, hc1, hc2⟩, nc, nd, ncd⟩ := id hcd0
    dsimp only at hc1 hc2 nc nd
    refine q_un2 (ev_var rfl) hc fun H1 e1 => ?_
    -- side = turn_between(way_between(light, first), way_between(light, second))
    refine ⟨_, rfl, _, rfl, (l, c), ⟨_, _, rfl, hl.mono e1, hc1.mono e1⟩, fun v1 H2 e2 h1 => ?_⟩
    refine ⟨_, rfl, _, rfl, (l, d), ⟨_, _, rfl, hl.mono (e1.trans e2), hc2.mono (e1.trans e2)⟩, fun v2 H3 e3 h2 => ?_⟩
    refine ⟨(way l c, way l d), ⟨⟨_, _, rfl, h1.mono e3, h2⟩, (near_way nl nc).le (by omega)⟩, fun v3 H4 e4 h3 => ?_⟩
    have h3 : v3 = .int (BnC.cross (way l c) (way l d)) := h3
    subst h3
    dsimp only [gName]
    have e04 := e1.trans (e2.trans (e3.trans e4))
    have es : shad l (c, d) = if BnC.cross (way l c) (way l d) = 0 then lineShad l (c, d) else
        [along l (way l (if BnC.cross (way l c) (way l d) < 0 then d else c)), along (if BnC.cross (way l c) (way l d) < 0 then c else d) (way (if BnC.cross (way l c) (way l d) < 0 then c else d) l), along (if BnC.cross (way l c) (way l d) < 0 then c else d) (way (if BnC.cross (way l c) (way l d) < 0 then c else d) (if BnC.cross (way l c) (way l d) < 0 then d else c))] := rfl
    generalize BnC.cross (way l c) (way l d) = s at es ⊢
    refine q_when (b := decide (s = 0)) (et_test (ev_is (ev_op (ev_var rfl) ev_c (rv_eq rfl)) (congrArg V.bl (int_eq _ _)))) (fun q H5 e5 => ?_) fun q H5 e5 => ?_
    · rw [if_pos (of_decide_eq_true q)] at es
      have e05 := e04.trans e5
      refine ⟨_, rfl, _, rfl, l, (c, d), ⟨_, _, rfl, hl.mono e05, hcd0.mono e05⟩, nl, fun v6 H6 e6 h6 fr => k _ _ (e05.trans e6) (by rw [es]; exact h6) fun q hq => fresh_back e05 (fr q hq)⟩
    · rw [if_neg (of_decide_eq_false q)] at es
      refine q_when (b := decide (s < 0)) (et_test (ev_op (ev_var rfl) ev_c rv_I0)) (fun q2 H6 e6 => ?_) fun q2 H6 e6 => ?_
      · have e06 := e04.trans (e5.trans e6)
        rw [if_pos (of_decide_eq_true q2), if_pos (of_decide_eq_true q2)] at es
        refine ⟨_, rfl, _, rfl, _, _, rfl, ?_⟩
        dsimp only
        unfold tRet tLst
        refine ec_border2 (a := l) (b := l) (c := d) rfl rfl rfl (hl.mono e06) (hl.mono e06) (hc2.mono e06) nl nl nd fun v1 H7 e7 g1 => ?_
        refine ec_border2 (a := c) (b := c) (c := l) rfl rfl rfl (hc1.mono (e06.trans e7)) (hc1.mono (e06.trans e7)) (hl.mono (e06.trans e7)) nc nc nl fun v2 H8 e8 g2 => ?_
        have e08 := e06.trans (e7.trans e8)
        refine ec_border2 (a := c) (b := c) (c := d) rfl rfl rfl (hc1.mono e08) (hc1.mono e08) (hc2.mono e08) nc nc nd fun v3 H9 e9 g3 => ?_
        have e09 := e08.trans e9
        refine ⟨(by show 3 ≤ sizeLine; decide), fun p9 hp9 => k _ _ (e09.trans (Ex.new hp9)) ?_ fun q hq => ?_⟩
        · rw [es]
          have e10 := Ex.new (o := .lst [v1, v2, v3]) hp9
          exact ⟨p9, _, rfl, upd_same, reps3 (g1.mono (e8.trans (e9.trans e10))) (g2.mono (e9.trans e10)) (g3.mono e10)⟩
        · cases hq
          exact fresh_back e09 hp9
      · have e06 := e04.trans (e5.trans e6)
        rw [if_neg (of_decide_eq_false q2), if_neg (of_decide_eq_false q2)] at es
        unfold tRet tLst
        refine ec_border2 (a := l) (b := l) (c := c) rfl rfl rfl (hl.mono e06) (hl.mono e06) (hc1.mono e06) nl nl nc fun v1 H7 e7 g1 => ?_
        refine ec_border2 (a := d) (b := d) (c := l) rfl rfl rfl (hc2.mono (e06.trans e7)) (hc2.mono (e06.trans e7)) (hl.mono (e06.trans e7)) nd nd nl fun v2 H8 e8 g2 => ?_
        have e08 := e06.trans (e7.trans e8)
        refine ec_border2 (a := d) (b := d) (c := c) rfl rfl rfl (hc2.mono e08) (hc2.mono e08) (hc1.mono e08) nd nd nc fun v3 H9 e9 g3 => ?_
        have e09 := e08.trans e9
        refine ⟨(by show 3 ≤ sizeLine; decide), fun p9 hp9 => k _ _ (e09.trans (Ex.new hp9)) ?_ fun q hq => ?_⟩
        · rw [es]
          have e10 := Ex.new (o := .lst [v1, v2, v3]) hp9
          exact ⟨p9, _, rfl, upd_same, reps3 (g1.mono (e8.trans (e9.trans e10))) (g2.mono (e9.trans e10)) (g3.mono e10)⟩
        · cases hq
          exact fresh_back e09 hp9
/-! ### walks in the heap -/
structure WOk (w : Wk) : Prop where
  st : Near 10000 w.1
  sp : Near 1000 w.2.1
  n : w.2.2 ≤ 1024
  pl : ∀ k < w.2.2, Near 10000 (atW w k)
def IsWk (H : Hp) (v : V) (w : Wk) : Prop := (∃ x y, IsT H v [x, y, .int (w.2.2 : Nat)] ∧ IsPt H x w.1 ∧ IsPt H y w.2.1) ∧ WOk w
theorem IsWk.mono {H H' : Hp} {v : V} {w : Wk} (h : IsWk H v w) (e : Ex H H') : IsWk H' v w := by
  obtain ⟨⟨x, y, h1, h2, h3⟩, h4⟩ := h
  exact ⟨⟨x, y, h1.mono e, h2.mono e, h3.mono e⟩, h4⟩
def IsShs (H : Hp) (v : V) (ss : List (List Bd)) : Prop := ∃ p vs, v = .ref p ∧ H p = some (.lst vs) ∧ Reps (IsSh H) vs ss
theorem IsShs.mono {H H' : Hp} {v : V} {ss : List (List Bd)} (h : IsShs H v ss) (e : Ex H H') : IsShs H' v ss := by
  obtain ⟨p, vs, rfl, hp, hr⟩ := h
  exact ⟨p, vs, rfl, e _ _ hp, hr.imp fun v x q => q.mono e⟩
theorem ediv_in {e g : Int} (hg : 0 < g) : min e 0 ≤ e / g ∧ e / g ≤ max e 0 := by
  rcases Int.le_total 0 e with c | c
  · have h1 := Int.ediv_nonneg c (Int.le_of_lt hg)
    have h2 := Int.ediv_le_self g c
    omega
  · have h1 : e ≤ e / g := (Int.le_ediv_iff_mul_le hg).mpr (by
      have := Int.mul_nonneg_of_nonpos_of_nonpos c (show 1 - g ≤ 0 by omega)
      rw [Int.mul_sub, Int.mul_one] at this
      omega)
    have h2 : e / g ≤ 0 := by
      by_cases z : e / g ≤ 0
      · exact z
      · have := (Int.le_ediv_iff_mul_le (a := 1) (b := e) hg).mp (by omega)
        omega
    omega
theorem within_bd (w : Wk) (hw : Near 10000 w.1) : ∀ (bs : List Bd) (fl : Int × Int), (∀ b ∈ bs, BdOk b) → -4000000000 ≤ fl.1 ∧ fl.1 ≤ 4000000000 → -4000000000 ≤ fl.2 ∧ fl.2 ≤ 4000000000 →
    (-4000000000 ≤ (bs.foldl (within1 w.1 w.2.1) fl).1 ∧ (bs.foldl (within1 w.1 w.2.1) fl).1 ≤ 4000000000) ∧ -4000000000 ≤ (bs.foldl (within1 w.1 w.2.1) fl).2 ∧ (bs.foldl (within1 w.1 w.2.1) fl).2 ≤ 4000000000
  | [], fl, _, h1, h2 => ⟨h1, h2⟩
  | b :: bs, fl, hb, h1, h2 => by
    rw [List.foldl_cons]
    have ok := hb b (List.mem_cons_self ..)
    have m1 := mul_near (m := 20000) (n := 10000) (x := b.1) (y := w.1.1) (by have := ok.ab; unfold Near at this; dsimp only at this; omega) (by unfold Near at hw; omega)
    have m2 := mul_near (m := 20000) (n := 10000) (x := b.2.1) (y := w.1.2) (by have := ok.ab; unfold Near at this; dsimp only at this; omega) (by unfold Near at hw; omega)
    have c1 := ok.c1
    have c2 := ok.c2
    have e0 : -1400000000 ≤ b.1 * w.1.1 + b.2.1 * w.1.2 + b.2.2 ∧ b.1 * w.1.1 + b.2.1 * w.1.2 + b.2.2 ≤ 1400000000 := by omega
    refine within_bd w hw bs _ (fun x hx => hb x (List.mem_cons_of_mem _ hx)) ?_ ?_
    all_goals
      unfold within1
      dsimp only
      generalize b.1 * w.1.1 + b.2.1 * w.1.2 + b.2.2 = e at e0 ⊢
      generalize b.1 * w.2.1.1 + b.2.1 * w.2.1.2 = g
      by_cases c : 0 < g
      · rw [if_pos c]
        have := ediv_in (e := e) c
        dsimp only
        omega
      · rw [if_neg c]
        by_cases d : g < 0
        · rw [if_pos d]
          have := ediv_in (e := e) (show 0 < -g by omega)
          dsimp only
          omega
        · rw [if_neg d]
          split <;> ((try dsimp only); omega)
abbrev s_numbers_within : Stmt := top 32
abbrev N_numbers_within : List Str := ["shadow", "walk", "start", "step", "count", "first", "last", "a", "b", "c", "begun", "gain"]
theorem sc_numbers_within : FnScope N_numbers_within ["shadow", "walk"] (defScope s_numbers_within) := ⟨rfl, rfl, rfl, by decide +kernel, rfl, by decide +kernel, by decide +kernel⟩
def sp_numbers_within : Sp := spFn (fun vs H (a : List Bd × Wk) => ∃ v u, vs = [v, u] ∧ IsSh H v a.1 ∧ IsWk H u a.2) fun a v H' => IsPt H' v (within a.1 a.2)
theorem ok_numbers_within (T : Tx K mg ad) {f : Addr} {fd : FuncData} (F : Fun K "numbers_within" "numbers_within" s_numbers_within f fd) : FnOk P w K mg base CX0 1 f fd ["shadow", "walk"] sp_numbers_within := by
  refine F.ok sc_numbers_within (fun vs H Q E h => ?_) (fun cdv A outer s H vs Q E hr h => ?_)
  · obtain ⟨a, ⟨v, u, rfl, _⟩, _⟩ := h
    rfl
  · refine ⟨_, (pss_cons (ps_asg (pv 1) (pg_tup rfl (pgs_cons (pg_name (i := 2) sc_numbers_within.nd rfl (Or.inl rfl)) (pgs_cons (pg_name (i := 3) sc_numbers_within.nd rfl (Or.inl rfl)) (pgs_cons (pg_name (i := 4) sc_numbers_within.nd rfl (Or.inl rfl)) pgs_nil)))))
    (pss_cons (ps_set (i := 5) sc_numbers_within.nd rfl (Or.inl rfl) pe_int)
    (pss_cons (ps_set (i := 6) sc_numbers_within.nd rfl (Or.inl rfl) (pe_op op_sub (pv 4) pe_int))
    (pss_cons (ps_for PassesOwn.never rfl (pi_list (pv 0)) (pg_tup rfl (pgs_cons (pg_name (i := 7) sc_numbers_within.nd rfl (Or.inl rfl)) (pgs_cons (pg_name (i := 8) sc_numbers_within.nd rfl (Or.inl rfl)) (pgs_cons (pg_name (i := 9) sc_numbers_within.nd rfl (Or.inl rfl)) pgs_nil)))) 
        (pss_cons (ps_set (i := 10) sc_numbers_within.nd rfl (Or.inl rfl) (pe_op op_add (pe_op op_add (pe_op op_mul (pv 7) (pe_ix ix_tup (pv 2) pe_int (fun _ _ => rfl))) (pe_op op_mul (pv 8) (pe_ix ix_tup (pv 2) pe_int (fun _ _ => rfl)))) (pv 9)))
        (pss_cons (ps_set (i := 11) sc_numbers_within.nd rfl (Or.inl rfl) (pe_op op_add (pe_op op_mul (pv 7) (pe_ix ix_tup (pv 3) pe_int (fun _ _ => rfl))) (pe_op op_mul (pv 8) (pe_ix ix_tup (pv 3) pe_int (fun _ _ => rfl)))))
        (pss_one (ps_if (pt_cmpR op_gt (pv 11) pe_int (nomark _)) 
            (pss_one (ps_set (i := 5) sc_numbers_within.nd rfl (Or.inl rfl) (pe_callB (call_max2 rfl) (by rfl) T.b_max (by decide +kernel) (pa_cons (pv 5) (pa_cons (pe_un un_neg (pe_op op_fdiv (pv 10) (pv 11))) pa_nil))))) 
            (pss_one (ps_if (pt_cmpR op_lt (pv 11) pe_int (nomark _)) 
                (pss_one (ps_set (i := 6) sc_numbers_within.nd rfl (Or.inl rfl) (pe_callB (call_min2 rfl) (by rfl) T.b_min (by decide +kernel) (pa_cons (pv 6) (pa_cons (pe_op op_fdiv (pv 10) (pe_un un_neg (pv 11))) pa_nil))))) 
                (pss_one (ps_if (pt_cmpR op_lt (pv 10) pe_int (nomark _)) 
                    (pss_one (ps_set (i := 6) sc_numbers_within.nd rfl (Or.inl rfl) (pe_un un_neg pe_int))) pss_nil)))))))))
    (pss_one (ps_ret (pe_tup (pa_cons (pv 5) (pa_cons (pv 6) pa_nil))))))))), ?_⟩
    obtain ⟨⟨bs, wk⟩, ⟨v, u, rfl, ⟨ps, vs, rfl, hps, hvs⟩, ⟨x, y, ⟨pw, rfl, hpw⟩, ⟨px, rfl, hx⟩, ⟨py, rfl, hy⟩⟩, ok⟩, k⟩ := h
    dsimp only at hps hvs hpw hx hy ok
    refine q_un3 (ev_var rfl) hpw fun H1 e1 => ?_
    refine q_asg (v := .int 0) ev_c fun H2 e2 => ?_
    refine q_asg (v := .int ((wk.2.2 : Int) - 1)) ?_ fun H3 e3 => ?_
    · walk_at "ev"
    have e03 := e1.trans (e2.trans e3)
    have hwd : within bs wk = bs.foldl (within1 wk.1 wk.2.1) (0, (wk.2.2 : Int) - 1) := rfl
    refine ⟨_, rfl, ps, rfl, ⟨_, sq_of (e03 _ _ hps)⟩, for_it (walk_list (K := K) (a := ps) (xs := vs)) (fun i σ H' => ∃ (y7 y8 y9 y10 y11 : Option V), σ = [some (.ref ps), some (.ref pw), some (.ref px), some (.ref py), some (.int (wk.2.2 : Nat)), some (.int ((bs.take i).foldl (within1 wk.1 wk.2.1) (0, (wk.2.2 : Int) - 1)).1), some (.int ((bs.take i).foldl (within1 wk.1 wk.2.1) (0, (wk.2.2 : Int) - 1)).2), y7, y8, y9, y10, y11] ∧ Ex H H')
      ⟨none, none, none, none, none, rfl, e03⟩ ?_ ?_ ?_⟩
    · rintro i σ H' hi ⟨y7, y8, y9, y10, y11, rfl, e⟩
      exact sq_of (e _ _ hps)
    · rintro i v σ H4 H5 hi ⟨y7, y8, y9, y10, y11, rfl, e⟩ ⟨rfl, hxi⟩
      obtain ⟨b, hbi, ⟨pb, rfl, hb⟩, bok⟩ := hvs.2 i v hxi
      refine ⟨pb, _, rfl, st_of (e _ _ hb), rfl, _, _, rfl, _, _, rfl, _, _, rfl, rfl, ?_⟩
      dsimp only
      have htk : bs.take (i + 1) = bs.take i ++ [b] := by
        rw [List.take_add_one, hbi]
        rfl
      rw [htk, List.foldl_append]
      generalize (bs.take i).foldl (within1 wk.1 wk.2.1) (0, (wk.2.2 : Int) - 1) = fl
      have ab := bok.ab
      have nst := ok.st
      have nsp := ok.sp
      unfold Near at ab nst nsp
      dsimp only at ab
      have hx4 := e _ _ hx
      have hy4 := e _ _ hy
      -- begun, gain
      refine q_asg (v := .int (b.1 * wk.1.1 + b.2.1 * wk.1.2 + b.2.2)) ?_ fun H6 e6 => ?_
      · walk_at "ev"
      have hx6 := e6 _ _ hx4
      have hy6 := e6 _ _ hy4
      refine q_asg (v := .int (b.1 * wk.2.1.1 + b.2.1 * wk.2.1.2)) ?_ fun H7 e7 => ?_
      · walk_at "ev"
      have e07 := e.trans (e6.trans e7)
      have hst : [b].foldl (within1 wk.1 wk.2.1) fl = within1 wk.1 wk.2.1 fl b := rfl
      rw [hst]
      unfold within1
      dsimp only
      have m1 := mul_near (m := 20000) (n := 1000) (x := b.1) (y := wk.2.1.1) (by omega) (by omega)
      have m2 := mul_near (m := 20000) (n := 1000) (x := b.2.1) (y := wk.2.1.2) (by omega) (by omega)
      have gb : -40000000 ≤ b.1 * wk.2.1.1 + b.2.1 * wk.2.1.2 ∧ b.1 * wk.2.1.1 + b.2.1 * wk.2.1.2 ≤ 40000000 := by omega
      generalize b.1 * wk.1.1 + b.2.1 * wk.1.2 + b.2.2 = eb
      generalize b.1 * wk.2.1.1 + b.2.1 * wk.2.1.2 = g at gb ⊢
      refine s_if (b := decide (0 < g)) (et_test (ev_op (ev_var rfl) ev_c rv_I0)) (fun q H8 e8 => ?_) fun q H8 e8 => ?_
      · have q := of_decide_eq_true q
        rw [if_pos q]
        refine s_asg (v := .int (max fl.1 (-(eb / g)))) (ev_cb (ea_cons (ev_var rfl) (ea_cons (ev_un (ev_op (ev_var rfl) (ev_var rfl) (rv_I (g := fun i j => .int (i / j)) ⟨q, by omega⟩)) ru_neg) ea_nil)) rc_max) fun H9 e9 => ?_
        exact ⟨_, _, _, _, _, rfl, e07.trans (e8.trans e9)⟩
      · have q := of_decide_eq_false q
        rw [if_neg q]
        refine s_if (b := decide (g < 0)) (et_test (ev_op (ev_var rfl) ev_c rv_I0)) (fun q2 H9 e9 => ?_) fun q2 H9 e9 => ?_
        · have q2 := of_decide_eq_true q2
          rw [if_pos q2]
          refine s_asg (v := .int (min fl.2 (eb / -g))) (ev_cb (ea_cons (ev_var rfl) (ea_cons (ev_op (ev_var rfl) (ev_un (ev_var rfl) ru_neg) (rv_I (g := fun i j => .int (i / j)) ⟨by omega, by omega⟩)) ea_nil)) rc_min) fun H10 e10 => ?_
          exact ⟨_, _, _, _, _, rfl, e07.trans (e8.trans (e9.trans e10))⟩
        · have q2 := of_decide_eq_false q2
          rw [if_neg q2]
          refine s_when (b := decide (eb < 0)) (et_test (ev_op (ev_var rfl) ev_c rv_I0)) (fun q3 H10 e10 => ?_) fun q3 H10 e10 => ?_
          · rw [if_pos (of_decide_eq_true q3)]
            refine s_asg (v := .int (-1)) (ev_un ev_c ru_neg) fun H11 e11 => ?_
            exact ⟨_, _, _, _, _, rfl, e07.trans (e8.trans (e9.trans (e10.trans e11)))⟩
          · rw [if_neg (of_decide_eq_false q3)]
            exact ⟨_, _, _, _, _, rfl, e07.trans (e8.trans (e9.trans e10))⟩
    · rintro σ H4 ⟨y7, y8, y9, y10, y11, rfl, e⟩
      rw [hvs.1, List.take_length, ← hwd]
      dsimp only
      exact s_retU (xs := [.int (within bs wk).1, .int (within bs wk).2]) (eu_tup (ea_cons (ev_var rfl) (ea_cons (ev_var rfl) ea_nil)) (by simp)) fun r H5 hr e5 h5 => k _ _ (e.trans e5) ⟨r, rfl, h5⟩
abbrev s_hidden_on : Stmt := top 33
abbrev N_hidden_on : List Str := ["shadows", "walk", "hidden", "shadow", "first", "last", "number"]
theorem sc_hidden_on : FnScope N_hidden_on ["shadows", "walk"] (defScope s_hidden_on) := ⟨rfl, rfl, rfl, by decide +kernel, rfl, by decide +kernel, by decide +kernel⟩
def sp_hidden_on : Sp := spFn (fun vs H (a : List (List Bd) × Wk) => ∃ v u, vs = [v, u] ∧ IsShs H v a.1 ∧ IsWk H u a.2) fun a v H' => IsL H' v ((hiddenOn a.1 a.2).map V.bl)
theorem set_range {n j : Nat} {g : Nat → Bool} : (((List.range n).map g).map V.bl).set j (.bl true) = ((List.range n).map fun k => g k || decide (k = j)).map V.bl := by
  refine List.ext_getElem? fun i => ?_
  rw [List.getElem?_set]
  simp only [List.getElem?_map]
  by_cases c : j = i
  · subst c
    rw [if_pos rfl]
    by_cases d : j < n
    · rw [if_pos (by simpa using d), List.getElem?_range d]
      simp
    · rw [if_neg (by simpa using d), List.getElem?_eq_none (by simpa using d)]
      rfl
  · rw [if_neg c]
    by_cases d : i < n
    · rw [List.getElem?_range d]
      simp [show ¬ i = j from fun z => c z.symm]
    · rw [List.getElem?_eq_none (by simpa using d)]
      rfl
theorem ok_hidden_on (T : Tx K mg ad) (D_numbers_within : Df P w K mg base "numbers_within" 1 ["shadow", "walk"] sp_numbers_within) {f : Addr} {fd : FuncData} (F : Fun K "hidden_on" "hidden_on" s_hidden_on f fd) : FnOk P w K mg base CX0 2 f fd ["shadows", "walk"] sp_hidden_on := by
  refine F.ok sc_hidden_on (fun vs H Q E h => ?_) (fun cdv A outer s H vs Q E hr h => ?_)
  · obtain ⟨a, ⟨v, u, rfl, _⟩, _⟩ := h
    rfl
  · refine ⟨_, (pss_cons (ps_set (i := 2) sc_hidden_on.nd rfl (Or.inl rfl) (pe_op op_rep (pe_lst (pa_cons pe_bl pa_nil)) (pe_ix ix_tup (pv 1) pe_int (fun _ _ => rfl))))
    (pss_cons (ps_for PassesOwn.never rfl (pi_list (pv 0)) (pg_name (i := 3) sc_hidden_on.nd rfl (Or.inl rfl)) 
        (pss_cons (ps_asg (pe_df D_numbers_within (hr.mono (by decide)) (by rfl) (pa_cons (pv 3) (pa_cons (pv 1) pa_nil))) (pg_tup rfl (pgs_cons (pg_name (i := 4) sc_hidden_on.nd rfl (Or.inl rfl)) (pgs_cons (pg_name (i := 5) sc_hidden_on.nd rfl (Or.inl rfl)) pgs_nil))))
        (pss_one (ps_for PassesOwn.never rfl (pi_range2 (by rfl) T.b_range (pa_cons (pv 4) (pa_cons (pe_op op_add (pv 5) pe_int) pa_nil))) (pg_name (i := 6) sc_hidden_on.nd rfl (Or.inl rfl)) 
            (pss_one (ps_asg pe_bl (pg_sub (pv 2) (pv 6) set_list)))))))
    (pss_one (ps_ret (pv 2))))), ?_⟩
    obtain ⟨⟨ss, wk⟩, ⟨v, u, rfl, ⟨ps, vs, rfl, hps, hvs⟩, hw⟩, k⟩ := h
    dsimp only at hps hvs hw
    obtain ⟨⟨x, y, ⟨pw, rfl, hpw⟩, hx, hy⟩, ok⟩ := id hw
    have hn := ok.n
    have hsz : (wk.2.2 : Int) ≤ 1024 := by omega
    -- hidden = [False] * walk[2]
    refine ⟨(by show 1 ≤ sizeLine; decide), fun p1 hp1 => ⟨_, rfl, pw, _, _, _, rfl, rfl, st_of (Ex.new hp1 _ _ hpw), rfl, p1, _, _, rfl, rfl, upd_same, by omega, by omega, ?_, fun hd hhd => ?_⟩⟩
    · simp only [List.length_singleton, Nat.one_mul, Int.toNat_natCast]
      exact Nat.le_trans hn (by decide)
    have n1 := Ex.new (o := .lst [V.bl false]) hp1
    have hd0 : H hd = none := fresh_back n1 hhd
    have e1 : Ex H (upd (upd H p1 (.lst [V.bl false])) hd (.lst (List.replicate ((wk.2.2 : Int)).toNat [V.bl false]).flatten)) := n1.trans (Ex.new hhd)
    have c0 : (List.replicate ((wk.2.2 : Int)).toNat [V.bl false]).flatten = ((List.range wk.2.2).map fun _ => false).map V.bl := by
      rw [Int.toNat_natCast]
      refine List.ext_getElem? fun i => ?_
      simp [List.getElem?_replicate]
      by_cases d : i < wk.2.2
      · simp [d]
      · simp [d]
    have h1 : upd (upd H p1 (.lst [V.bl false])) hd (.lst (List.replicate ((wk.2.2 : Int)).toNat [V.bl false]).flatten) hd = some (.lst (((List.range wk.2.2).map fun _ => false).map V.bl)) := by
      rw [upd_same, c0]
    generalize upd (upd H p1 (.lst [V.bl false])) hd (.lst (List.replicate ((wk.2.2 : Int)).toNat [V.bl false]).flatten) = H1 at e1 h1
    dsimp only [gName]
    refine ⟨_, rfl, ps, rfl, ⟨_, sq_of (e1 _ _ hps)⟩, for_it (walk_list (K := K) (a := ps) (xs := vs)) (fun i σ H' => ∃ (y3 y4 y5 y6 : Option V), σ = [some (.ref ps), some (.ref pw), some (.ref hd), y3, y4, y5, y6] ∧ Ex H H' ∧ H' hd = some (.lst (((List.range wk.2.2).map fun k => (ss.take i).any fun b => inShad b (atW wk k)).map V.bl)))
      ⟨none, none, none, none, rfl, e1, h1⟩ ?_ ?_ ?_⟩
    · rintro i σ H' hi ⟨y3, y4, y5, y6, rfl, e, _⟩
      exact sq_of (e _ _ hps)
    · rintro i v σ H2 H3 hi ⟨y3, y4, y5, y6, rfl, e, hh⟩ ⟨rfl, hxi⟩
      obtain ⟨b, hbi, hb⟩ := hvs.2 i v hxi
      have hbd : ∀ x ∈ b, BdOk x := fun x hx => by
        rcases List.getElem?_of_mem hx with ⟨j, hj⟩
        obtain ⟨p, vs', rfl, _, hr⟩ := id hb
        obtain ⟨_, _, h⟩ := hr.at hj
        exact h.2
      have wi := within_is wk b
      have wb := within_bd wk ok.st b (0, (wk.2.2 : Int) - 1) hbd (by dsimp only; omega) (by dsimp only; omega)
      have wdef : b.foldl (within1 wk.1 wk.2.1) (0, (wk.2.2 : Int) - 1) = within b wk := rfl
      rw [wdef] at wb
      have htk : ss.take (i + 1) = ss.take i ++ [b] := by
        rw [List.take_add_one, hbi]
        rfl
      rw [htk]
      -- first, last = numbers_within(shadow, walk)
      refine ⟨_, rfl, _, rfl, (b, wk), ⟨_, _, rfl, hb.mono e, hw.mono e⟩, fun v1 H4 e4 g1 => ?_⟩
      obtain ⟨p2, rfl, h2⟩ := g1
      dsimp only at h2
      generalize within b wk = fl at wi wb h2
      refine ⟨p2, _, rfl, st_of h2, rfl, _, _, rfl, _, _, rfl, rfl, ?_⟩
      dsimp only
      have e04 := e.trans e4
      have hh4 := e4 _ _ hh
      refine ⟨_, rfl, _, rfl, _, _, rfl, rfl, _, _, rfl, ⟨by omega, by omega, by omega, by omega⟩, for_it (walk_range (lo := fl.1) (n := (fl.2 + 1 - fl.1).toNat)) (fun j σ H' => ∃ (y6 : Option V), σ = [some (.ref ps), some (.ref pw), some (.ref hd), some v, some (.int fl.1), some (.int fl.2), y6] ∧ Ex H H' ∧ H' hd = some (.lst (((List.range wk.2.2).map fun k => ((ss.take i).any fun b => inShad b (atW wk k)) || (decide (fl.1 ≤ (k : Int)) && decide ((k : Int) < fl.1 + (j : Int)))).map V.bl)))
        ⟨_, rfl, e04, ?_⟩ ?_ ?_ ?_⟩
      · rw [hh4]
        congr 4
        funext k
        have : (decide (fl.1 ≤ (k : Int)) && decide ((k : Int) < fl.1 + ((0 : Nat) : Int))) = false := by
          rw [Bool.and_eq_false_iff, decide_eq_false_iff_not, decide_eq_false_iff_not]
          omega
        rw [this, Bool.or_false]
      · rintro j σ H' hj ⟨y6, rfl, e, _⟩
        trivial
      · rintro j v' σ H5 H6 hj ⟨y6, rfl, e5, h5⟩ ⟨rfl, rfl⟩
        dsimp only [gName]
        obtain ⟨m, hm⟩ : ∃ m : Nat, fl.1 + (j : Int) = (m : Int) := ⟨(fl.1 + (j : Int)).toNat, by omega⟩
        have hmn : m < wk.2.2 := by omega
        refine s_setL (l := hd) (j := m) h5 (v := .bl true) ev_c (ev_var rfl) (ev_is (ev_var rfl) (congrArg V.int hm)) (by simpa using hmn) fun H7 e7 => ?_
        refine ⟨_, rfl, (e5.trans e7).mut hd0, ?_⟩
        rw [upd_same, set_range]
        congr 4
        funext k
        rw [Bool.or_assoc]
        congr 1
        rw [Bool.eq_iff_iff]
        simp only [Bool.or_eq_true, Bool.and_eq_true, decide_eq_true_iff]
        omega
      · rintro σ H5 ⟨y6, rfl, e5, h5⟩
        refine ⟨_, _, _, _, rfl, e5, ?_⟩
        rw [h5]
        congr 3
        refine List.map_congr_left fun k hk => ?_
        rw [List.any_append]
        congr 1
        have := wi.2.2 k (List.mem_range.mp hk)
        rw [Bool.eq_iff_iff]
        simp only [Bool.and_eq_true, decide_eq_true_iff, List.any_cons, List.any_nil, Bool.or_false]
        rw [← this]
        omega
    · rintro σ H2 ⟨y3, y4, y5, y6, rfl, e, hh⟩
      rw [hvs.1, List.take_length] at hh
      dsimp only
      exact s_ret (v := .ref hd) (ev_var rfl) fun H3 e3 => k _ _ (e.trans e3) ⟨hd, rfl, e3 _ _ hh⟩
end
end Bc

namespace Bc
open PySem PySem.Spec PyProof.Rows L2 Evl
local macro_rules | `(tactic| walk_at "ev") => `(tactic| repeat' (first
  | with_reducible exact ev_c
  | with_reducible exact rv_I0
  | with_reducible exact ru_neg
  | with_reducible exact ea_nil
  | with_reducible refine' ev_var ?_
  | with_reducible refine' ev_chain ?_ ?_ ?_ ?_ ?_
  | with_reducible refine' ev_op ?_ ?_ ?_
  | with_reducible refine' ev_un ?_ ?_
  | with_reducible refine' ev_andV ?_ (fun _ => ?_)
  | with_reducible refine' ev_orV ?_ (fun _ => ?_)
  | with_reducible refine' ev_notV ?_
  | with_reducible refine' et_test ?_
  | with_reducible refine' et_B ?_
  | with_reducible refine' et_and ?_ (fun _ => ?_)
  | with_reducible refine' et_or ?_ (fun _ => ?_)
  | with_reducible refine' et_not ?_
  | with_reducible refine' ea_cons ?_ ?_
  | with_reducible refine' rv_it (by assumption) ?_
  | with_reducible refine' rv_mul ?_
  | with_reducible refine' rv_eq ?_
  | with_reducible refine' rv_ne ?_
  | exact rfl
  | ((with_reducible show CMul _ _); (try dsimp only at *); first | exact Or.inl ⟨by omega, by omega⟩ | exact Or.inr ⟨by omega, by omega⟩)))
section
variable {P : Program} {w : World} {K : PySem.W.Frag} {mg : Str → Option Value} {base : Heap} {ad : String → Addr}
def IsPts (H : Hp) (v : V) (ps : List Pt) : Prop := ∃ p vs, v = .ref p ∧ H p = some (.lst vs) ∧ Reps (IsPt H) vs ps
theorem IsPts.mono {H H' : Hp} {v : V} {ps : List Pt} (h : IsPts H v ps) (e : Ex H H') : IsPts H' v ps := by
  obtain ⟨p, vs, rfl, hp, hr⟩ := h
  exact ⟨p, vs, rfl, e _ _ hp, hr.imp fun v x q => q.mono e⟩
def IsWks (H : Hp) (v : V) (ws : List Wk) : Prop := ∃ p vs, v = .ref p ∧ H p = some (.lst vs) ∧ Reps (IsWk H) vs ws
theorem IsWks.mono {H H' : Hp} {v : V} {ws : List Wk} (h : IsWks H v ws) (e : Ex H H') : IsWks H' v ws := by
  obtain ⟨p, vs, rfl, hp, hr⟩ := h
  exact ⟨p, vs, rfl, e _ _ hp, hr.imp fun v x q => q.mono e⟩
/-- tuples stay when a list changes -/
theorem IsT.off {H : Hp} {v : V} {xs ys : List V} {l : Addr} {o : HO} (h : IsT H v xs) (hl : H l = some (.lst ys)) : IsT (upd H l o) v xs := by
  obtain ⟨p, rfl, hp⟩ := h
  exact ⟨p, rfl, by rw [upd_ne (fun z => by rw [z, hl] at hp; cases hp)]; exact hp⟩
theorem Reps.app {α : Type} {R : V → α → Prop} {us vs : List V} {xs ys : List α} (h : Reps R us xs) (g : Reps R vs ys) : Reps R (us ++ vs) (xs ++ ys) := by
  refine ⟨by rw [List.length_append, List.length_append, h.1, g.1], fun i v e => ?_⟩
  by_cases c : i < us.length
  · rw [List.getElem?_append_left c] at e
    obtain ⟨x, h1, h2⟩ := h.2 i v e
    exact ⟨x, by rw [List.getElem?_append_left (by rw [← h.1]; exact c)]; exact h1, h2⟩
  · rw [List.getElem?_append_right (by omega)] at e
    obtain ⟨x, h1, h2⟩ := g.2 _ v e
    exact ⟨x, by rw [List.getElem?_append_right (by rw [← h.1]; omega), ← h.1]; exact h1, h2⟩
theorem take_next {β : Type} {m : List β} {j : Nat} {y : β} (h : m[j]? = some y) : m.take (j + 1) = m.take j ++ [y] := by
  rw [List.take_add_one, h]
  rfl
theorem tup_open {t : TA} {σ : L2.St} {H : Hp} {Q : VK} (h : t σ H fun xs H1 => xs.length ≤ sizeLine ∧ ∀ p, H1 p = none → Q (.ref p) (upd H1 p (.tup xs))) : tTup t σ H Q := h
theorem cons_open {ta : TE} {tr : TA} {σ : L2.St} {H : Hp} {Q : List V → Hp → Prop} (h : ta σ H fun x H1 => tr σ H1 fun xs H2 => Q (x :: xs) H2) : tCons ta tr σ H Q := h
abbrev s_places_on : Stmt := top 53
abbrev N_places_on : List Str := ["walk", "start", "step", "count", "number"]
theorem sc_places_on : FnScope N_places_on ["walk"] (defScope s_places_on) := ⟨rfl, rfl, rfl, by decide +kernel, rfl, by decide +kernel, by decide +kernel⟩
def sp_places_on : Sp := spFn (fun vs H (w : Wk) => ∃ v, vs = [v] ∧ IsWk H v w) fun w v H' => IsPts H' v (placesOn w)
theorem ok_places_on (T : Tx K mg ad) {f : Addr} {fd : FuncData} (F : Fun K "places_on" "places_on" s_places_on f fd) : FnOk P w K mg base CX0 1 f fd ["walk"] sp_places_on := by
  refine F.ok sc_places_on (fun vs H Q E h => ?_) (fun cdv A outer s H vs Q E hr h => ?_)
  · obtain ⟨a, ⟨v, rfl, _⟩, _⟩ := h
    rfl
  · refine ⟨_, (pss_cons (ps_asg (pv 0) (pg_tup rfl (pgs_cons (pg_name (i := 1) sc_places_on.nd rfl (Or.inr rfl)) (pgs_cons (pg_name (i := 2) sc_places_on.nd rfl (Or.inr rfl)) (pgs_cons (pg_name (i := 3) sc_places_on.nd rfl (Or.inl rfl)) pgs_nil)))))
    (pss_one (ps_ret (pe_lc (own := [("number", 4)]) (te := (tTup (tCons (tOp (rI0 fun i j => .int (i + j)) (tOp (rIxT K) (tVar 1) (tC (.int 0))) (tOp (rI CMul fun i j => .int (i * j)) (tVar 4) (tOp (rIxT K) (tVar 2) (tC (.int 0))))) (tCons (tOp (rI0 fun i j => .int (i + j)) (tOp (rIxT K) (tVar 1) (tC (.int 1))) (tOp (rI CMul fun i j => .int (i * j)) (tVar 4) (tOp (rIxT K) (tVar 2) (tC (.int 1))))) tNil)))) rfl sc_places_on.nd (pi_range1 (by rfl) T.b_range (pa_cons (pv 3) pa_nil)) (blkOk_by (N := N_places_on) (sc := defScope s_places_on) (by decide +kernel)) (by intro _ _ _ _ _; exact (pg_name (i := 4) sc_places_on.nd rfl (Or.inl rfl))) (by intro _ _ _ _ _; exact pts_nil) (by intro _ _ _ _ _; exact (pe_tup (pa_cons (pe_op op_add (pe_ix ix_tup (pv 1) pe_int (fun _ _ => rfl)) (pe_op op_mul (pv 4) (pe_ix ix_tup (pv 2) pe_int (fun _ _ => rfl)))) (pa_cons (pe_op op_add (pe_ix ix_tup (pv 1) pe_int (fun _ _ => rfl)) (pe_op op_mul (pv 4) (pe_ix ix_tup (pv 2) pe_int (fun _ _ => rfl)))) pa_nil)))))))), ?_⟩
    obtain ⟨wk, ⟨v, rfl, ⟨x, y, ⟨pw, rfl, hpw⟩, ⟨px, rfl, hx⟩, ⟨py, rfl, hy⟩⟩, ok⟩, k⟩ := h
    refine q_un3 (ev_var rfl) hpw fun H1 e1 => ?_
    have hn := ok.n
    have nsp := ok.sp
    unfold Near at nsp
    refine ⟨_, rfl, _, rfl, by omega, by omega, fun D hD => lc_it (walk_range (lo := 0) (n := wk.2.2)) (fun i H' => Ex H1 H' ∧ ∃ vd, H' D = some (.lst vd) ∧ Reps (IsPt H') vd ((placesOn wk).take i)) ⟨Ex.new hD, [], upd_same, Reps.nil⟩ (fun _ _ _ _ => trivial) ?_ ?_⟩
    · rintro i v H3 H4 hi ⟨e3, vd, h1, h2⟩ ⟨rfl, rfl⟩
      dsimp only
      rw [Int.zero_add]
      refine ⟨rfl, ?_⟩
      dsimp only [tYes]
      rw [if_pos rfl]
      have hx3 := e3 _ _ (e1 _ _ hx)
      have hy3 := e3 _ _ (e1 _ _ hy)
      have hat : (placesOn wk)[i]? = some (atW wk i) := by
        unfold placesOn
        rw [List.getElem?_map, List.getElem?_range hi]
        rfl
      refine eu_tup (vs := [.int (atW wk i).1, .int (atW wk i).2]) (ea_cons ?_ (ea_cons ?_ ea_nil)) (by simp) H4 (Ex.refl _) _ fun q H5 hq e5 h5 => ⟨vd, e5 _ _ h1, ?_, Ex.mut (e3.trans e5) hD, _, upd_same, ?_⟩
      · unfold atW
        walk_at "ev"
      · unfold atW
        walk_at "ev"
      · rw [h2.1]
        refine Nat.lt_of_le_of_lt (List.length_take_le' _ _) ?_
        unfold placesOn
        simp only [List.length_range, List.length_map]
        exact Nat.lt_of_le_of_lt hn (by decide)
      · rw [take_next hat]
        have hD5 := e5 _ _ h1
        exact Reps.add (h2.imp fun v x z => IsT.off (z.mono e5) hD5) (IsT.off ⟨q, rfl, h5⟩ hD5)
    · rintro H3 ⟨e3, vd, h1, h2⟩
      have hl : (placesOn wk).length = wk.2.2 := by
        unfold placesOn
        simp only [List.length_range, List.length_map]
      rw [← hl, List.take_length] at h2
      exact k _ _ (e1.trans e3) ⟨D, vd, rfl, h1, h2⟩
abbrev s_places_over : Stmt := top 54
abbrev N_places_over : List Str := ["walks", "places", "walk"]
theorem sc_places_over : FnScope N_places_over ["walks"] (defScope s_places_over) := ⟨rfl, rfl, rfl, by decide +kernel, rfl, by decide +kernel, by decide +kernel⟩
def sp_places_over : Sp := spFn (fun vs H (ws : List Wk) => (∃ v, vs = [v] ∧ IsWks H v ws) ∧ (placesOver ws).length ≤ 100000) fun ws v H' => IsPts H' v (placesOver ws)
theorem over_take {α : Type} (f : α → List Pt) (l : List α) (i : Nat) : ((l.take i).flatMap f).length ≤ (l.flatMap f).length := by
  have : l.flatMap f = (l.take i).flatMap f ++ (l.drop i).flatMap f := by rw [← List.flatMap_append, List.take_append_drop]
  rw [this, List.length_append]
  omega
theorem ok_places_over (D_places_on : Df P w K mg base "places_on" 1 ["walk"] sp_places_on) {f : Addr} {fd : FuncData} (F : Fun K "places_over" "places_over" s_places_over f fd) : FnOk P w K mg base CX0 2 f fd ["walks"] sp_places_over := by
  refine F.ok sc_places_over (fun vs H Q E h => ?_) (fun cdv A outer s H vs Q E hr h => ?_)
  · obtain ⟨a, ⟨⟨v, rfl, _⟩, _⟩, _⟩ := h
    rfl
  · refine ⟨_, (pss_cons (ps_set (i := 1) sc_places_over.nd rfl (Or.inl rfl) (pe_lst pa_nil))
    (pss_cons (ps_for PassesOwn.never rfl (pi_list (pv 0)) (pg_name (i := 2) sc_places_over.nd rfl (Or.inl rfl)) 
        (pss_one (ps_expr (pe_bm PySem.F.plainAttrs_list PySem.F.slot_list_extend PySem.F.type_list_extend mt_extend (pv 1) (pa_cons (pe_df D_places_on (hr.mono (by decide)) (by rfl) (pa_cons (pv 2) pa_nil)) pa_nil)))))
    (pss_one (ps_ret (pv 1))))), ?_⟩
    obtain ⟨ws, ⟨⟨v, rfl, pw, vs, rfl, hpw, hvs⟩, hlen⟩, k⟩ := h
    refine q_asgL (el_lst ea_nil (by simp)) fun pl H1 npl e1 hpl => ?_
    refine ⟨_, rfl, pw, rfl, ⟨_, sq_of (e1 _ _ hpw)⟩, for_it (walk_list (K := K) (a := pw) (xs := vs)) (fun i σ H' => ∃ (y2 : Option V) (vd : List V), σ = [some (.ref pw), some (.ref pl), y2] ∧ Ex H H' ∧ H' pl = some (.lst vd) ∧ Reps (IsPt H') vd (placesOver (ws.take i)))
      ⟨none, [], rfl, e1, hpl, Reps.nil⟩ ?_ ?_ ?_⟩
    · rintro i σ H' hi ⟨y2, vd, rfl, e, _⟩
      exact sq_of (e _ _ hpw)
    · rintro i v σ H2 H3 hi ⟨y2, vd, rfl, e, h1, h2⟩ ⟨rfl, hxi⟩
      obtain ⟨wk, hwi, hw⟩ := hvs.2 i v hxi
      have hov : placesOver (ws.take (i + 1)) = placesOver (ws.take i) ++ placesOn wk := by
        rw [take_next hwi]
        unfold placesOver
        rw [List.flatMap_append]
        simp
      dsimp only [gName]
      refine ⟨_, rfl, .inl ⟨rfl, _, sq_of h1⟩, _, rfl, wk, ⟨_, rfl, hw.mono e⟩, fun v4 H4 e4 h4 => ?_⟩
      obtain ⟨p4, v4s, rfl, hp4, hv4⟩ := h4
      have h14 := e4 _ _ h1
      have hle : vd.length + v4s.length ≤ 100000 := by
        rw [h2.1, hv4.1, ← List.length_append, ← hov]
        exact Nat.le_trans (over_take _ _ _) hlen
      refine ⟨pl, p4, _, _, rfl, rfl, h14, hp4, Nat.le_trans hle (by decide), ?_⟩
      refine ⟨_, _, rfl, Ex.mut (e.trans e4) npl, upd_same, ?_⟩
      rw [hov]
      exact (h2.imp fun v x z => IsT.off (z.mono e4) h14).app (hv4.imp fun v x z => IsT.off z h14)
    · rintro σ H2 ⟨y2, vd, rfl, e, h1, h2⟩
      rw [hvs.1, List.take_length] at h2
      dsimp only
      exact s_ret (v := .ref pl) (ev_var rfl) fun H3 e3 => k _ _ (e.trans e3) ⟨pl, vd, rfl, e3 _ _ h1, h2.imp fun v x z => z.mono e3⟩
abbrev s_walks_over : Stmt := top 55
abbrev N_walks_over : List Str := ["corner", "opposite", "left", "low", "right", "high", "width", "height", "number"]
theorem sc_walks_over : FnScope N_walks_over ["corner", "opposite"] (defScope s_walks_over) := ⟨rfl, rfl, rfl, by decide +kernel, rfl, by decide +kernel, by decide +kernel⟩
structure FieldOk (a b : Pt) : Prop where
  na : Near 10000 a
  nb : Near 10000 b
  wd : 1 ≤ b.1 - a.1 + 1
  ht : 1 ≤ b.2 - a.2 + 1
  n : (b.1 - a.1 + 1) * (b.2 - a.2 + 1) ≤ 1024
theorem FieldOk.each {a b : Pt} (h : FieldOk a b) : b.1 - a.1 + 1 ≤ 1024 ∧ b.2 - a.2 + 1 ≤ 1024 := by
  obtain ⟨_, _, h1, h2, h3⟩ := h
  have e1 := Int.mul_le_mul_of_nonneg_left h2 (show 0 ≤ b.1 - a.1 + 1 by omega)
  have e2 := Int.mul_le_mul_of_nonneg_right h1 (show 0 ≤ b.2 - a.2 + 1 by omega)
  omega
theorem walks_ok {a b : Pt} (h : FieldOk a b) {w : Wk} (hw : w ∈ walksOver a b) (h1 : Near 10000 w.1) : WOk w := by
  obtain ⟨g1, g2, g3⟩ := mem_walks hw
  have := h.each
  refine ⟨h1, ?_, by omega, fun k hk => ?_⟩
  · unfold Near
    rcases g1 with g | g <;> rw [g] <;> (dsimp only; omega)
  · have m := mem_field.mp (g3 k hk)
    have h2 := h.na
    have h3 := h.nb
    unfold Near at *
    omega
def sp_walks_over : Sp := spFn (fun vs H (a : Pt × Pt) => (∃ v u, vs = [v, u] ∧ IsPt H v a.1 ∧ IsPt H u a.2) ∧ FieldOk a.1 a.2) fun a v H' => IsWks H' v (walksOver a.1 a.2)
theorem ok_walks_over (T : Tx K mg ad) {f : Addr} {fd : FuncData} (F : Fun K "walks_over" "walks_over" s_walks_over f fd) : FnOk P w K mg base CX0 1 f fd ["corner", "opposite"] sp_walks_over := by
  refine F.ok sc_walks_over (fun vs H Q E h => ?_) (fun cdv A outer s H vs Q E hr h => ?_)
  · obtain ⟨a, ⟨⟨v, u, rfl, _⟩, _⟩, _⟩ := h
    rfl
  · refine ⟨_, (pss_cons (ps_asg (pv 0) (pg_tup rfl (pgs_cons (pg_name (i := 2) sc_walks_over.nd rfl (Or.inr rfl)) (pgs_cons (pg_name (i := 3) sc_walks_over.nd rfl (Or.inr rfl)) pgs_nil))))
    (pss_cons (ps_asg (pv 1) (pg_tup rfl (pgs_cons (pg_name (i := 4) sc_walks_over.nd rfl (Or.inl rfl)) (pgs_cons (pg_name (i := 5) sc_walks_over.nd rfl (Or.inl rfl)) pgs_nil))))
    (pss_cons (ps_set (i := 6) sc_walks_over.nd rfl (Or.inr rfl) (pe_op op_add (pe_op op_sub (pv 4) (pv 2)) pe_int))
    (pss_cons (ps_set (i := 7) sc_walks_over.nd rfl (Or.inr rfl) (pe_op op_add (pe_op op_sub (pv 5) (pv 3)) pe_int))
    (pss_cons (ps_if (pt_cmpR op_ge (pv 6) (pv 7) (nomark _)) 
        (pss_one (ps_ret (pe_lc (own := [("number", 8)]) rfl sc_walks_over.nd (pi_range1 (by rfl) T.b_range (pa_cons (pv 7) pa_nil)) (blkOk_by (N := N_walks_over) (sc := defScope s_walks_over) (by decide +kernel)) (by intro _ _ _ _ _; exact (pg_name (i := 8) sc_walks_over.nd rfl (Or.inl rfl))) (by intro _ _ _ _ _; exact pts_nil) (by intro _ _ _ _ _; exact (pe_tup (pa_cons (pe_tup (pa_cons (pv 2) (pa_cons (pe_op op_add (pv 3) (pv 8)) pa_nil))) (pa_cons (pe_tup (pa_cons pe_int (pa_cons pe_int pa_nil))) (pa_cons (pv 6) pa_nil)))))))) pss_nil)
    (pss_one (ps_ret (pe_lc (own := [("number", 8)]) rfl sc_walks_over.nd (pi_range1 (by rfl) T.b_range (pa_cons (pv 6) pa_nil)) (blkOk_by (N := N_walks_over) (sc := defScope s_walks_over) (by decide +kernel)) (by intro _ _ _ _ _; exact (pg_name (i := 8) sc_walks_over.nd rfl (Or.inl rfl))) (by intro _ _ _ _ _; exact pts_nil) (by intro _ _ _ _ _; exact (pe_tup (pa_cons (pe_tup (pa_cons (pe_op op_add (pv 2) (pv 8)) (pa_cons (pv 3) pa_nil))) (pa_cons (pe_tup (pa_cons pe_int (pa_cons pe_int pa_nil))) (pa_cons (pv 7) pa_nil))))))))))))), ?_⟩
    obtain ⟨⟨a, b⟩, ⟨⟨v, u, rfl, ⟨pa, rfl, ha⟩, ⟨pb, rfl, hb⟩⟩, fo⟩, k⟩ := h
    dsimp only at ha hb fo
    refine q_un2 (ev_var rfl) ha fun H1 e1 => q_un2 (ev_var rfl) (e1 _ _ hb) fun H2 e2 => ?_
    refine q_asg (v := .int (b.1 - a.1 + 1)) ?_ fun H3 e3 => ?_
    · walk_at "ev"
    refine q_asg (v := .int (b.2 - a.2 + 1)) ?_ fun H4 e4 => ?_
    · walk_at "ev"
    have e04 := e1.trans (e2.trans (e3.trans e4))
    have hea := fo.each
    have f1 := fo.wd
    have f2 := fo.ht
    have na := fo.na
    have nb := fo.nb
    unfold Near at na nb
    obtain ⟨wd, hwd⟩ : ∃ wd : Nat, b.1 - a.1 + 1 = (wd : Int) := ⟨(b.1 - a.1 + 1).toNat, by omega⟩
    obtain ⟨ht, hht⟩ : ∃ ht : Nat, b.2 - a.2 + 1 = (ht : Int) := ⟨(b.2 - a.2 + 1).toNat, by omega⟩
    have hw : walksOver a b = if (ht : Int) ≤ (wd : Int) then (List.range ht).map fun (j : Nat) => ((a.1, a.2 + (j : Int)), (1, 0), wd) else (List.range wd).map fun (i : Nat) => ((a.1 + (i : Int), a.2), (0, 1), ht) := by
      unfold walksOver
      dsimp only
      rw [hwd, hht, Int.toNat_natCast, Int.toNat_natCast]
    rw [hwd, hht] at hea
    rw [hwd, hht]
    have oks : ∀ wk ∈ walksOver a b, Near 10000 wk.1 → WOk wk := fun wk h => walks_ok fo h
    -- the walk that is made at a turn
    have mk : ∀ {x y dx dy n : Int} {tx ty tdx tdy tn : TE} {σ : L2.St} {H' : Hp} {Q : VK}, Ev tx σ H' (.int x) → Ev ty σ H' (.int y) → Ev tdx σ H' (.int dx) → Ev tdy σ H' (.int dy) → Ev tn σ H' (.int n) →
        (∀ p H'', H' p = none → Ex H' H'' → (∃ u v, H'' p = some (.tup [u, v, .int n]) ∧ IsPt H'' u (x, y) ∧ IsPt H'' v (dx, dy)) → Q (.ref p) H'') → tTup (tCons (tTup (tCons tx (tCons ty tNil))) (tCons (tTup (tCons tdx (tCons tdy tNil))) (tCons tn tNil))) σ H' Q := by
      intro x y dx dy n tx ty tdx tdy tn σ H' Q hx hy hdx hdy hn kk
      refine tup_open (cons_open ?_)
      refine eu_tup (vs := [.int x, .int y]) (ea_cons hx (ea_cons hy ea_nil)) (by simp) H' (Ex.refl _) _ fun p1 H1 n1 e1 h1 => cons_open ?_
      refine eu_tup (vs := [.int dx, .int dy]) (ea_cons hdx (ea_cons hdy ea_nil)) (by simp) H1 e1 _ fun p2 H2 n2 e2 h2 => ?_
      refine hn H2 (e1.trans e2) _ fun H3 e3 => ⟨(by show 3 ≤ sizeLine; decide), fun p3 n3 => ?_⟩
      have e03 := e1.trans (e2.trans e3)
      exact kk p3 _ (fresh_back e03 n3) (e03.trans (Ex.new n3)) ⟨_, _, upd_same, ⟨p1, rfl, Ex.new n3 _ _ (e3 _ _ (e2 _ _ h1))⟩, ⟨p2, rfl, Ex.new n3 _ _ (e3 _ _ h2)⟩⟩
    -- the walks so far, when the new list gets one more
    have step : ∀ {ws : List Wk} {i : Nat} {wk : Wk} {H' H5 : Hp} {D q : Addr} {vd : List V}, ws[i]? = some wk → WOk wk → H' D = some (.lst vd) → Reps (IsWk H') vd (ws.take i) → Ex H' H5 → (∃ u v, H5 q = some (.tup [u, v, .int (wk.2.2 : Nat)]) ∧ IsPt H5 u wk.1 ∧ IsPt H5 v wk.2.1) →
        Reps (IsWk (upd H5 D (.lst (vd ++ [V.ref q])))) (vd ++ [V.ref q]) (ws.take (i + 1)) := by
      intro ws i wk H' H5 D q vd hi ok hD hr e5 ⟨u, v, h1, h2, h3⟩
      rw [take_next hi]
      have hD5 := e5 _ _ hD
      have off : ∀ {v : V} {w : Wk}, IsWk H5 v w → IsWk (upd H5 D (.lst (vd ++ [V.ref q]))) v w := fun ⟨⟨x, y, a1, a2, a3⟩, a4⟩ => ⟨⟨x, y, IsT.off a1 hD5, IsT.off a2 hD5, IsT.off a3 hD5⟩, a4⟩
      exact Reps.add (hr.imp fun v x z => off (z.mono e5)) (off ⟨⟨u, v, ⟨q, rfl, h1⟩, h2, h3⟩, ok⟩)
    refine q_when (b := decide ((ht : Int) ≤ (wd : Int))) (et_test (ev_op (ev_var rfl) (ev_var rfl) rv_I0)) (fun q H5 e5 => ?_) fun q H5 e5 => ?_
    · rw [if_pos (of_decide_eq_true q)] at hw
      have e05 := e04.trans e5
      refine ⟨_, rfl, _, rfl, by omega, by omega, fun D hD => lc_it (walk_range (lo := 0) (n := ht)) (fun i H' => Ex H5 H' ∧ ∃ vd, H' D = some (.lst vd) ∧ Reps (IsWk H') vd ((walksOver a b).take i)) ⟨Ex.new hD, [], upd_same, Reps.nil⟩ (fun _ _ _ _ => trivial) ?_ ?_⟩
      · rintro i v H3 H4 hi ⟨e3, vd, h1, h2⟩ ⟨rfl, rfl⟩
        dsimp only
        rw [Int.zero_add]
        refine ⟨rfl, ?_⟩
        dsimp only [tYes]
        rw [if_pos rfl]
        have hat : (walksOver a b)[i]? = some ((a.1, a.2 + (i : Int)), (1, 0), wd) := by
          rw [hw, List.getElem?_map, List.getElem?_range hi]
          rfl
        refine mk (x := a.1) (y := a.2 + (i : Int)) (dx := 1) (dy := 0) (n := (wd : Nat)) (by walk_at "ev") (by walk_at "ev") (by walk_at "ev") (by walk_at "ev") (by walk_at "ev") fun p H6 np e6 h6 => ⟨vd, e6 _ _ h1, ?_, Ex.mut (e3.trans e6) hD, _, upd_same, ?_⟩
        · rw [h2.1]
          exact Nat.lt_of_le_of_lt (List.length_take_le _ _) (Nat.lt_of_le_of_lt (show i ≤ 1024 by omega) (by decide))
        · refine step hat (oks _ (List.mem_of_getElem? hat) ?_) h1 h2 e6 h6
          unfold Near
          dsimp only
          omega
      · rintro H3 ⟨e3, vd, h1, h2⟩
        rw [List.take_of_length_le (by rw [hw, List.length_map, List.length_range]; exact Nat.le_refl _)] at h2
        exact k _ _ (e05.trans e3) ⟨D, vd, rfl, h1, h2⟩
    · rw [if_neg (of_decide_eq_false q)] at hw
      have e05 := e04.trans e5
      refine ⟨_, rfl, _, rfl, by omega, by omega, fun D hD => lc_it (walk_range (lo := 0) (n := wd)) (fun i H' => Ex H5 H' ∧ ∃ vd, H' D = some (.lst vd) ∧ Reps (IsWk H') vd ((walksOver a b).take i)) ⟨Ex.new hD, [], upd_same, Reps.nil⟩ (fun _ _ _ _ => trivial) ?_ ?_⟩
      · rintro i v H3 H4 hi ⟨e3, vd, h1, h2⟩ ⟨rfl, rfl⟩
        dsimp only
        rw [Int.zero_add]
        refine ⟨rfl, ?_⟩
        dsimp only [tYes]
        rw [if_pos rfl]
        have hat : (walksOver a b)[i]? = some ((a.1 + (i : Int), a.2), (0, 1), ht) := by
          rw [hw, List.getElem?_map, List.getElem?_range hi]
          rfl
        refine mk (x := a.1 + (i : Int)) (y := a.2) (dx := 0) (dy := 1) (n := (ht : Nat)) (by walk_at "ev") (by walk_at "ev") (by walk_at "ev") (by walk_at "ev") (by walk_at "ev") fun p H6 np e6 h6 => ⟨vd, e6 _ _ h1, ?_, Ex.mut (e3.trans e6) hD, _, upd_same, ?_⟩
        · rw [h2.1]
          exact Nat.lt_of_le_of_lt (List.length_take_le _ _) (Nat.lt_of_le_of_lt (show i ≤ 1024 by omega) (by decide))
        · refine step hat (oks _ (List.mem_of_getElem? hat) ?_) h1 h2 e6 h6
          unfold Near
          dsimp only
          omega
      · rintro H3 ⟨e3, vd, h1, h2⟩
        rw [List.take_of_length_le (by rw [hw, List.length_map, List.length_range]; exact Nat.le_refl _)] at h2
        exact k _ _ (e05.trans e3) ⟨D, vd, rfl, h1, h2⟩
end
end Bc

namespace Bc
open PySem PySem.Spec PyProof.Rows L2 Evl
local macro_rules | `(tactic| walk_at "ev") => `(tactic| repeat' (first
  | with_reducible exact ev_c
  | with_reducible exact rv_I0
  | with_reducible exact ru_neg
  | with_reducible exact ea_nil
  | with_reducible refine' ev_var ?_
  | with_reducible refine' ev_chain ?_ ?_ ?_ ?_ ?_
  | with_reducible refine' ev_op ?_ ?_ ?_
  | with_reducible refine' ev_un ?_ ?_
  | with_reducible refine' ev_andV ?_ (fun _ => ?_)
  | with_reducible refine' ev_orV ?_ (fun _ => ?_)
  | with_reducible refine' ev_notV ?_
  | with_reducible refine' et_test ?_
  | with_reducible refine' et_B ?_
  | with_reducible refine' et_and ?_ (fun _ => ?_)
  | with_reducible refine' et_or ?_ (fun _ => ?_)
  | with_reducible refine' et_not ?_
  | with_reducible refine' ea_cons ?_ ?_
  | with_reducible refine' rv_it (by assumption) ?_
  | with_reducible refine' rv_mul ?_
  | with_reducible refine' rv_eq ?_
  | with_reducible refine' rv_ne ?_
  | exact rfl
  | ((with_reducible show CMul _ _); (try dsimp only at *); first | exact Or.inl ⟨by omega, by omega⟩ | exact Or.inr ⟨by omega, by omega⟩)))
section
variable {P : Program} {w : World} {K : PySem.W.Frag} {mg : Str → Option Value} {base : Heap} {ad : String → Addr}
theorem placeB_near {a : Pt} (h : placeB a = true) : Near 10000 a := by
  unfold placeB at h
  simp only [Bool.and_eq_true, decide_eq_true_iff] at h
  unfold Near
  omega
abbrev s_is_field : Stmt := top 25
abbrev N_is_field : List Str := ["corner", "opposite", "width", "height"]
theorem sc_is_field : FnScope N_is_field ["corner", "opposite"] (defScope s_is_field) := ⟨rfl, rfl, rfl, by decide +kernel, rfl, by decide +kernel, by decide +kernel⟩
def fieldB (a b : Pt) : Bool := (placeB a && placeB b) && (decide (1 ≤ b.1 - a.1 + 1) && (decide (1 ≤ b.2 - a.2 + 1) && decide ((b.1 - a.1 + 1) * (b.2 - a.2 + 1) ≤ 1024)))
theorem fieldB_ok {a b : Pt} (h : fieldB a b = true) : FieldOk a b := by
  unfold fieldB at h
  rw [Bool.and_eq_true, Bool.and_eq_true, Bool.and_eq_true, Bool.and_eq_true, decide_eq_true_iff, decide_eq_true_iff, decide_eq_true_iff] at h
  exact ⟨placeB_near h.1.1, placeB_near h.1.2, h.2.1, h.2.2.1, h.2.2.2⟩
def sp_is_field : Sp := spFn (fun vs H (a : Pt × Pt) => ∃ v u, vs = [v, u] ∧ IsPt H v a.1 ∧ IsPt H u a.2) fun a v _ => v = .bl (fieldB a.1 a.2)
theorem ok_is_field (T : Tx K mg ad) (D_is_place : Df P w K mg base "is_place" 1 ["place"] sp_is_place) {f : Addr} {fd : FuncData} (F : Fun K "is_field" "is_field" s_is_field f fd) : FnOk P w K mg base CX0 2 f fd ["corner", "opposite"] sp_is_field := by
  refine F.ok sc_is_field (fun vs H Q E h => ?_) (fun cdv A outer s H vs Q E hr h => ?_)
  · obtain ⟨a, ⟨v, u, rfl, _⟩, _⟩ := h
    rfl
  · refine ⟨_, (pss_cons (ps_if (PW.pt (pw_or (pt_not (pt_val (pe_df D_is_place (hr.mono (by decide)) (by rfl) (pa_cons (pv 0) pa_nil)))) (pw_or1 (pt_not (pt_val (pe_df D_is_place (hr.mono (by decide)) (by rfl) (pa_cons (pv 1) pa_nil))))))) 
        (pss_one (ps_ret pe_bl)) pss_nil)
    (pss_cons (ps_set (i := 2) sc_is_field.nd rfl (Or.inl rfl) (pe_op op_add (pe_op op_sub (pe_ix ix_tup (pv 1) pe_int (fun _ _ => rfl)) (pe_ix ix_tup (pv 0) pe_int (fun _ _ => rfl))) pe_int))
    (pss_cons (ps_set (i := 3) sc_is_field.nd rfl (Or.inl rfl) (pe_op op_add (pe_op op_sub (pe_ix ix_tup (pv 1) pe_int (fun _ _ => rfl)) (pe_ix ix_tup (pv 0) pe_int (fun _ _ => rfl))) pe_int))
    (pss_one (ps_ret (pe_and (pe_cmpR op_ge (pv 2) pe_int (nomark _)) (pe_and (pe_cmpR op_ge (pv 3) pe_int (nomark _)) (pe_one (pe_cmpR op_le (pe_op op_mul (pv 2) (pv 3)) (pe_gint (by rfl) T.g_MOST_PLACES) (nomark _)))))))))), ?_⟩
    obtain ⟨⟨a, b⟩, ⟨v, u, rfl, ⟨pa, rfl, ha⟩, ⟨pb, rfl, hb⟩⟩, k⟩ := h
    dsimp only at ha hb
    have k : ∀ v H', Ex H H' → v = .bl (fieldB a b) → Q v H' := k
    have pl : ∀ {σ : L2.St} {H' : Hp} {i : Nat} {p : Addr} {c : Pt}, σ[i]? = some (some (.ref p)) → H' p = some (.tup [.int c.1, .int c.2]) → Ev (tCall sp_is_place [] E0 (tCons (tVar i) tNil)) σ H' (.bl (placeB c)) := fun {σ H' i p c} h hp => ev_fn c (vs := [.ref p]) (ea_cons (ev_var h) ea_nil) (fun H4 e4 => ⟨_, rfl, p, rfl, e4 _ _ hp⟩) fun v H1 h => h
    refine q_when (b := !placeB a || !placeB b) (et_or (et_not (et_B (pl rfl ha))) fun _ => et_not (et_B (pl rfl hb))) (fun q H1 e1 => ?_) fun q H1 e1 => ?_
    · refine s_ret (v := .bl false) ev_c fun H2 e2 => k _ _ (e1.trans e2) ?_
      unfold fieldB
      have : (placeB a && placeB b) = false := by
        cases h1 : placeB a <;> cases h2 : placeB b <;> simp [h1, h2] at q ⊢
      rw [this]
      rfl
    · have hpl : (placeB a && placeB b) = true := by
        cases h1 : placeB a <;> cases h2 : placeB b <;> simp [h1, h2] at q ⊢
      have na := placeB_near (Bool.and_eq_true _ _ ▸ hpl).1
      have nb := placeB_near (Bool.and_eq_true _ _ ▸ hpl).2
      unfold Near at na nb
      have ha1 := e1 _ _ ha
      have hb1 := e1 _ _ hb
      refine q_asg (v := .int (b.1 - a.1 + 1)) ?_ fun H2 e2 => ?_
      · walk_at "ev"
      have ha2 := e2 _ _ ha1
      have hb2 := e2 _ _ hb1
      refine q_asg (v := .int (b.2 - a.2 + 1)) ?_ fun H3 e3 => ?_
      · walk_at "ev"
      refine s_ret (v := .bl (decide (1 ≤ b.1 - a.1 + 1) && (decide (1 ≤ b.2 - a.2 + 1) && decide ((b.1 - a.1 + 1) * (b.2 - a.2 + 1) ≤ 1024)))) ?_ fun H4 e4 => k _ _ (e1.trans (e2.trans (e3.trans e4))) ?_
      · refine ev_andV (ev_op (ev_var rfl) ev_c rv_I0) fun _ => ev_andV (ev_op (ev_var rfl) ev_c rv_I0) fun _ => ev_op (ev_op (ev_var rfl) (ev_var rfl) (rv_mul (.inl ⟨by omega, by omega⟩))) ev_c rv_I0
      · unfold fieldB
        rw [hpl]
        rfl
abbrev s_is_track : Stmt := top 26
abbrev N_is_track : List Str := ["start", "step", "count", "u", "v"]
theorem sc_is_track : FnScope N_is_track ["start", "step", "count"] (defScope s_is_track) := ⟨rfl, rfl, rfl, by decide +kernel, rfl, by decide +kernel, by decide +kernel⟩
def trackB (a d : Pt) (n : Nat) : Bool := !(decide (500 < n) || (decide (d.1 < -1000) || (decide (1000 < d.1) || (decide (d.2 < -1000) || decide (1000 < d.2))))) && (placeB a && placeB (a.1 + (n : Int) * d.1, a.2 + (n : Int) * d.2))
def sp_is_track : Sp := spFn (fun vs H (a : Pt × Pt × Nat) => ∃ v u, vs = [v, u, .int (a.2.2 : Nat)] ∧ IsPt H v a.1 ∧ IsPt H u a.2.1) fun a v _ => v = .bl (trackB a.1 a.2.1 a.2.2)
theorem ok_is_track (T : Tx K mg ad) (D_is_place : Df P w K mg base "is_place" 1 ["place"] sp_is_place) {f : Addr} {fd : FuncData} (F : Fun K "is_track" "is_track" s_is_track f fd) : FnOk P w K mg base CX0 2 f fd ["start", "step", "count"] sp_is_track := by
  refine F.ok sc_is_track (fun vs H Q E h => ?_) (fun cdv A outer s H vs Q E hr h => ?_)
  · obtain ⟨a, ⟨v, u, rfl, _⟩, _⟩ := h
    rfl
  · refine ⟨_, (pss_cons (ps_asg (pv 1) (pg_tup rfl (pgs_cons (pg_name (i := 3) sc_is_track.nd rfl (Or.inl rfl)) (pgs_cons (pg_name (i := 4) sc_is_track.nd rfl (Or.inl rfl)) pgs_nil))))
    (pss_cons (ps_if (PW.pt (pw_or (pt_cmpR op_gt (pv 2) (pe_gint (by rfl) T.g_MOST_STEPS) (nomark _)) (pw_or (pt_cmpR op_lt (pv 3) (pe_un un_neg (pe_gint (by rfl) T.g_LONGEST_STEP)) (nomark _)) (pw_or (pt_cmpR op_gt (pv 3) (pe_gint (by rfl) T.g_LONGEST_STEP) (nomark _)) (pw_or (pt_cmpR op_lt (pv 4) (pe_un un_neg (pe_gint (by rfl) T.g_LONGEST_STEP)) (nomark _)) (pw_or1 (pt_cmpR op_gt (pv 4) (pe_gint (by rfl) T.g_LONGEST_STEP) (nomark _)))))))) 
        (pss_one (ps_ret pe_bl)) pss_nil)
    (pss_one (ps_ret (pe_and (pe_df D_is_place (hr.mono (by decide)) (by rfl) (pa_cons (pv 0) pa_nil)) (pe_one (pe_df D_is_place (hr.mono (by decide)) (by rfl) (pa_cons (pe_tup (pa_cons (pe_op op_add (pe_ix ix_tup (pv 0) pe_int (fun _ _ => rfl)) (pe_op op_mul (pv 2) (pv 3))) (pa_cons (pe_op op_add (pe_ix ix_tup (pv 0) pe_int (fun _ _ => rfl)) (pe_op op_mul (pv 2) (pv 4))) pa_nil))) pa_nil)))))))), ?_⟩
    obtain ⟨⟨a, d, n⟩, ⟨v, u, rfl, ⟨pa, rfl, ha⟩, ⟨pb, rfl, hb⟩⟩, k⟩ := h
    dsimp only at ha hb
    have k : ∀ v H', Ex H H' → v = .bl (trackB a d n) → Q v H' := k
    refine q_un2 (ev_var rfl) hb fun H0 e0 => ?_
    refine q_when (b := decide (500 < (n : Int)) || (decide (d.1 < -1000) || (decide (1000 < d.1) || (decide (d.2 < -1000) || decide (1000 < d.2))))) (et_or (et_test (ev_op (ev_var rfl) ev_c rv_I0)) fun _ => et_or (et_test (ev_op (ev_var rfl) (ev_un ev_c ru_neg) rv_I0)) fun _ => et_or (et_test (ev_op (ev_var rfl) ev_c rv_I0)) fun _ => et_or (et_test (ev_op (ev_var rfl) (ev_un ev_c ru_neg) rv_I0)) fun _ => et_test (ev_op (ev_var rfl) ev_c rv_I0)) (fun q H1 e1 => ?_) fun q H1 e1 => ?_
    · refine s_ret (v := .bl false) ev_c fun H2 e2 => k _ _ (e0.trans (e1.trans e2)) ?_
      unfold trackB
      have e : decide (500 < (n : Int)) = decide (500 < n) := by rw [decide_eq_decide]; omega
      rw [e] at q
      rw [q]
      rfl
    · have e : decide (500 < (n : Int)) = decide (500 < n) := by rw [decide_eq_decide]; omega
      rw [e] at q
      have e01 := e0.trans e1
      have hn : n ≤ 500 := by
        simp only [Bool.or_eq_false_iff, decide_eq_false_iff_not] at q
        omega
      refine s_ret (v := .bl (placeB a && placeB (a.1 + (n : Int) * d.1, a.2 + (n : Int) * d.2))) (ev_andV (ev_fn a (vs := [.ref pa]) (ea_cons (ev_var rfl) ea_nil) (fun H4 e4 => ⟨_, rfl, pa, rfl, e4 _ _ (e01 _ _ ha)⟩) fun v H1 h => h) fun _ => ?_) fun H4 e4 => k _ _ (e01.trans e4) ?_
      · intro H2 e2 Q2 k2
        have ha2 := e2 _ _ (e01 _ _ ha)
        refine cons_open (eu_tup (vs := [.int (a.1 + (n : Int) * d.1), .int (a.2 + (n : Int) * d.2)]) (ea_cons ?_ (ea_cons ?_ ea_nil)) (by simp) H2 (Ex.refl _) _ fun p H3 np e3 h3 => ⟨(a.1 + (n : Int) * d.1, a.2 + (n : Int) * d.2), ⟨_, rfl, p, rfl, h3⟩, fun v H5 e5 hv => ?_⟩)
        · walk_at "ev"
        · walk_at "ev"
        · have hv : v = .bl (placeB (a.1 + (n : Int) * d.1, a.2 + (n : Int) * d.2)) := hv
          rw [hv]
          exact k2 _ (e3.trans e5)
      · unfold trackB
        rw [q]
        rfl
/-- pairs (light, colour) that were told -/
def IsTP (H : Hp) (v : V) (x : Nat × Nat) : Prop := IsT H v [.int (x.1 : Nat), .int (x.2 : Nat)]
theorem IsTP.mono {H H' : Hp} {v : V} {x : Nat × Nat} (h : IsTP H v x) (e : Ex H H') : IsTP H' v x := IsT.mono h e
def IsTPs (H : Hp) (v : V) (l : List (Nat × Nat)) : Prop := ∃ p vs, v = .ref p ∧ H p = some (.lst vs) ∧ Reps (IsTP H) vs l
theorem IsTPs.mono {H H' : Hp} {v : V} {l : List (Nat × Nat)} (h : IsTPs H v l) (e : Ex H H') : IsTPs H' v l := by
  obtain ⟨p, vs, rfl, hp, hr⟩ := h
  exact ⟨p, vs, rfl, e _ _ hp, hr.imp fun v x q => q.mono e⟩
def OptTPs (H : Hp) (v : V) : Option (List (Nat × Nat)) → Prop
  | none => v = .non
  | some l => IsTPs H v l
abbrev s_read_pairs : Stmt := top 27
abbrev N_read_pairs : List Str := ["told", "count", "pairs", "pair", "start", "number", "colour"]
theorem sc_read_pairs : FnScope N_read_pairs ["told"] (defScope s_read_pairs) := ⟨rfl, rfl, rfl, by decide +kernel, rfl, by decide +kernel, by decide +kernel⟩
def sp_read_pairs : Sp := spFn (fun vs H (t : List Nat) => (∃ v, vs = [v] ∧ IsL H v (t.map fun n => V.int (n : Nat))) ∧ t.length ≤ 30000) fun t v H' => OptTPs H' v (readPairs t)
theorem cut_two {t : List Nat} {i a b : Nat} (h1 : t[2 * i]? = some a) (h2 : t[2 * i + 1]? = some b) : cutV (t.map fun n => V.int (n : Nat)) (some (((i * 2 : Nat) : Int))) (some (((i * 2 + 2 : Nat) : Int))) = [.int a, .int b] := by
  have l1 := (List.getElem?_eq_some_iff.mp h1).1
  have l2 := (List.getElem?_eq_some_iff.mp h2).1
  unfold cutV
  rw [HT.sIx_nat, HT.sIx_nat, List.length_map, Nat.min_eq_left (by omega), Nat.min_eq_left (by omega), ← List.map_drop, Nat.mul_comm i 2]
  have e : 2 * i + 2 - 2 * i = 2 := by omega
  rw [e, List.drop_eq_getElem_cons l1, List.drop_eq_getElem_cons (by omega)]
  have g1 := (List.getElem?_eq_some_iff.mp h1).2
  have g2 := (List.getElem?_eq_some_iff.mp h2).2
  rw [g1, g2]
  rfl
theorem ok_read_pairs (T : Tx K mg ad) {f : Addr} {fd : FuncData} (F : Fun K "read_pairs" "read_pairs" s_read_pairs f fd) : FnOk P w K mg base CX0 1 f fd ["told"] sp_read_pairs := by
  refine F.ok sc_read_pairs (fun vs H Q E h => ?_) (fun cdv A outer s H vs Q E hr h => ?_)
  · obtain ⟨a, ⟨⟨v, rfl, _⟩, _⟩, _⟩ := h
    rfl
  · refine ⟨_, (pss_cons (ps_set (i := 1) sc_read_pairs.nd rfl (Or.inl rfl) (pe_op op_fdiv (pe_callB call_len_seq (by rfl) T.b_len PySem.boot_len (pa_cons (pv 0) pa_nil)) (pe_gint (by rfl) T.g_NUMBERS_OF_PAIR)))
    (pss_cons (ps_if (PW.pt (pw_or (pt_cmpR op_ne (pe_callB call_len_seq (by rfl) T.b_len PySem.boot_len (pa_cons (pv 0) pa_nil)) (pe_op op_mul (pv 1) (pe_gint (by rfl) T.g_NUMBERS_OF_PAIR)) (nomark _)) (pw_or1 (pt_cmpR op_gt (pv 1) (pe_gint (by rfl) T.g_MOST_PAIRS) (nomark _))))) 
        (pss_one (ps_ret pe_non)) pss_nil)
    (pss_cons (ps_set (i := 2) sc_read_pairs.nd rfl (Or.inl rfl) (pe_lst pa_nil))
    (pss_cons (ps_for PassesOwn.never rfl (pi_range1 (by rfl) T.b_range (pa_cons (pv 1) pa_nil)) (pg_name (i := 3) sc_read_pairs.nd rfl (Or.inl rfl)) 
        (pss_cons (ps_set (i := 4) sc_read_pairs.nd rfl (Or.inl rfl) (pe_op op_mul (pv 3) (pe_gint (by rfl) T.g_NUMBERS_OF_PAIR)))
        (pss_cons (ps_asg (pe_slice sl_list (pv 0) (po_some (pv 4)) (po_some (pe_op op_add (pv 4) (pe_gint (by rfl) T.g_NUMBERS_OF_PAIR)))) (pg_unl rfl (pgs_cons (pg_name (i := 5) sc_read_pairs.nd rfl (Or.inl rfl)) (pgs_cons (pg_name (i := 6) sc_read_pairs.nd rfl (Or.inl rfl)) pgs_nil))))
        (pss_cons (ps_if (pt_cmpR op_gt (pv 6) (pe_gint (by rfl) T.g_LAST_COLOUR) (nomark _)) 
            (pss_one (ps_ret pe_non)) pss_nil)
        (pss_one (ps_expr (pe_bm PySem.F.plainAttrs_list PySem.F.slot_list_append PySem.F.type_list_append mt_append (pv 2) (pa_cons (pe_tup (pa_cons (pv 5) (pa_cons (pv 6) pa_nil))) pa_nil))))))))
    (pss_one (ps_ret (pv 2))))))), ?_⟩
    obtain ⟨t, ⟨⟨v, rfl, pa, rfl, ha⟩, hlen⟩, k⟩ := h
    have k : ∀ v H', Ex H H' → OptTPs H' v (readPairs t) → Q v H' := k
    have lenE : ∀ {σ : L2.St} {H' : Hp}, σ[0]? = some (some (.ref pa)) → Ex H H' → Ev (tCB (rLenS K) (tCons (tVar 0) tNil)) σ H' (.int (t.length : Int)) := fun h e => ev_is (ev_len (ev_var h) (sq_of (e _ _ ha))) (by rw [List.length_map])
    refine q_asg (v := .int ((t.length / 2 : Nat) : Int)) (ev_is (ev_op (lenE rfl (Ex.refl _)) ev_c (rv_I (g := fun i j => .int (i / j)) ⟨by decide, by decide⟩)) (congrArg V.int (by omega))) fun H1 e1 => ?_
    refine q_when (b := !decide (t.length = t.length / 2 * 2) || decide (24 < ((t.length / 2 : Nat) : Int))) (et_or (et_test (ev_is (ev_op (lenE rfl e1) (ev_op (ev_var rfl) ev_c (rv_mul (.inl ⟨by omega, by omega⟩))) (rv_ne rfl)) ?_)) fun _ => et_test (ev_op (ev_var rfl) ev_c rv_I0)) (fun q H2 e2 => ?_) fun q H2 e2 => ?_
    · rw [int_eq]
      congr 2
      rw [decide_eq_decide]
      omega
    · refine s_ret (v := .non) ev_c fun H3 e3 => k _ _ (e1.trans (e2.trans e3)) ?_
      simp only [Bool.or_eq_true, Bool.not_eq_true', decide_eq_true_iff, decide_eq_false_iff_not] at q
      unfold readPairs
      rw [if_pos]
      · rfl
      · simp only [Bool.or_eq_true, decide_eq_true_iff]
        omega
    · simp only [Bool.or_eq_false_iff, Bool.not_eq_false', decide_eq_true_iff, decide_eq_false_iff_not] at q
      obtain ⟨cnt, hcnt⟩ : ∃ cnt, t.length / 2 = cnt := ⟨_, rfl⟩
      have hrd : readPairs t = if ((prs t).any fun x => decide (4 < x.2)) = true then none else some (prs t) := by
        unfold readPairs
        rw [decide_eq_false (by omega), decide_eq_false (by omega), Bool.false_or, Bool.false_or]
      rw [hcnt] at q ⊢
      have hns : t.length = 2 * cnt := by omega
      have e02 := e1.trans e2
      refine q_asgL (el_lst ea_nil (by simp)) fun pp H3 npp e3 hpp => ?_
      refine ⟨_, rfl, _, rfl, by omega, by omega, for_it (walk_range (lo := 0) (n := cnt)) (fun i σ H' => ∃ (vs : List V) (y3 y4 y5 y6 : Option V), σ = [some (.ref pa), some (.int (cnt : Nat)), some (.ref pp), y3, y4, y5, y6] ∧ Ex H2 H' ∧ H' pp = some (.lst vs) ∧ Reps (IsTP H') vs ((prs t).take i) ∧ ((prs t).take i).any (fun x => decide (4 < x.2)) = false)
        ⟨[], none, none, none, none, rfl, e3, hpp, Reps.nil, rfl⟩ (fun _ _ _ _ _ => trivial) ?_ ?_⟩
      · rintro i v σ H4 H5 hi ⟨vs, y3, y4, y5, y6, rfl, h1, h2, h3, h4⟩ ⟨rfl, rfl⟩
        dsimp only
        rw [Int.zero_add]
        obtain ⟨x, c, g0, g1, g2⟩ := prs_at t i (by omega)
        dsimp only [gName]
        refine q_asg (v := .int ((i * 2 : Nat) : Int)) (ev_is (ev_op (ev_var rfl) ev_c (rv_mul (.inr ⟨by decide, by decide⟩))) (congrArg V.int (by omega))) fun H6 e6 => ?_
        -- number, colour = told[start:start + 2]
        have ei : ((i * 2 : Nat) : Int) + 2 = ((i * 2 + 2 : Nat) : Int) := by omega
        refine ⟨_, rfl, _, rfl, _, rfl, _, rfl, _, _, rfl, rfl, _, rfl, pa, _, rfl, sq_of (e6 _ _ (h1 _ _ (e02 _ _ ha))), fun p hp => ?_⟩
        rw [ei, cut_two g1 g2]
        refine ⟨p, _, rfl, sq_of upd_same, rfl, _, _, rfl, _, _, rfl, rfl, ?_⟩
        dsimp only
        have ep := Ex.new (o := .lst [V.int x, V.int c]) hp
        have e46 := e6.trans ep
        refine q_when (b := decide (4 < (c : Int))) (et_test (ev_op (ev_var rfl) ev_c rv_I0)) (fun q2 H7 e7 => ?_) fun q2 H7 e7 => ?_
        · refine s_ret (v := .non) ev_c fun H8 e8 => k _ _ (e02.trans (h1.trans (e46.trans (e7.trans e8)))) ?_
          have q2 := of_decide_eq_true q2
          rw [hrd, if_pos]
          · rfl
          · rw [List.any_eq_true]
            exact ⟨_, List.mem_of_getElem? g0, decide_eq_true (by dsimp only; omega)⟩
        · have q2 := of_decide_eq_false q2
          have h27 := e7 _ _ (e46 _ _ h2)
          refine s_appU (l := pp) (xs := vs) (ys := [.int x, .int c]) h27 (ev_var rfl) (eu_tup (ea_cons (ev_var rfl) (ea_cons (ev_var rfl) ea_nil)) (by simp)) (by rw [h3.1]; exact Nat.lt_of_le_of_lt (List.length_take_le _ _) (by omega)) fun pt H8 hpt e8 h8 => ?_
          have h28 := e8 _ _ h27
          have e48 := e46.trans (e7.trans e8)
          refine ⟨_, _, _, _, _, rfl, Ex.mut (h1.trans e48) npp, upd_same, ?_, ?_⟩
          · rw [take_next g0]
            exact Reps.add (h3.imp fun v s q => IsT.off (q.mono e48) h28) (IsT.off ⟨pt, rfl, h8⟩ h28)
          · rw [take_next g0, List.any_append, h4]
            simp
            omega
      · rintro σ H4 ⟨vs, y3, y4, y5, y6, rfl, h1, h2, h3, h4⟩
        rw [List.take_of_length_le (by rw [prs_len]; omega)] at h3 h4
        dsimp only
        refine s_ret (v := .ref pp) (ev_var rfl) fun H5 e5 => k _ _ (e02.trans (h1.trans e5)) ?_
        rw [hrd, h4, if_neg (by decide)]
        exact ⟨pp, vs, rfl, e5 _ _ h2, h3.imp fun v x q => q.mono e5⟩
end
end Bc

namespace Bc
open PySem PySem.Spec PyProof.Rows L2 Evl
local macro_rules | `(tactic| walk_at "ev") => `(tactic| repeat' (first
  | with_reducible exact ev_c
  | with_reducible exact rv_I0
  | with_reducible exact ru_neg
  | with_reducible exact ea_nil
  | with_reducible refine' ev_var ?_
  | with_reducible refine' ev_chain ?_ ?_ ?_ ?_ ?_
  | with_reducible refine' ev_op ?_ ?_ ?_
  | with_reducible refine' ev_un ?_ ?_
  | with_reducible refine' ev_andV ?_ (fun _ => ?_)
  | with_reducible refine' ev_orV ?_ (fun _ => ?_)
  | with_reducible refine' ev_notV ?_
  | with_reducible refine' et_test ?_
  | with_reducible refine' et_B ?_
  | with_reducible refine' et_and ?_ (fun _ => ?_)
  | with_reducible refine' et_or ?_ (fun _ => ?_)
  | with_reducible refine' et_not ?_
  | with_reducible refine' ea_cons ?_ ?_
  | with_reducible refine' rv_it (by assumption) ?_
  | with_reducible refine' rv_mul ?_
  | with_reducible refine' rv_eq ?_
  | with_reducible refine' rv_ne ?_
  | exact rfl
  | ((with_reducible show CMul _ _); (try dsimp only at *); first | exact Or.inl ⟨by omega, by omega⟩ | exact Or.inr ⟨by omega, by omega⟩)))
section
variable {P : Program} {w : World} {K : PySem.W.Frag} {mg : Str → Option Value} {base : Heap} {ad : String → Addr}
/-! ### the heap without some objects -/
def dl (H : Hp) (S : List Addr) : Hp := fun b => if b ∈ S then none else H b
theorem dl_at {H : Hp} {S : List Addr} {b : Addr} {o : HO} (h : H b = some o) (n : b ∉ S) : dl H S b = some o := by
  unfold dl
  rw [if_neg n]
  exact h
theorem dl_sub {H : Hp} {S : List Addr} : Ex (dl H S) H := fun b o h => by
  unfold dl at h
  split at h
  · cases h
  · exact h
theorem dl_ne {H : Hp} {S : List Addr} {b : Addr} {o : HO} (h : dl H S b = some o) : b ∉ S := fun z => by
  unfold dl at h
  rw [if_pos z] at h
  cases h
/-- all that stood stands, but these -/
def Kept (H H' : Hp) (S : List Addr) : Prop := ∀ b o, b ∉ S → H b = some o → H' b = some o
theorem Kept.of {H H' : Hp} {S : List Addr} (e : Ex H H') : Kept H H' S := fun b o _ h => e b o h
theorem Kept.dl {H H' : Hp} {S : List Addr} (k : Kept H H' S) : Ex (dl H S) (dl H' S) := fun b o h => dl_at (k b o (dl_ne h) (dl_sub b o h)) (dl_ne h)
theorem Kept.trans {H H1 H2 : Hp} {S : List Addr} (a : Kept H H1 S) (b : Kept H1 H2 S) : Kept H H2 S := fun q o n h => b q o n (a q o n h)
/-- objects that are no tuples -/
def NoTup (H : Hp) (S : List Addr) : Prop := ∀ b ∈ S, ∃ o, H b = some o ∧ ∀ xs, o ≠ .tup xs
theorem IsT.dl {H : Hp} {S : List Addr} {v : V} {xs : List V} (h : IsT H v xs) (n : NoTup H S) : IsT (dl H S) v xs := by
  obtain ⟨p, rfl, hp⟩ := h
  refine ⟨p, rfl, dl_at hp fun z => ?_⟩
  obtain ⟨o, ho, q⟩ := n p z
  rw [hp] at ho
  cases ho
  exact q xs rfl
theorem NoTup.mono {H H' : Hp} {S : List Addr} (h : NoTup H S) (e : Ex H H') : NoTup H' S := fun b hb => by
  obtain ⟨o, h1, h2⟩ := h b hb
  exact ⟨o, e _ _ h1, h2⟩
theorem IsSh.dl {H H1 : Hp} {S : List Addr} {v : V} {bs : List Bd} (h : IsSh H1 v bs) (f : Fresh H v) (e : Ex H H1) (n : NoTup H S) : IsSh (dl H1 S) v bs := by
  obtain ⟨p, vs, rfl, hp, hr⟩ := h
  refine ⟨p, vs, rfl, dl_at hp fun z => ?_, hr.imp fun v b q => ⟨IsT.dl q.1 (n.mono e), q.2⟩⟩
  obtain ⟨o, ho, _⟩ := n p z
  rw [f p rfl] at ho
  cases ho
/-! ### lights -/
theorem lk_here {k : Str} {v : V} {r : List (Str × V)} : List.lookup k ((k, v) :: r) = some v := by
  have e : (k == k) = true := beq_self_eq_true k
  simp only [List.lookup, e]
theorem lk_past {k g : Str} {v : V} {r : List (Str × V)} (h : (k == g) = false) : List.lookup k ((g, v) :: r) = List.lookup k r := by
  simp only [List.lookup, h]
theorem put_here {f : Str} {v x : V} {r : List (Str × V)} : putF f v ((f, x) :: r) = (f, v) :: r := if_pos rfl
theorem put_past {f g : Str} {v x : V} {r : List (Str × V)} (h : ¬ g = f) : putF f v ((g, x) :: r) = (g, x) :: putF f v r := if_neg h
/-- a light's fields -/
def lF (vp : V) (r : Int) (vh vs vd : V) : List (Str × V) := [("place", vp), ("reach", .int r), ("phases", vh), ("sectors", vs), ("shadows", vd)]
section
variable {vp vh vs vd : V} {r : Int}
theorem lF_place : (lF vp r vh vs vd).lookup ("place" : Str) = some vp := lk_here
theorem lF_reach : (lF vp r vh vs vd).lookup ("reach" : Str) = some (.int r) := (lk_past (by decide +kernel)).trans lk_here
theorem lF_phases : (lF vp r vh vs vd).lookup ("phases" : Str) = some vh := (lk_past (by decide +kernel)).trans ((lk_past (by decide +kernel)).trans lk_here)
theorem lF_sectors : (lF vp r vh vs vd).lookup ("sectors" : Str) = some vs := (lk_past (by decide +kernel)).trans ((lk_past (by decide +kernel)).trans ((lk_past (by decide +kernel)).trans lk_here))
theorem lF_shadows : (lF vp r vh vs vd).lookup ("shadows" : Str) = some vd := (lk_past (by decide +kernel)).trans ((lk_past (by decide +kernel)).trans ((lk_past (by decide +kernel)).trans ((lk_past (by decide +kernel)).trans lk_here)))
theorem lF_none {m : Str} (h1 : (m == ("place" : Str)) = false) (h2 : (m == ("reach" : Str)) = false) (h3 : (m == ("phases" : Str)) = false) (h4 : (m == ("sectors" : Str)) = false) (h5 : (m == ("shadows" : Str)) = false) : (lF vp r vh vs vd).lookup m = none :=
  (lk_past h1).trans ((lk_past h2).trans ((lk_past h3).trans ((lk_past h4).trans ((lk_past h5).trans rfl))))
theorem lF_new4 : putF "sectors" vs (putF "phases" vh (putF "reach" (.int r) (putF "place" vp []))) = [(("place" : Str), vp), ("reach", .int r), ("phases", vh), ("sectors", vs)] := by
  show putF "sectors" vs (putF "phases" vh (putF "reach" (.int r) [("place", vp)])) = _
  rw [put_past (by decide +kernel)]
  show putF "sectors" vs (putF "phases" vh [("place", vp), ("reach", .int r)]) = _
  rw [put_past (by decide +kernel), put_past (by decide +kernel)]
  show putF "sectors" vs [("place", vp), ("reach", .int r), ("phases", vh)] = _
  rw [put_past (by decide +kernel), put_past (by decide +kernel), put_past (by decide +kernel)]
  rfl
theorem lF_new : putF "shadows" vd (putF "sectors" vs (putF "phases" vh (putF "reach" (.int r) (putF "place" vp [])))) = lF vp r vh vs vd := by
  rw [lF_new4, put_past (by decide +kernel), put_past (by decide +kernel), put_past (by decide +kernel), put_past (by decide +kernel)]
  rfl
end
abbrev s_Light_init : Stmt := inClass (top 57) 0
abbrev N_Light_init : List Str := ["self", "place", "reach", "phases", "sectors", "coasts", "coast"]
theorem sc_Light_init : FnScope N_Light_init ["self", "place", "reach", "phases", "sectors", "coasts"] (defScope s_Light_init) := ⟨rfl, rfl, rfl, by decide +kernel, rfl, by decide +kernel, by decide +kernel⟩
def sp_Light_init (_K : PySem.W.Frag) (ad : String → Addr) : Sp := fun vs H Q _ => ∃ (p dx : Addr) (vp : V) (r : Int) (vh vc cv : V) (pl : Pt) (cs : List BnC.Coast), vs = [.ref p, vp, .int r, vh, vc, cv] ∧ H p = some (.ins (ad "Light") dx []) ∧ IsPt H vp pl ∧ Near 10000 pl ∧ IsCos H cv cs ∧ cs.length ≤ 64 ∧
  ∀ (H' : Hp) (q : Addr) (sv : List V), H' p = some (.ins (ad "Light") dx (lF vp r vh vc (.ref q))) → H' q = some (.lst sv) → H q = none → (∀ S, (∀ b ∈ S, b = q ∨ b = p ∨ ∃ o, H b = some o ∧ ∀ xs, o ≠ .tup xs) → Reps (IsSh (dl H' S)) sv (cs.map (shad pl))) →
    (∀ b o, H b = some o → b ≠ p → H' b = some o) → Q .non H'
theorem ok_Light_init (C : Cl_Light K (ad "Light")) (D_shadow_of : Df P w K mg base "shadow_of" 4 ["light", "coast"] sp_shadow_of) {f : Addr} {fd : FuncData} (F : Fun K "__init__" "Light.__init__" s_Light_init f fd) : FnOk P w K mg base CX0 5 f fd ["self", "place", "reach", "phases", "sectors", "coasts"] (sp_Light_init K ad) := by
  refine F.ok sc_Light_init (fun vs H Q E h => ?_) (fun cdv A outer s H vs Q E hr h => ?_)
  · obtain ⟨p, dx, vp, r, vh, vc, cv, pl, cs, rfl, _⟩ := h
    rfl
  · refine ⟨_, (pss_cons (ps_fld (pv 0) (pv 1) rfl)
    (pss_cons (ps_fld (pv 0) (pv 2) rfl)
    (pss_cons (ps_fld (pv 0) (pv 3) rfl)
    (pss_cons (ps_fld (pv 0) (pv 4) rfl)
    (pss_one (ps_fld (pv 0) (pe_lc (own := [("coast", 6)]) (te := (tCall sp_shadow_of [] E0 (tCons (tVar 1) (tCons (tVar 6) tNil)))) rfl sc_Light_init.nd (pi_list (pv 5)) (blkOk_by (N := N_Light_init) (sc := defScope s_Light_init) (by decide +kernel)) (by intro _ _ _ _ _; exact (pg_name (i := 6) sc_Light_init.nd rfl (Or.inl rfl))) (by intro _ _ _ _ _; exact pts_nil) (by intro _ _ _ _ _; exact (pe_df D_shadow_of (hr.mono (by decide)) (by rfl) (pa_cons (pv 1) (pa_cons (pv 6) pa_nil))))) rfl)))))), ?_⟩
    obtain ⟨p, dx, vp, r, vh, vc, cv, pl, cs, rfl, hp, ⟨pp, rfl, hpp⟩, nl, ⟨pc, vs, rfl, hpc, hvs⟩, hlen, k⟩ := h
    refine ⟨_, rfl, _, rfl, p, _, dx, [], rfl, hp, C.cl, C.n_place, (by show 0 < 1000; decide), ?_⟩
    refine ⟨_, rfl, _, rfl, p, _, dx, _, rfl, upd_same, C.cl, C.n_reach, (by show 1 < 1000; decide), ?_⟩
    refine ⟨_, rfl, _, rfl, p, _, dx, _, rfl, upd_same, C.cl, C.n_phases, (by show 2 < 1000; decide), ?_⟩
    refine ⟨_, rfl, _, rfl, p, _, dx, _, rfl, upd_same, C.cl, C.n_sectors, (by show 3 < 1000; decide), ?_⟩
    rw [lF_new4]
    have k1 : ∀ b o, H b = some o → b ≠ p → (upd (upd (upd (upd H p (.ins (ad "Light") dx (putF "place" (.ref pp) []))) p (.ins (ad "Light") dx (putF "reach" (.int r) (putF "place" (.ref pp) [])))) p (.ins (ad "Light") dx (putF "phases" vh (putF "reach" (.int r) (putF "place" (.ref pp) []))))) p (.ins (ad "Light") dx [(("place" : Str), (.ref pp)), ("reach", .int r), ("phases", vh), ("sectors", vc)])) b = some o := fun b o e hb => by
      rw [upd_ne hb, upd_ne hb, upd_ne hb, upd_ne hb]
      exact e
    have h1p : (upd (upd (upd (upd H p (.ins (ad "Light") dx (putF "place" (.ref pp) []))) p (.ins (ad "Light") dx (putF "reach" (.int r) (putF "place" (.ref pp) [])))) p (.ins (ad "Light") dx (putF "phases" vh (putF "reach" (.int r) (putF "place" (.ref pp) []))))) p (.ins (ad "Light") dx [(("place" : Str), (.ref pp)), ("reach", .int r), ("phases", vh), ("sectors", vc)])) p = some (.ins (ad "Light") dx [(("place" : Str), (.ref pp)), ("reach", .int r), ("phases", vh), ("sectors", vc)]) := upd_same
    generalize upd (upd (upd (upd H p (.ins (ad "Light") dx (putF "place" (.ref pp) []))) p (.ins (ad "Light") dx (putF "reach" (.int r) (putF "place" (.ref pp) [])))) p (.ins (ad "Light") dx (putF "phases" vh (putF "reach" (.int r) (putF "place" (.ref pp) []))))) p (.ins (ad "Light") dx [(("place" : Str), (.ref pp)), ("reach", .int r), ("phases", vh), ("sectors", vc)]) = H1 at k1 h1p ⊢
    have npp : pp ≠ p := fun z => by rw [z, hp] at hpp; cases hpp
    have npc : pc ≠ p := fun z => by rw [z, hp] at hpc; cases hpc
    have hpp1 := k1 _ _ hpp npp
    have hpc1 := k1 _ _ hpc npc
    have co1 : ∀ {v : V} {c : BnC.Coast}, IsCo H v c → IsCo H1 v c := by
      rintro v c ⟨⟨x, y, ⟨t, rfl, ht⟩, ⟨tx, rfl, htx⟩, ⟨ty, rfl, hty⟩⟩, rest⟩
      have nt : ∀ {t : Addr} {xs : List V}, H t = some (.tup xs) → t ≠ p := fun h z => by rw [z, hp] at h; cases h
      exact ⟨⟨_, _, ⟨t, rfl, k1 _ _ ht (nt ht)⟩, ⟨tx, rfl, k1 _ _ htx (nt htx)⟩, ⟨ty, rfl, k1 _ _ hty (nt hty)⟩⟩, rest⟩
    -- [shadow_of(place, coast) for coast in coasts]
    refine ⟨_, rfl, pc, rfl, ⟨_, sq_of hpc1⟩, fun D hD => lc_it (walk_list (K := K) (a := pc) (xs := vs)) (fun i H' => Ex H1 H' ∧ ∃ vd, H' D = some (.lst vd) ∧ Reps (fun v b => IsSh (dl H' [D]) v b ∧ Fresh H1 v) vd ((cs.map (shad pl)).take i)) ⟨Ex.new hD, [], upd_same, Reps.nil⟩ (fun i H' _ h => sq_of (h.1 _ _ hpc1)) ?_ ?_⟩
    · rintro i v H3 H4 hi ⟨e3, vd, h1, h2⟩ ⟨rfl, hxi⟩
      obtain ⟨c, hci, hc⟩ := hvs.2 i v hxi
      have hat : (cs.map (shad pl))[i]? = some (shad pl c) := by rw [List.getElem?_map, hci]; rfl
      refine ⟨rfl, ?_⟩
      dsimp only [tYes]
      rw [if_pos rfl]
      refine ⟨_, rfl, _, rfl, pl, c, ⟨_, _, rfl, ⟨pp, rfl, e3 _ _ hpp1⟩, (co1 hc).mono e3⟩, nl, fun v5 H5 e5 h5 f5 => ⟨vd, e5 _ _ h1, ?_, Ex.mut (e3.trans e5) hD, _, upd_same, ?_⟩⟩
      · rw [h2.1]
        refine Nat.lt_of_le_of_lt (List.length_take_le' _ _) ?_
        rw [List.length_map]
        exact Nat.lt_of_le_of_lt hlen (by decide)
      · rw [take_next hat]
        have kp : Kept H5 (upd H5 D (.lst (vd ++ [v5]))) [D] := fun b o nb z => by rw [upd_ne (fun y => nb (by simp [y]))]; exact z
        exact Reps.add (h2.imp fun v x z => ⟨(z.1.mono (Kept.of e5).dl).mono kp.dl, z.2⟩) ⟨(IsSh.dl h5 f5 e5 (fun b hb => by rw [List.mem_singleton.mp hb]; exact ⟨_, h1, fun xs z => by cases z⟩)).mono kp.dl, fun q z => fresh_back e3 (f5 q z)⟩
    · rintro H3 ⟨e3, vd, h1, h2⟩
      rw [hvs.1, List.take_of_length_le (by rw [List.length_map]; exact Nat.le_refl _)] at h2
      refine ⟨_, rfl, p, _, dx, _, rfl, e3 _ _ h1p, C.cl, C.n_shadows, (by show 4 < 1000; decide), ?_⟩
      have nDp : D ≠ p := fun z => by rw [z, h1p] at hD; cases hD
      have hHD : H D = none := by
        cases hh : H D with
        | none => rfl
        | some o => rw [k1 _ _ hh nDp] at hD; cases hD
      have fin : ∀ b o, b ≠ p → H3 b = some o → upd H3 p (.ins (ad "Light") dx (putF "shadows" (.ref D) [(("place" : Str), (.ref pp)), ("reach", .int r), ("phases", vh), ("sectors", vc)])) b = some o := fun b o nb z => by rw [upd_ne nb]; exact z
      refine k _ D vd ?_ (fin _ _ nDp h1) hHD (fun S hS => ?_) fun b o e nb => fin _ _ nb (e3 _ _ (k1 _ _ e nb))
      · rw [upd_same, ← lF_new4, lF_new]
      · refine h2.imp fun v bs hh => ?_
        obtain ⟨⟨pb, vb, rfl, hpb, hrb⟩, fb⟩ := hh
        have hpb3 := dl_sub _ _ hpb
        have npb : pb ≠ p := fun z => by rw [z, e3 _ _ h1p] at hpb3; cases hpb3
        refine ⟨pb, vb, rfl, dl_at (fin _ _ npb hpb3) fun z => ?_, hrb.imp fun v x hh => ?_⟩
        · rcases hS pb z with y | y | ⟨o, y, _⟩
          · exact dl_ne hpb (by simp [y])
          · exact npb y
          · have := fb pb rfl
            rw [k1 _ _ y npb] at this
            cases this
        · obtain ⟨⟨t, ev, ht⟩, ob⟩ := hh
          refine ⟨⟨t, ev, ?_⟩, ob⟩
          have ht3 := dl_sub _ _ ht
          have nt : t ≠ p := fun z => by rw [z, e3 _ _ h1p] at ht3; cases ht3
          refine dl_at (fin _ _ nt ht3) fun z => ?_
          rcases hS t z with y | y | ⟨o, y, no⟩
          · exact dl_ne ht (by simp [y])
          · exact nt y
          · rw [e3 _ _ (k1 _ _ y nt)] at ht3
            cases ht3
            exact no _ rfl
/-- a light that may be: what the calls let in -/
structure LOk (l : BnC.Light) : Prop where
  pl : Near 10000 l.place
  ra : 1 ≤ l.range ∧ l.range ≤ 20000
  rh : Plain l.rhythm
  ne : ∃ s, l.sectors.getLast? = some s
  se : ∀ s ∈ l.sectors, Near 1000 s.1 ∧ s.2 ≤ 4
  od : BnC.inOrder l.sectors = true
def LiAt (C : Addr) (H : Hp) (v : V) (l : BnC.Light) (q : Addr) : Prop := (∃ p dx vp vh vc, v = .ref p ∧ H p = some (.ins C dx (lF vp (l.range : Nat) vh vc (.ref q))) ∧ IsPt H vp l.place ∧ IsPhs H vh (l.rhythm.map ofPhase) ∧ IsSecs H vc l.sectors) ∧ LOk l
theorem LiAt.mono {C : Addr} {H H' : Hp} {v : V} {l : BnC.Light} {q : Addr} (h : LiAt C H v l q) (e : Ex H H') : LiAt C H' v l q := by
  obtain ⟨⟨p, dx, vp, vh, vc, rfl, hp, h1, h2, h3⟩, h4⟩ := h
  exact ⟨⟨p, dx, vp, vh, vc, rfl, e _ _ hp, h1.mono e, h2.mono e, h3.mono e⟩, h4⟩
/-- a light, and behind which coasts -/
def IsLight (C : Addr) (H : Hp) (v : V) (l : BnC.Light) (cs : List BnC.Coast) : Prop := ∃ q, LiAt C H v l q ∧ IsShs H (.ref q) (cs.map (shad l.place)) ∧ ∀ c ∈ cs, c.1 ≠ c.2
theorem IsLight.mono {C : Addr} {H H' : Hp} {v : V} {l : BnC.Light} {cs : List BnC.Coast} (h : IsLight C H v l cs) (e : Ex H H') : IsLight C H' v l cs := by
  obtain ⟨q, h1, h2, h3⟩ := h
  exact ⟨q, h1.mono e, h2.mono e, h3⟩
abbrev s_Light_hide_behind : Stmt := inClass (top 57) 1
abbrev N_Light_hide_behind : List Str := ["self", "coast"]
theorem sc_Light_hide_behind : FnScope N_Light_hide_behind ["self", "coast"] (defScope s_Light_hide_behind) := ⟨rfl, rfl, rfl, by decide +kernel, rfl, by decide +kernel, by decide +kernel⟩
def sp_Light_hide_behind (_K : PySem.W.Frag) (ad : String → Addr) : Sp := fun vs H Q _ => ∃ (v u : V) (l : BnC.Light) (c : BnC.Coast) (q : Addr) (sv : List V), vs = [v, u] ∧ LiAt (ad "Light") H v l q ∧ IsCo H u c ∧ H q = some (.lst sv) ∧ sv.length ≤ 64 ∧
  ∀ x H1, Ex H H1 → IsSh H1 x (shad l.place c) → Fresh H x → Q .non (upd H1 q (.lst (sv ++ [x])))
theorem ok_Light_hide_behind (C : Cl_Light K (ad "Light")) (D_shadow_of : Df P w K mg base "shadow_of" 4 ["light", "coast"] sp_shadow_of) {f : Addr} {fd : FuncData} (F : Fun K "hide_behind" "Light.hide_behind" s_Light_hide_behind f fd) : FnOk P w K mg base CX0 5 f fd ["self", "coast"] (sp_Light_hide_behind K ad) := by
  refine F.ok sc_Light_hide_behind (fun vs H Q E h => ?_) (fun cdv A outer s H vs Q E hr h => ?_)
  · obtain ⟨v, u, l, c, q, sv, rfl, _⟩ := h
    rfl
  · refine ⟨_, (pss_one (ps_expr (pe_bm PySem.F.plainAttrs_list PySem.F.slot_list_append PySem.F.type_list_append mt_append (pe_fld (pv 0) rfl) (pa_cons (pe_df D_shadow_of (hr.mono (by decide)) (by rfl) (pa_cons (pe_fld (pv 0) rfl) (pa_cons (pv 1) pa_nil))) pa_nil)))), ?_⟩
    obtain ⟨v, u, l, c, q, sv, rfl, ⟨⟨p, dx, vp, vh, vc, rfl, hp, h1, h2, h3⟩, ok⟩, hc, hq, hlen, k⟩ := h
    refine ⟨_, rfl, p, _, dx, _, _, rfl, hp, C.cl, C.n_shadows, lF_shadows, .inl ⟨rfl, _, sq_of hq⟩, _, rfl, p, _, dx, _, _, rfl, hp, C.cl, C.n_place, lF_place, _, rfl, l.place, c, ⟨_, _, rfl, h1, hc⟩, ok.pl, fun x H1 e1 g1 f1 => ⟨q, sv, x, rfl, rfl, e1 _ _ hq, Nat.lt_of_le_of_lt hlen (by decide), k x H1 e1 g1 f1⟩⟩
/-- two pairs of numbers are alike -/
theorem rv_eqPt {H : Hp} {p q : Addr} {a b c d : Int} (h1 : H p = some (.tup [.int a, .int b])) (h2 : H q = some (.tup [.int c, .int d])) : RV (rEqD K) (.ref p) (.ref q) H (.bl (decide (a = c) && decide (b = d))) := fun H1 e Q k => by
  have e1 : PyData.eqv (.tuple [.int a, .int b]) (.tuple [.int c, .int d]) = (decide (a = c) && decide (b = d)) := by
    simp only [PyData.eqv, PyData.eqvAll, Bool.and_true]
    rfl
  refine ⟨.tuple [.int a, .int b], .tuple [.int c, .int d], .tup (st_of (e _ _ h1)) (.cons (.int a) (.cons (.int b) .nil)), .tup (st_of (e _ _ h2)) (.cons (.int c) (.cons (.int d) .nil)), rfl, rfl, ?_⟩
  rw [e1]
  exact k _ (Ex.refl _)
abbrev s_Light_colour_shown : Stmt := inClass (top 57) 2
abbrev N_Light_colour_shown : List Str := ["self", "place", "way"]
theorem sc_Light_colour_shown : FnScope N_Light_colour_shown ["self", "place"] (defScope s_Light_colour_shown) := ⟨rfl, rfl, rfl, by decide +kernel, rfl, by decide +kernel, by decide +kernel⟩
def shownAt (l : BnC.Light) (p : Pt) : Nat := if BnC.apart p l.place ≤ (l.range : Int) * (l.range : Int) then l.shows p else 0
theorem seen_shown (cs : List BnC.Coast) (l : BnC.Light) (p : Pt) (hc : ∀ c ∈ cs, c.1 ≠ c.2) : BnC.seenFrom cs l p = if ((cs.map (shad l.place)).any fun b => inShad b p) = true then 0 else shownAt l p := by
  unfold BnC.seenFrom shownAt
  by_cases c0 : p = l.place
  · have z : l.shows p = 0 := by
      unfold BnC.Light.shows
      rw [if_pos c0]
    rw [z]
    split <;> split <;> (try split) <;> rfl
  · have e : (cs.any fun c => BnC.meet c.1 c.2 l.place p) = ((cs.map (shad l.place)).any fun b => inShad b p) := by
      rw [List.any_map]
      rw [Bool.eq_iff_iff]; rw [List.any_eq_true, List.any_eq_true]
      have q : ∀ c ∈ cs, inShad (shad l.place c) p = BnC.meet c.1 c.2 l.place p := fun c h => shad_is (hc c h) (fun z => c0 z.symm)
      constructor
      · rintro ⟨c, h, t⟩
        exact ⟨c, h, by show inShad (shad l.place c) p = true; rw [q c h]; exact t⟩
      · rintro ⟨c, h, t⟩
        exact ⟨c, h, by rw [← q c h]; exact t⟩
    rw [e]
    by_cases c1 : ((cs.map (shad l.place)).any fun b => inShad b p) = true
    · rw [if_pos c1, if_neg (fun z => by rw [c1] at z; exact absurd z.2 (by decide))]
    · rw [if_neg c1]
      have c1 : ((cs.map (shad l.place)).any fun b => inShad b p) = false := by simpa using c1
      rw [c1]
      by_cases c2 : BnC.apart p l.place ≤ (l.range : Int) * (l.range : Int)
      · rw [if_pos ⟨c2, rfl⟩, if_pos c2]
      · rw [if_neg (fun z => c2 z.1), if_neg c2]
theorem shown_at {l : BnC.Light} (hl : LOk l) {s : BnC.Sector} (hs : l.sectors.getLast? = some s) (p : Pt) :
    shownAt l p = if p = l.place then 0 else if ((l.range : Int) * (l.range : Int)) < BnC.dot (way l.place p) (way l.place p) then 0 else towards s.2 l.sectors (way l.place p) := by
  unfold shownAt
  have sh : l.shows p = if p = l.place then 0 else towards s.2 l.sectors (way l.place p) := by
    unfold BnC.Light.shows
    rw [← sector_is _ hl.od hs]
    rfl
  have ap : BnC.apart p l.place = BnC.dot (way l.place p) (way l.place p) := rfl
  rw [sh, ap]
  by_cases c0 : p = l.place
  · rw [if_pos c0, if_pos c0]
    split <;> rfl
  · rw [if_neg c0, if_neg c0]
    by_cases c1 : ((l.range : Int) * (l.range : Int)) < BnC.dot (way l.place p) (way l.place p)
    · rw [if_pos c1, if_neg (by omega)]
    · rw [if_neg c1, if_pos (by omega)]
theorem range_sq {r : Nat} (h : r ≤ 20000) : CMul (r : Int) (r : Int) := .inl ⟨by omega, by omega⟩
def sp_Light_colour_shown (_K : PySem.W.Frag) (ad : String → Addr) : Sp := spFn (fun vs H (a : BnC.Light × Pt) => (∃ v u q, vs = [v, u] ∧ LiAt (ad "Light") H v a.1 q ∧ IsPt H u a.2) ∧ Near 10000 a.2) fun a v _ => v = .int (shownAt a.1 a.2 : Nat)
theorem ok_Light_colour_shown (T : Tx K mg ad) (C : Cl_Light K (ad "Light")) (D_way_between : Df P w K mg base "way_between" 1 ["start", "end"] sp_way_between) (D_square_of_length : Df P w K mg base "square_of_length" 1 ["way"] sp_square_of_length)
    (D_colour_towards : Df P w K mg base "colour_towards" 3 ["sectors", "way"] sp_colour_towards)
    {f : Addr} {fd : FuncData} (F : Fun K "colour_shown" "Light.colour_shown" s_Light_colour_shown f fd) : FnOk P w K mg base CX0 4 f fd ["self", "place"] (sp_Light_colour_shown K ad) := by
  refine F.ok sc_Light_colour_shown (fun vs H Q E h => ?_) (fun cdv A outer s H vs Q E hr h => ?_)
  · obtain ⟨a, ⟨⟨v, u, q, rfl, _⟩, _⟩, _⟩ := h
    rfl
  · refine ⟨_, (pss_cons (ps_set (i := 2) sc_Light_colour_shown.nd rfl (Or.inl rfl) (pe_df D_way_between (hr.mono (by decide)) (by rfl) (pa_cons (pe_fld (pv 0) rfl) (pa_cons (pv 1) pa_nil))))
    (pss_cons (ps_if (PW.pt (pw_or (pt_cmpR (op_eqD (hu64_of hr)) (pv 2) (pe_tup (pa_cons pe_int (pa_cons pe_int pa_nil))) (nomark _)) (pw_or1 (pt_cmpR op_gt (pe_df D_square_of_length (hr.mono (by decide)) (by rfl) (pa_cons (pv 2) pa_nil)) (pe_op op_mul (pe_fld (pv 0) rfl) (pe_fld (pv 0) rfl)) (nomark _))))) 
        (pss_one (ps_ret (pe_gint (by rfl) T.g_NOTHING))) pss_nil)
    (pss_one (ps_ret (pe_df D_colour_towards (hr.mono (by decide)) (by rfl) (pa_cons (pe_fld (pv 0) rfl) (pa_cons (pv 2) pa_nil))))))), ?_⟩
    obtain ⟨⟨l, p⟩, ⟨⟨v, u, sq, rfl, hl, hu⟩, np⟩, k⟩ := h
    dsimp only at np hl hu
    have k : ∀ v H', Ex H H' → v = .int (shownAt l p : Nat) → Q v H' := k
    obtain ⟨⟨pl, dx, vp, vh, vc, rfl, hpl, h1, h2, h3⟩, ok⟩ := hl
    obtain ⟨sl, hsl⟩ := ok.ne
    have spec := shown_at ok hsl p
    have nw : Near 20000 (way l.place p) := near_way ok.pl np
    -- self.place and its like
    have fld : ∀ {σ : L2.St} {H' : Hp} {g : Str} {y : V}, σ[0]? = some (some (.ref pl)) → Ex H H' → NoAttr K (ad "Light") g → (lF vp (l.range : Nat) vh vc (.ref sq)).lookup g = some y → Ev (tFld K (tVar 0) g) σ H' y := fun h e n q H1 e1 Q k =>
      ⟨_, h, pl, _, dx, _, _, rfl, e1 _ _ (e _ _ hpl), C.cl, n, q, k _ (Ex.refl _)⟩
    refine ⟨_, rfl, pl, _, dx, _, _, rfl, hpl, C.cl, C.n_place, lF_place, _, rfl, (l.place, p), ⟨vp, u, rfl, h1, hu⟩, fun vw H1 e1 hw => ?_⟩
    obtain ⟨pw, rfl, hw⟩ := hw
    dsimp only [gName]
    refine q_when (b := (decide ((way l.place p).1 = 0) && decide ((way l.place p).2 = 0)) || decide (((l.range : Int) * (l.range : Int)) < BnC.dot (way l.place p) (way l.place p))) (et_or (et_test (ev_opU (ev_var rfl) (eu_tup (ea_cons ev_c (ea_cons ev_c ea_nil)) (by simp)) fun q H2 hq e2 => rv_eqPt (e2 _ _ hw) hq)) fun _ => et_test (ev_op (ev_fn (way l.place p) (vs := [.ref pw]) (ea_cons (ev_var rfl) ea_nil) (fun H2 e2 => ⟨⟨_, rfl, pw, rfl, e2 _ _ hw⟩, nw.le (by omega)⟩) fun v H1 h => h) (ev_op (fld rfl e1 C.n_reach lF_reach) (fld rfl e1 C.n_reach lF_reach) (rv_mul (range_sq ok.ra.2))) rv_I0)) (fun q H2 e2 => ?_) fun q H2 e2 => ?_
    · refine s_ret (v := .int 0) ev_c fun H3 e3 => k _ _ (e1.trans (e2.trans e3)) ?_
      rw [spec]
      simp only [Bool.or_eq_true, Bool.and_eq_true, decide_eq_true_iff] at q
      by_cases c0 : p = l.place
      · rw [if_pos c0]
        rfl
      · rw [if_neg c0]
        rcases q with q | q
        · exfalso
          unfold way at q
          exact c0 (Prod.ext (by omega) (by omega))
        · rw [if_pos q]
          rfl
    · simp only [Bool.or_eq_false_iff, Bool.and_eq_false_iff, decide_eq_false_iff_not] at q
      have c0 : ¬ p = l.place := fun z => by
        rw [z] at q
        unfold way at q
        omega
      rw [if_neg c0, if_neg q.2] at spec
      have e02 := e1.trans e2
      refine s_ret (v := .int (towards sl.2 l.sectors (way l.place p) : Nat)) (ev_fn ((l.sectors, sl), way l.place p) (vs := [vc, .ref pw]) (ea_cons (fld rfl e02 C.n_sectors lF_sectors) (ea_cons (ev_var rfl) ea_nil)) (fun H3 e3 => ⟨⟨_, _, rfl, h3.mono (e02.trans e3), pw, rfl, (e2.trans e3) _ _ hw⟩, hsl, nw.le (by omega)⟩) fun v H1 h => h) fun H3 e3 => k _ _ (e02.trans e3) ?_
      rw [spec]
end
end Bc

namespace Bc
open PySem PySem.Spec PyProof.Rows L2 Evl
local macro_rules | `(tactic| walk_at "ev") => `(tactic| repeat' (first
  | with_reducible exact ev_c
  | with_reducible exact rv_I0
  | with_reducible exact ru_neg
  | with_reducible exact ea_nil
  | with_reducible refine' ev_var ?_
  | with_reducible refine' ev_chain ?_ ?_ ?_ ?_ ?_
  | with_reducible refine' ev_op ?_ ?_ ?_
  | with_reducible refine' ev_un ?_ ?_
  | with_reducible refine' ev_andV ?_ (fun _ => ?_)
  | with_reducible refine' ev_orV ?_ (fun _ => ?_)
  | with_reducible refine' ev_notV ?_
  | with_reducible refine' et_test ?_
  | with_reducible refine' et_B ?_
  | with_reducible refine' et_and ?_ (fun _ => ?_)
  | with_reducible refine' et_or ?_ (fun _ => ?_)
  | with_reducible refine' et_not ?_
  | with_reducible refine' ea_cons ?_ ?_
  | with_reducible refine' rv_it (by assumption) ?_
  | with_reducible refine' rv_mul ?_
  | with_reducible refine' rv_eq ?_
  | with_reducible refine' rv_ne ?_
  | exact rfl
  | ((with_reducible show CMul _ _); (try dsimp only at *); first | exact Or.inl ⟨by omega, by omega⟩ | exact Or.inr ⟨by omega, by omega⟩)))
section
variable {P : Program} {w : World} {K : PySem.W.Frag} {mg : Str → Option Value} {base : Heap} {ad : String → Addr}
abbrev s_Light_colours_on : Stmt := inClass (top 57) 3
abbrev N_Light_colours_on : List Str := ["self", "walk", "hidden", "place", "covered"]
theorem sc_Light_colours_on : FnScope N_Light_colours_on ["self", "walk"] (defScope s_Light_colours_on) := ⟨rfl, rfl, rfl, by decide +kernel, rfl, by decide +kernel, by decide +kernel⟩
/-- the colours in which a light is seen, place by place -/
def cols (cs : List BnC.Coast) (l : BnC.Light) (ps : List Pt) : List Nat := ps.map (BnC.seenFrom cs l)
def natL (l : List Nat) : List V := l.map fun n => V.int (n : Nat)
def sp_Light_colours_on (_K : PySem.W.Frag) (ad : String → Addr) : Sp := fun vs H Q _ => ∃ (l : BnC.Light) (cs : List BnC.Coast) (wk : Wk), (∃ v u, vs = [v, u] ∧ IsLight (ad "Light") H v l cs ∧ IsWk H u wk) ∧ ∀ v H', Ex H H' → IsL H' v (natL (cols cs l (placesOn wk))) → Fresh H v → Q v H'
theorem ok_Light_colours_on (T : Tx K mg ad) (C : Cl_Light K (ad "Light")) (D_hidden_on : Df P w K mg base "hidden_on" 2 ["shadows", "walk"] sp_hidden_on) (D_places_on : Df P w K mg base "places_on" 1 ["walk"] sp_places_on)
    (DM_Light_colour_shown : Dm P w K mg base (ad "Light") "colour_shown" 4 ["self", "place"] (sp_Light_colour_shown K ad))
    {f : Addr} {fd : FuncData} (F : Fun K "colours_on" "Light.colours_on" s_Light_colours_on f fd) : FnOk P w K mg base CX0 5 f fd ["self", "walk"] (sp_Light_colours_on K ad) := by
  refine F.ok sc_Light_colours_on (fun vs H Q E h => ?_) (fun cdv A outer s H vs Q E hr h => ?_)
  · obtain ⟨l, cs, wk, ⟨v, u, rfl, _⟩, _⟩ := h
    rfl
  · refine ⟨_, (pss_cons (ps_set (i := 2) sc_Light_colours_on.nd rfl (Or.inl rfl) (pe_df D_hidden_on (hr.mono (by decide)) (by rfl) (pa_cons (pe_fld (pv 0) rfl) (pa_cons (pv 1) pa_nil))))
    (pss_one (ps_ret (pe_lc (own := [("place", 3), ("covered", 4)]) (g := (gTup K 2 (gCons (gName 3) (gCons (gName 4) gNil)))) (te := (tIf (tB (tVar 4)) (tC (.int 0)) (tMeth (ad "Light") "colour_shown" (sp_Light_colour_shown K ad) [] E0 (tVar 0) (tCons (tVar 3) tNil)))) rfl sc_Light_colours_on.nd (pi_zip (by rfl) T.b_zip (pa_cons (pe_df D_places_on (hr.mono (by decide)) (by rfl) (pa_cons (pv 1) pa_nil)) (pa_cons (pv 2) pa_nil))) (blkOk_by (N := N_Light_colours_on) (sc := defScope s_Light_colours_on) (by decide +kernel)) (by intro _ _ _ _ _; exact (pg_tup rfl (pgs_cons (pg_name (i := 3) sc_Light_colours_on.nd rfl (Or.inl rfl)) (pgs_cons (pg_name (i := 4) sc_Light_colours_on.nd rfl (Or.inl rfl)) pgs_nil)))) (by intro _ _ _ _ _; exact pts_nil) (by intro _ _ _ _ _; exact (pe_ifExp (pt_val (pv 4)) (pe_gint (by rfl) T.g_NOTHING) (pe_dm DM_Light_colour_shown (hr.mono (by decide)) (pv 0) (pa_cons (pv 3) pa_nil)))))))), ?_⟩
    obtain ⟨l, cs, wk, ⟨v, u, rfl, ⟨q, hl, hs, hcs⟩, hw⟩, k⟩ := h
    obtain ⟨⟨pl, dx, vp, vh, vc, rfl, hpl, h1, h2, h3⟩, ok⟩ := id hl
    -- hidden = hidden_on(self.shadows, walk)
    refine ⟨_, rfl, pl, _, dx, _, _, rfl, hpl, C.cl, C.n_shadows, lF_shadows, _, rfl, (cs.map (shad l.place), wk), ⟨_, _, rfl, hs, hw⟩, fun v1 H1 e1 g1 => ?_⟩
    obtain ⟨ph, rfl, hph⟩ := g1
    dsimp only [gName]
    -- places_on(walk)
    refine ⟨_, rfl, wk, ⟨_, rfl, hw.mono e1⟩, fun v2 H2 e2 g2 => ?_⟩
    obtain ⟨pp, vps, rfl, hpp, hvps⟩ := g2
    have e02 := e1.trans e2
    have hpl2 : (placesOn wk).length = wk.2.2 := by
      unfold placesOn
      simp only [List.length_range, List.length_map]
    have hcl : (cols cs l (placesOn wk)).length = wk.2.2 := by
      unfold cols
      rw [List.length_map, hpl2]
    have hhl : (hiddenOn (cs.map (shad l.place)) wk).length = wk.2.2 := by
      unfold hiddenOn
      simp only [List.length_range, List.length_map]
    have hn := hw.2.n
    refine ⟨_, rfl, pp, ph, vps, _, rfl, sq_of hpp, sq_of (e2 _ _ hph), fun D hD => lc_it (walk_zip (K := K) (a := pp) (b := ph) (xs := vps) (ys := (hiddenOn (cs.map (shad l.place)) wk).map V.bl) (n := wk.2.2) (by rw [hvps.1, hpl2, List.length_map, hhl, Nat.min_self])) (fun i H' => Ex H2 H' ∧ H' D = some (.lst (natL ((cols cs l (placesOn wk)).take i)))) ⟨Ex.new hD, upd_same⟩ (fun i H' _ h => ⟨sq_of (h.1 _ _ hpp), sq_of (h.1 _ _ (e2 _ _ hph))⟩) ?_ ?_⟩
    · rintro i v H3 H4 hi ⟨e3, h3'⟩ ⟨t, x, y, rfl, hT, rfl, hx, hy⟩
      obtain ⟨p, hpi, hp⟩ := hvps.2 i x hx
      have hpa : p = atW wk i := by
        unfold placesOn at hpi
        rw [List.getElem?_map, List.getElem?_range hi] at hpi
        cases hpi
        rfl
      have hat : (cols cs l (placesOn wk))[i]? = some (BnC.seenFrom cs l p) := by
        unfold cols
        rw [List.getElem?_map, hpi]
        rfl
      have hyb : y = .bl ((cs.map (shad l.place)).any fun b => inShad b p) := by
        unfold hiddenOn at hy
        dsimp only at hy
        rw [List.getElem?_map, List.getElem?_map, List.getElem?_range hi] at hy
        rw [hpa]
        exact (Option.some.inj hy).symm
      subst hyb
      have eT := Ex.new (o := .tup [x, V.bl ((cs.map (shad l.place)).any fun b => inShad b p)]) hT
      refine ⟨t, _, rfl, st_of upd_same, rfl, _, _, rfl, _, _, rfl, rfl, rfl, ?_⟩
      dsimp only [tYes]
      rw [if_pos rfl]
      have sn := seen_shown cs l p hcs
      have npl : Near 10000 p := by rw [hpa]; exact hw.2.pl i hi
      have fin : ∀ H5, Ex (upd H3 t (.tup [x, V.bl ((cs.map (shad l.place)).any fun b => inShad b p)])) H5 → ∃ acc, H5 D = some (.lst acc) ∧ acc.length < sizeLine ∧ Ex H2 (upd H5 D (.lst (acc ++ [V.int (BnC.seenFrom cs l p : Nat)]))) ∧ upd H5 D (.lst (acc ++ [V.int (BnC.seenFrom cs l p : Nat)])) D = some (.lst (natL ((cols cs l (placesOn wk)).take (i + 1)))) := fun H5 e5 => by
        refine ⟨_, e5 _ _ (eT _ _ h3'), ?_, Ex.mut (e3.trans (eT.trans e5)) hD, ?_⟩
        · unfold natL
          rw [List.length_map]
          exact Nat.lt_of_le_of_lt (List.length_take_le _ _) (Nat.lt_of_le_of_lt (show i ≤ 1024 by omega) (by decide))
        · rw [upd_same, take_next hat]
          unfold natL
          rw [List.map_append]
          rfl
      refine ⟨_, rfl, _, rfl, ?_⟩
      cases hc : (cs.map (shad l.place)).any (fun b => inShad b p) with
      | true =>
        rw [if_pos rfl]
        rw [hc] at sn
        rw [if_pos rfl] at sn
        rw [hc] at fin eT
        have := fin _ (Ex.refl _)
        rw [sn] at this
        exact this
      | false =>
        rw [if_neg (by decide)]
        rw [hc] at sn
        rw [if_neg (by decide)] at sn
        rw [hc] at fin eT
        have e04 := e02.trans (e3.trans eT)
        refine ⟨_, rfl, pl, dx, _, rfl, e04 _ _ hpl, lF_none (by decide +kernel) (by decide +kernel) (by decide +kernel) (by decide +kernel) (by decide +kernel), _, rfl, (l, p), ⟨⟨_, _, q, rfl, hl.mono e04, hp.mono (e3.trans eT)⟩, npl⟩, fun v H5 e5 hv => ?_⟩
        have hv : v = .int (shownAt l p : Nat) := hv
        rw [hv, ← sn]
        exact fin H5 e5
    · rintro H3 ⟨e3, h3'⟩
      rw [List.take_of_length_le (by rw [hcl]; exact Nat.le_refl _)] at h3'
      exact k _ _ (e02.trans e3) ⟨D, rfl, h3'⟩ fun z hz => by cases hz; exact fresh_back e02 hD
abbrev s_Light_colours_over : Stmt := inClass (top 57) 4
abbrev N_Light_colours_over : List Str := ["self", "walks", "colours", "walk"]
theorem sc_Light_colours_over : FnScope N_Light_colours_over ["self", "walks"] (defScope s_Light_colours_over) := ⟨rfl, rfl, rfl, by decide +kernel, rfl, by decide +kernel, by decide +kernel⟩
def sp_Light_colours_over (_K : PySem.W.Frag) (ad : String → Addr) : Sp := fun vs H Q _ => ∃ (l : BnC.Light) (cs : List BnC.Coast) (ws : List Wk), (∃ v u, vs = [v, u] ∧ IsLight (ad "Light") H v l cs ∧ IsWks H u ws) ∧ (placesOver ws).length ≤ 100000 ∧ ∀ v H', Ex H H' → IsL H' v (natL (cols cs l (placesOver ws))) → Fresh H v → Q v H'
theorem ok_Light_colours_over (DM_Light_colours_on : Dm P w K mg base (ad "Light") "colours_on" 5 ["self", "walk"] (sp_Light_colours_on K ad))
    {f : Addr} {fd : FuncData} (F : Fun K "colours_over" "Light.colours_over" s_Light_colours_over f fd) : FnOk P w K mg base CX0 6 f fd ["self", "walks"] (sp_Light_colours_over K ad) := by
  refine F.ok sc_Light_colours_over (fun vs H Q E h => ?_) (fun cdv A outer s H vs Q E hr h => ?_)
  · obtain ⟨l, cs, ws, ⟨v, u, rfl, _⟩, _⟩ := h
    rfl
  · refine ⟨_, (pss_cons (ps_set (i := 2) sc_Light_colours_over.nd rfl (Or.inl rfl) (pe_lst pa_nil))
    (pss_cons (ps_for PassesOwn.never rfl (pi_list (pv 1)) (pg_name (i := 3) sc_Light_colours_over.nd rfl (Or.inl rfl)) 
        (pss_one (ps_expr (pe_bm PySem.F.plainAttrs_list PySem.F.slot_list_extend PySem.F.type_list_extend mt_extend (pv 2) (pa_cons (pe_dm DM_Light_colours_on (hr.mono (by decide)) (pv 0) (pa_cons (pv 3) pa_nil)) pa_nil)))))
    (pss_one (ps_ret (pv 2))))), ?_⟩
    obtain ⟨l, cs, ws, ⟨v, u, rfl, hl, ⟨pw, vs, rfl, hpw, hvs⟩⟩, hlen, k⟩ := h
    obtain ⟨q, ⟨⟨p, dx, vp, vh, vc, rfl, hp, _⟩, _⟩, _⟩ := id hl
    refine q_asgL (el_lst ea_nil (by simp)) fun pl H1 npl e1 hpl => ?_
    refine ⟨_, rfl, pw, rfl, ⟨_, sq_of (e1 _ _ hpw)⟩, for_it (walk_list (K := K) (a := pw) (xs := vs)) (fun i σ H' => ∃ (y3 : Option V), σ = [some (.ref p), some (.ref pw), some (.ref pl), y3] ∧ Ex H H' ∧ H' pl = some (.lst (natL (cols cs l (placesOver (ws.take i))))))
      ⟨none, rfl, e1, hpl⟩ ?_ ?_ ?_⟩
    · rintro i σ H' hi ⟨y3, rfl, e, _⟩
      exact sq_of (e _ _ hpw)
    · rintro i v σ H2 H3 hi ⟨y3, rfl, e, h1⟩ ⟨rfl, hxi⟩
      obtain ⟨wk, hwi, hw⟩ := hvs.2 i v hxi
      have hov : placesOver (ws.take (i + 1)) = placesOver (ws.take i) ++ placesOn wk := by
        rw [take_next hwi]
        unfold placesOver
        rw [List.flatMap_append]
        simp
      dsimp only [gName]
      refine ⟨_, rfl, .inl ⟨rfl, _, sq_of h1⟩, _, rfl, p, dx, _, rfl, e _ _ hp, lF_none (by decide +kernel) (by decide +kernel) (by decide +kernel) (by decide +kernel) (by decide +kernel), _, rfl, l, cs, wk, ⟨_, _, rfl, hl.mono e, hw.mono e⟩, fun v4 H4 e4 h4 f4 => ?_⟩
      obtain ⟨p4, rfl, hp4⟩ := h4
      refine ⟨pl, p4, _, _, rfl, rfl, e4 _ _ h1, hp4, ?_, _, rfl, Ex.mut (e.trans e4) npl, ?_⟩
      · unfold natL cols
        rw [List.length_map, List.length_map, List.length_map, List.length_map, ← List.length_append, ← hov]
        exact Nat.le_trans (over_take _ _ _) (Nat.le_trans hlen (by decide))
      · rw [upd_same, hov]
        unfold natL cols
        rw [List.map_append, List.map_append]
    · rintro σ H2 ⟨y3, rfl, e, h1⟩
      rw [hvs.1, List.take_length] at h1
      dsimp only
      exact s_ret (v := .ref pl) (ev_var rfl) fun H3 e3 => k _ _ (e.trans e3) ⟨pl, rfl, e3 _ _ h1⟩ fun z hz => by cases hz; exact npl
abbrev s_Light_colour_seen : Stmt := inClass (top 57) 5
abbrev N_Light_colour_seen : List Str := ["self", "place"]
theorem sc_Light_colour_seen : FnScope N_Light_colour_seen ["self", "place"] (defScope s_Light_colour_seen) := ⟨rfl, rfl, rfl, by decide +kernel, rfl, by decide +kernel, by decide +kernel⟩
def sp_Light_colour_seen (_K : PySem.W.Frag) (ad : String → Addr) : Sp := spFn (fun vs H (a : BnC.Light × Pt × List BnC.Coast) => (∃ v u, vs = [v, u] ∧ IsLight (ad "Light") H v a.1 a.2.2 ∧ IsPt H u a.2.1) ∧ Near 10000 a.2.1) fun a v _ => v = .int (BnC.seenFrom a.2.2 a.1 a.2.1 : Nat)
theorem ok_Light_colour_seen (DM_Light_colours_on : Dm P w K mg base (ad "Light") "colours_on" 5 ["self", "walk"] (sp_Light_colours_on K ad))
    {f : Addr} {fd : FuncData} (F : Fun K "colour_seen" "Light.colour_seen" s_Light_colour_seen f fd) : FnOk P w K mg base CX0 6 f fd ["self", "place"] (sp_Light_colour_seen K ad) := by
  refine F.ok sc_Light_colour_seen (fun vs H Q E h => ?_) (fun cdv A outer s H vs Q E hr h => ?_)
  · obtain ⟨a, ⟨⟨v, u, rfl, _⟩, _⟩, _⟩ := h
    rfl
  · refine ⟨_, (pss_one (ps_ret (pe_ix ix_list (pe_dm DM_Light_colours_on (hr.mono (by decide)) (pv 0) (pa_cons (pe_tup (pa_cons (pv 1) (pa_cons (pe_tup (pa_cons pe_int (pa_cons pe_int pa_nil))) (pa_cons pe_int pa_nil)))) pa_nil)) pe_int (fun _ _ => rfl)))), ?_⟩
    obtain ⟨⟨l, p, cs⟩, ⟨⟨v, u, rfl, hl, hu⟩, np⟩, k⟩ := h
    dsimp only at hl hu np
    obtain ⟨q, ⟨⟨pl, dx, vp, vh, vc, rfl, hpl, _⟩, _⟩, _⟩ := id hl
    have at0 : atW (p, (0, 0), 1) 0 = p := by
      unfold atW
      exact Prod.ext (by dsimp only; omega) (by dsimp only; omega)
    refine ⟨_, rfl, pl, dx, _, rfl, hpl, lF_none (by decide +kernel) (by decide +kernel) (by decide +kernel) (by decide +kernel) (by decide +kernel), _, rfl, (by show 2 ≤ sizeLine; decide), fun p1 n1 => ⟨(by show 3 ≤ sizeLine; decide), fun p2 n2 => ?_⟩⟩
    have e1 := Ex.new (o := .tup [V.int 0, V.int 0]) n1
    have e2 := Ex.new (o := .tup [u, V.ref p1, V.int 1]) n2
    have e02 := e1.trans e2
    refine ⟨l, cs, (p, (0, 0), 1), ⟨_, _, rfl, hl.mono e02, ⟨_, _, ⟨p2, rfl, upd_same⟩, hu.mono e02, ⟨p1, rfl, e2 _ _ upd_same⟩⟩, ⟨np, by unfold Near; dsimp only; omega, by dsimp only; omega, fun k hk => ?_⟩⟩, fun v H3 e3 h3 f3 => ?_⟩
    · have : k = 0 := by
        dsimp only at hk
        omega
      subst this
      rw [at0]
      exact np
    · obtain ⟨p3, rfl, h3⟩ := h3
      refine ⟨p3, _, 0, _, rfl, rfl, sq_of h3, rfl, ?_⟩
      refine k _ _ (e02.trans e3) ?_
      show V.int (BnC.seenFrom cs l (atW (p, (0, 0), 1) 0) : Nat) = _
      rw [at0]
abbrev s_Light_is_on : Stmt := inClass (top 57) 6
abbrev N_Light_is_on : List Str := ["self", "moment"]
theorem sc_Light_is_on : FnScope N_Light_is_on ["self", "moment"] (defScope s_Light_is_on) := ⟨rfl, rfl, rfl, by decide +kernel, rfl, by decide +kernel, by decide +kernel⟩
def sp_Light_is_on (_K : PySem.W.Frag) (ad : String → Addr) : Sp := spFn (fun vs H (a : BnC.Light × Nat) => ∃ v q, vs = [v, .int a.2] ∧ LiAt (ad "Light") H v a.1 q) fun a v _ => v = .bl (!decide (Bn.colourAt a.1.rhythm a.2 = 0))
theorem ok_Light_is_on (T : Tx K mg ad) (C : Cl_Light K (ad "Light")) (D_colour_byte_at : Df P w K mg base "colour_byte_at" 1 ["phases", "moment"] sp_colour_byte_at)
    {f : Addr} {fd : FuncData} (F : Fun K "is_on" "Light.is_on" s_Light_is_on f fd) : FnOk P w K mg base CX0 2 f fd ["self", "moment"] (sp_Light_is_on K ad) := by
  refine F.ok sc_Light_is_on (fun vs H Q E h => ?_) (fun cdv A outer s H vs Q E hr h => ?_)
  · obtain ⟨a, ⟨v, q, rfl, _⟩, _⟩ := h
    rfl
  · refine ⟨_, (pss_one (ps_ret (pe_cmpR op_eq (pe_df D_colour_byte_at (hr.mono (by decide)) (by rfl) (pa_cons (pe_fld (pv 0) rfl) (pa_cons (pv 1) pa_nil))) (pe_gint (by rfl) T.g_WHITE) (nomark _)))), ?_⟩
    obtain ⟨⟨l, z⟩, ⟨v, q, rfl, ⟨pl, dx, vp, vh, vc, rfl, hpl, h1, h2, h3⟩, ok⟩, k⟩ := h
    dsimp only at h2 ok hpl
    have fld : Ev (tFld K (tVar 0) "phases") (start N_Light_is_on [.ref pl, .int (z : Nat)]) H vh := fun H1 e1 Q k => ⟨_, rfl, pl, _, dx, _, _, rfl, e1 _ _ hpl, C.cl, C.n_phases, lF_phases, k _ (Ex.refl _)⟩
    have tot : sumT (l.rhythm.map ofPhase) = Bn.total l.rhythm := (total_map _).symm
    refine s_ret (v := .bl (!decide (Bn.colourAt l.rhythm z = 0))) (ev_is (ev_op (ev_fn (l.rhythm.map ofPhase, z) (vs := [vh, .int (z : Nat)]) (ea_cons fld (ea_cons (ev_var rfl) ea_nil)) (fun H1 e1 => ⟨⟨_, rfl, h2.mono e1⟩, by rw [tot]; exact total_pos ok.rh.1, by rw [List.length_map]; exact ok.rh.1.len⟩) fun v H1 h => h) ev_c (rv_eq rfl)) ?_) fun H1 e1 => by exact k _ _ e1 rfl
    rw [byte_eq _ 87 87 rfl, tot]
    congr 1
    have := on_is ok.rh z
    rw [Bool.eq_iff_iff, decide_eq_true_iff, Bool.not_eq_true', decide_eq_false_iff_not]
    exact this
end
end Bc

namespace Bc
open PySem PySem.Spec PyProof.Rows L2 Evl
local macro_rules | `(tactic| walk_at "ev") => `(tactic| repeat' (first
  | with_reducible exact ev_c
  | with_reducible exact rv_I0
  | with_reducible exact ru_neg
  | with_reducible exact ea_nil
  | with_reducible refine' ev_var ?_
  | with_reducible refine' ev_chain ?_ ?_ ?_ ?_ ?_
  | with_reducible refine' ev_op ?_ ?_ ?_
  | with_reducible refine' ev_un ?_ ?_
  | with_reducible refine' ev_andV ?_ (fun _ => ?_)
  | with_reducible refine' ev_orV ?_ (fun _ => ?_)
  | with_reducible refine' ev_notV ?_
  | with_reducible refine' et_test ?_
  | with_reducible refine' et_B ?_
  | with_reducible refine' et_and ?_ (fun _ => ?_)
  | with_reducible refine' et_or ?_ (fun _ => ?_)
  | with_reducible refine' et_not ?_
  | with_reducible refine' ea_cons ?_ ?_
  | with_reducible refine' rv_it (by assumption) ?_
  | with_reducible refine' rv_mul ?_
  | with_reducible refine' rv_eq ?_
  | with_reducible refine' rv_ne ?_
  | exact rfl
  | ((with_reducible show CMul _ _); (try dsimp only at *); first | exact Or.inl ⟨by omega, by omega⟩ | exact Or.inr ⟨by omega, by omega⟩)))
section
variable {P : Program} {w : World} {K : PySem.W.Frag} {mg : Str → Option Value} {base : Heap} {ad : String → Addr}
/-! ### the chart in the heap: some lists are its own -/
def cF (la ca : Addr) : List (Str × V) := [("lights", .ref la), ("coasts", .ref ca)]
theorem cF_lights {la ca : Addr} : (cF la ca).lookup ("lights" : Str) = some (.ref la) := lk_here
theorem cF_coasts {la ca : Addr} : (cF la ca).lookup ("coasts" : Str) = some (.ref ca) := (lk_past (by decide +kernel)).trans lk_here
theorem cF_none {la ca : Addr} {m : Str} (h1 : (m == ("lights" : Str)) = false) (h2 : (m == ("coasts" : Str)) = false) : (cF la ca).lookup m = none := (lk_past h1).trans ((lk_past h2).trans rfl)
/-- the lists that may change: the chart's two, each light's shadows; and what else is to be left alone -/
def Mu (la ca : Addr) (sh S : List Addr) : List Addr := la :: ca :: (sh ++ S)
/-- lights, each with the shadows of its coasts -/
structure LsAt (ad : String → Addr) (H : Hp) (M : List Addr) (lv : List V) (sh : List Addr) (ls : List BnC.Light) (f : Nat → List BnC.Coast) : Prop where
  n1 : lv.length = ls.length
  n2 : sh.length = ls.length
  at_ : ∀ i l, ls[i]? = some l → ∃ v q sv, lv[i]? = some v ∧ sh[i]? = some q ∧ LiAt (ad "Light") (dl H M) v l q ∧ H q = some (.lst sv) ∧ Reps (IsSh (dl H M)) sv ((f i).map (shad l.place))
structure ChartAt (ad : String → Addr) (H : Hp) (a la ca : Addr) (sh S : List Addr) (s : Wqatdz.State) : Prop where
  me : ∃ dx, H a = some (.ins (ad "Chart") dx (cF la ca))
  nd : (Mu la ca sh S).Nodup
  nt : NoTup H S
  na : a ∉ S
  ls : ∃ lv, H la = some (.lst lv) ∧ LsAt ad H (Mu la ca sh S) lv sh s.lights fun _ => s.coasts
  cs : ∃ cv, H ca = some (.lst cv) ∧ Reps (IsCo (dl H (Mu la ca sh S))) cv s.coasts
  ll : s.lights.length ≤ 24
  cl : s.coasts.length ≤ 64
theorem LsAt.mono {H H' : Hp} {M : List Addr} {lv : List V} {sh : List Addr} {ls : List BnC.Light} {f : Nat → List BnC.Coast} (h : LsAt ad H M lv sh ls f) (e : Ex H H') : LsAt ad H' M lv sh ls f := by
  refine ⟨h.n1, h.n2, fun i l hl => ?_⟩
  obtain ⟨v, q, sv, h1, h2, h3, h4, h5⟩ := h.at_ i l hl
  have k := (Kept.of e : Kept H H' M).dl
  exact ⟨v, q, sv, h1, h2, h3.mono k, e _ _ h4, h5.imp fun v x z => z.mono k⟩
theorem ChartAt.mono {H H' : Hp} {a la ca : Addr} {sh S : List Addr} {s : Wqatdz.State} (h : ChartAt ad H a la ca sh S s) (e : Ex H H') : ChartAt ad H' a la ca sh S s := by
  obtain ⟨⟨dx, h1⟩, h2, h3, h4, ⟨lv, h5, h6⟩, ⟨cv, h7, h8⟩, h9, h10⟩ := h
  have k := (Kept.of e : Kept H H' (Mu la ca sh S)).dl
  exact ⟨⟨dx, e _ _ h1⟩, h2, h3.mono e, h4, ⟨lv, e _ _ h5, h6.mono e⟩, ⟨cv, e _ _ h7, h8.imp fun v x q => q.mono k⟩, h9, h10⟩
theorem ChartAt.noTup {H : Hp} {a la ca : Addr} {sh S : List Addr} {s : Wqatdz.State} (h : ChartAt ad H a la ca sh S s) : NoTup H (Mu la ca sh S) := by
  intro b hb
  obtain ⟨lv, h5, h6⟩ := h.ls
  obtain ⟨cv, h7, h8⟩ := h.cs
  unfold Mu at hb
  rcases List.eq_or_mem_of_mem_cons hb with rfl | hb
  · exact ⟨_, h5, fun xs z => by cases z⟩
  rcases List.eq_or_mem_of_mem_cons hb with rfl | hb
  · exact ⟨_, h7, fun xs z => by cases z⟩
  rcases List.mem_append.mp hb with (hb | hb)
  · obtain ⟨i, hi⟩ := List.getElem?_of_mem hb
    have lt : i < s.lights.length := by
      rw [← h6.n2]
      exact (List.getElem?_eq_some_iff.mp hi).1
    obtain ⟨v, q, sv, _, g2, _, g4, _⟩ := h6.at_ i _ (List.getElem?_eq_getElem lt)
    rw [hi] at g2
    cases g2
    exact ⟨_, g4, fun xs z => by cases z⟩
  · exact h.nt b hb
/-- the chart itself is none of the lists -/
theorem ChartAt.self {H : Hp} {a la ca : Addr} {sh S : List Addr} {s : Wqatdz.State} (h : ChartAt ad H a la ca sh S s) : a ∉ Mu la ca sh S := fun hb => by
  obtain ⟨dx, h1⟩ := h.me
  obtain ⟨lv, h5, h6⟩ := h.ls
  obtain ⟨cv, h7, h8⟩ := h.cs
  unfold Mu at hb
  rcases List.eq_or_mem_of_mem_cons hb with z | hb
  · rw [← z, h1] at h5; cases h5
  rcases List.eq_or_mem_of_mem_cons hb with z | hb
  · rw [← z, h1] at h7; cases h7
  rcases List.mem_append.mp hb with (hb | hb)
  · obtain ⟨i, hi⟩ := List.getElem?_of_mem hb
    have lt : i < s.lights.length := by
      rw [← h6.n2]
      exact (List.getElem?_eq_some_iff.mp hi).1
    obtain ⟨v, q, sv, _, g2, _, g4, _⟩ := h6.at_ i _ (List.getElem?_eq_getElem lt)
    rw [hi] at g2
    cases g2
    rw [h1] at g4; cases g4
  · exact h.na hb
/-- what lies in the heap is none of what isn't there -/
theorem ChartAt.fresh {H : Hp} {a la ca b : Addr} {sh S : List Addr} {s : Wqatdz.State} (h : ChartAt ad H a la ca sh S s) (hb : H b = none) : b ∉ Mu la ca sh S := fun z => by
  obtain ⟨o, ho, _⟩ := h.noTup b z
  rw [hb] at ho
  cases ho
/-- a light, read from outside -/
theorem ChartAt.light {H : Hp} {a la ca : Addr} {sh S : List Addr} {s : Wqatdz.State} (h : ChartAt ad H a la ca sh S s) {lv : List V} (hla : H la = some (.lst lv)) {i : Nat} {l : BnC.Light} (hl : s.lights[i]? = some l) : ∃ v, lv[i]? = some v ∧ IsLight (ad "Light") H v l s.coasts := by
  obtain ⟨lv', h5, h6⟩ := h.ls
  rw [hla] at h5
  cases h5
  obtain ⟨v, q, sv, g1, g2, g3, g4, g5⟩ := h6.at_ i l hl
  refine ⟨v, g1, q, g3.mono dl_sub, ⟨q, sv, rfl, g4, g5.imp fun v x z => z.mono dl_sub⟩, fun c hc => ?_⟩
  obtain ⟨cv, h7, h8⟩ := h.cs
  obtain ⟨j, hj⟩ := List.getElem?_of_mem hc
  obtain ⟨v, _, _, _, _, n⟩ := h8.at hj
  exact n
theorem ChartAt.llen {H : Hp} {a la ca : Addr} {sh S : List Addr} {s : Wqatdz.State} (h : ChartAt ad H a la ca sh S s) {lv : List V} (hla : H la = some (.lst lv)) : lv.length = s.lights.length := by
  obtain ⟨lv', h5, h6⟩ := h.ls
  rw [hla] at h5
  cases h5
  exact h6.n1
/-- the coasts, read from outside -/
theorem ChartAt.coasts {H : Hp} {a la ca : Addr} {sh S : List Addr} {s : Wqatdz.State} (h : ChartAt ad H a la ca sh S s) : IsCos H (.ref ca) s.coasts := by
  obtain ⟨cv, h5, h6⟩ := h.cs
  exact ⟨ca, cv, rfl, h5, h6.imp fun v x q => q.mono dl_sub⟩
/-- a list of numbers that H0 doesn't know -/
def NewL (H0 H : Hp) (v : V) (xs : List V) : Prop := ∃ p, v = .ref p ∧ H0 p = none ∧ H p = some (.lst xs)
/-- what a call answers as one list -/
def ansL (y : Wqatdz.Ans) : List V := (y.ret :: y.nums).map V.int
/-- what a call leaves: all but the chart's own; what's the chart's own was so before, or is new -/
structure Left (H H' : Hp) (a : Addr) (M M' : List Addr) : Prop where
  kp : ∀ b o, b ≠ a → b ∉ M → H b = some o → H' b = some o
  nw : ∀ b ∈ M', b ∈ M ∨ H b = none
/-- the promise of a method that plays a call on the chart -/
def spCh {α : Type} (ad : String → Addr) (pre : List V → Hp → α → Prop) (call : α → Wqatdz.Call) : Sp := fun vs H Q _ => ∃ (a la ca : Addr) (sh S : List Addr) (s : Wqatdz.State) (c : α) (rest : List V),
  vs = .ref a :: rest ∧ ChartAt ad H a la ca sh S s ∧ pre rest H c ∧ ∀ v H' la' ca' sh', ChartAt ad H' a la' ca' sh' S (Wqatdz.step s (call c)).1 → Left H H' a (la :: ca :: sh) (la' :: ca' :: sh') →
    NewL H H' v (ansL (Wqatdz.step s (call c)).2) → Q v H'
theorem Left.of {H H' : Hp} {a : Addr} {M : List Addr} (e : Ex H H') : Left H H' a M M := ⟨fun b o _ _ h => e b o h, fun _ h => .inl h⟩
theorem placeB_is (a : Pt) : placeB a = Wqatdz.isPlace a := rfl
theorem near_place {a : Pt} (h : Wqatdz.isPlace a = true) : Near 10000 a := by
  unfold Wqatdz.isPlace Wqatdz.FAR at h
  rw [Bool.and_eq_true, near_iff, near_iff] at h
  unfold Near
  omega
/-- the light's call in the program's order -/
theorem light_is (s : Wqatdz.State) (p : Pt) (r : Nat) (b : List UInt8) (ns : List Int) : Wqatdz.lightOf s p r b ns =
    if ((!placeB p || (decide ((r : Int) < 1) || decide (20000 < (r : Int)))) || (readSecs ns).isNone) = true then (s, Wqatdz.BAD) else
      match readSecs ns with
      | none => (s, Wqatdz.BAD)
      | some c => if 1024 < b.length then (s, Wqatdz.says (-2)) else match Bn.readRhythm b with
        | .error k => (s, Wqatdz.tells (-6) [Wqatdz.int k])
        | .ok h => if (h.any fun x => decide (1 < x.1)) = true then (s, Wqatdz.says (-8)) else if 24 ≤ s.lights.length then (s, Wqatdz.says (-5)) else ({ s with lights := s.lights ++ [⟨p, r, h, c⟩] }, Wqatdz.says (Wqatdz.int s.lights.length)) := by
  unfold Wqatdz.lightOf
  have hr := readSecs_is ns
  rw [placeB_is]
  cases e : Wqatdz.sectorsIn ns with
  | none =>
    rw [e] at hr
    rw [hr]
    show (s, Wqatdz.BAD) = if (_ || true) = true then (s, Wqatdz.BAD) else _
    rw [Bool.or_true, if_pos rfl]
  | some c =>
    rw [e] at hr
    dsimp only at hr ⊢
    by_cases q : c = [] ∨ Wqatdz.SECTORS < c.length ∨ BnC.inOrder c = false
    · rw [if_pos q] at hr
      rw [hr]
      have h1 : Wqatdz.isPlace p = false ∨ r = 0 ∨ Wqatdz.RANGE < r ∨ c = [] ∨ Wqatdz.SECTORS < c.length ∨ BnC.inOrder c = false := .inr (.inr (.inr q))
      rw [if_pos h1]
      show (s, Wqatdz.BAD) = if (_ || true) = true then (s, Wqatdz.BAD) else _
      rw [Bool.or_true, if_pos rfl]
    · rw [if_neg q] at hr
      rw [hr]
      show _ = if (_ || false) = true then _ else _
      rw [Bool.or_false]
      by_cases t : Wqatdz.isPlace p = false ∨ r = 0 ∨ 20000 < r
      · have h1 : Wqatdz.isPlace p = false ∨ r = 0 ∨ Wqatdz.RANGE < r ∨ c = [] ∨ Wqatdz.SECTORS < c.length ∨ BnC.inOrder c = false := by
          rcases t with t | t | t
          · exact .inl t
          · exact .inr (.inl t)
          · exact .inr (.inr (.inl t))
        have h2 : (!Wqatdz.isPlace p || (decide ((r : Int) < 1) || decide (20000 < (r : Int)))) = true := by
          simp only [Bool.or_eq_true, Bool.not_eq_true', decide_eq_true_iff]
          rcases t with t | t | t
          · exact .inl t
          · exact .inr (.inl (by omega))
          · exact .inr (.inr (by omega))
        rw [if_pos h1, if_pos h2]
      · have h1 : ¬ (Wqatdz.isPlace p = false ∨ r = 0 ∨ Wqatdz.RANGE < r ∨ c = [] ∨ Wqatdz.SECTORS < c.length ∨ BnC.inOrder c = false) := by
          rintro (z | z | z | z)
          · exact t (.inl z)
          · exact t (.inr (.inl z))
          · exact t (.inr (.inr z))
          · exact q z
        have h2 : ¬ (!Wqatdz.isPlace p || (decide ((r : Int) < 1) || decide (20000 < (r : Int)))) = true := by
          simp only [Bool.or_eq_true, Bool.not_eq_true', decide_eq_true_iff]
          rintro (z | z | z)
          · exact t (.inl z)
          · exact t (.inr (.inl (by omega)))
          · exact t (.inr (.inr (by omega)))
        rw [if_neg h1, if_neg h2]
        rfl
theorem plain_is {r : Bn.Rhythm} (h : Fits r) : ((r.map ofPhase).all fun x => !(!decide (x.1 = 87) && !decide (x.1 = 45))) = !(r.any fun x => decide (1 < x.1)) := by
  rw [Bool.eq_iff_iff, Bool.not_eq_true', ← Bool.not_eq_true, List.all_eq_true, List.any_eq_true]
  constructor
  · rintro g ⟨x, hx, t⟩
    have := g _ (List.mem_map_of_mem (f := ofPhase) hx)
    have d := (dark_or_white (h.each x hx).1).mpr (of_decide_eq_true t)
    have e1 : decide ((ofPhase x).1 = 87) = false := decide_eq_false d.1
    have e2 : decide ((ofPhase x).1 = 45) = false := decide_eq_false d.2
    rw [e1, e2] at this
    cases this
  · intro g y hy
    obtain ⟨x, hx, rfl⟩ := List.mem_map.mp hy
    rw [Bool.not_eq_true', ← Bool.not_eq_true]
    intro t
    simp only [Bool.and_eq_true, Bool.not_eq_true', decide_eq_false_iff_not] at t
    exact g ⟨x, hx, decide_eq_true ((dark_or_white (h.each x hx).1).mp t)⟩
theorem plain_of {r : Bn.Rhythm} (h : Fits r) (g : (r.any fun x => decide (1 < x.1)) = false) : Plain r := ⟨h, fun x hx => by
  rw [← Bool.not_eq_true, List.any_eq_true] at g
  by_cases z : x.1 ≤ 1
  · exact z
  · exact absurd ⟨x, hx, decide_eq_true (by omega)⟩ g⟩
/-- what was read is what a light wants -/
theorem secs_ok {ns : List Int} {c : List BnC.Sector} (h : readSecs ns = some c) : (∃ s, c.getLast? = some s) ∧ (∀ s ∈ c, Near 1000 s.1 ∧ s.2 ≤ 4) ∧ BnC.inOrder c = true := by
  rw [readSecs_is] at h
  cases e : Wqatdz.sectorsIn ns with
  | none => (rw [e] at h; exact nomatch h)
  | some d =>
    rw [e] at h
    by_cases q : d = [] ∨ Wqatdz.SECTORS < d.length ∨ BnC.inOrder d = false
    · have h : (if d = [] ∨ Wqatdz.SECTORS < d.length ∨ BnC.inOrder d = false then none else some d) = some c := h
      rw [if_pos q] at h
      cases h
    · have h : (if d = [] ∨ Wqatdz.SECTORS < d.length ∨ BnC.inOrder d = false then none else some d) = some c := h
      rw [if_neg q] at h
      cases h
      refine ⟨?_, fun s hs => ?_, by simpa using fun z => q (.inr (.inr z))⟩
      · cases g : c.getLast? with
        | none => exact absurd (.inl (by simpa using g)) q
        | some s => exact ⟨s, rfl⟩
      · have := sectorsIn_near ns c e s hs
        unfold Near
        omega
abbrev s_Chart_init : Stmt := inClass (top 74) 0
abbrev N_Chart_init : List Str := ["self"]
theorem sc_Chart_init : FnScope N_Chart_init ["self"] (defScope s_Chart_init) := ⟨rfl, rfl, rfl, by decide +kernel, rfl, by decide +kernel, by decide +kernel⟩
def sp_Chart_init (_K : PySem.W.Frag) (ad : String → Addr) : Sp := fun vs H Q _ => ∃ (p dx : Addr), vs = [.ref p] ∧ H p = some (.ins (ad "Chart") dx []) ∧
  ∀ (H' : Hp) (la ca : Addr), ChartAt ad H' p la ca [] [] Wqatdz.start → H la = none → H ca = none → (∀ b o, H b = some o → b ≠ p → H' b = some o) → Q .non H'
theorem start_at {H : Hp} {p la ca dx : Addr} {S : List Addr} (h1 : H p = some (.ins (ad "Chart") dx (cF la ca))) (h2 : H la = some (.lst [])) (h3 : H ca = some (.lst [])) (nd : (Mu la ca [] S).Nodup) (nt : NoTup H S) (na : p ∉ S) : ChartAt ad H p la ca [] S Wqatdz.start :=
  ⟨⟨dx, h1⟩, nd, nt, na, ⟨[], h2, rfl, rfl, fun i l h => by cases h⟩, ⟨[], h3, Reps.nil⟩, by decide, by decide⟩
theorem ok_Chart_init (C : Cl_Chart K (ad "Chart")) {f : Addr} {fd : FuncData} (F : Fun K "__init__" "Chart.__init__" s_Chart_init f fd) : FnOk P w K mg base CX0 1 f fd ["self"] (sp_Chart_init K ad) := by
  refine F.ok sc_Chart_init (fun vs H Q E h => ?_) (fun cdv A outer s H vs Q E hr h => ?_)
  · obtain ⟨p, dx, rfl, _⟩ := h
    rfl
  · refine ⟨_, (pss_cons (ps_fld (pv 0) (pe_lst pa_nil) rfl)
    (pss_one (ps_fld (pv 0) (pe_lst pa_nil) rfl))), ?_⟩
    obtain ⟨p, dx, rfl, hp, k⟩ := h
    refine ⟨Nat.zero_le _, fun la hla => ?_⟩
    have n1 : p ≠ la := ne_of_none hp hla
    refine ⟨_, rfl, p, _, dx, [], rfl, (by rw [upd_ne n1]; exact hp), C.cl, C.n_lights, (by show 0 < 1000; decide), ?_⟩
    refine ⟨Nat.zero_le _, fun ca hca => ?_⟩
    have n2 : p ≠ ca := ne_of_none upd_same hca
    have n3 : la ≠ ca := by
      refine ne_of_none (o := .lst []) ?_ hca
      rw [upd_ne n1.symm, upd_same]
    have hca0 : H ca = none := by
      rw [upd_ne n2.symm, upd_ne n3.symm] at hca
      exact hca
    refine ⟨_, rfl, p, _, dx, _, rfl, (by rw [upd_ne n2, upd_same]), C.cl, C.n_coasts, (by show 1 < 1000; decide), ?_⟩
    refine k _ la ca (start_at (dx := dx) ?_ ?_ ?_ (by unfold Mu; simp [n3]) (fun b hb => by cases hb) (by simp)) hla hca0 fun b o e hb => ?_
    · rw [upd_same]
      rfl
    · rw [upd_ne n1.symm, upd_ne n3, upd_ne n1.symm, upd_same]
    · rw [upd_ne n2.symm, upd_same]
    · rw [upd_ne hb, upd_ne (ne_of_none e hca0), upd_ne hb, upd_ne (ne_of_none e hla)]
      exact e
abbrev s_Chart_begin_anew : Stmt := inClass (top 74) 9
abbrev N_Chart_begin_anew : List Str := ["self"]
theorem sc_Chart_begin_anew : FnScope N_Chart_begin_anew ["self"] (defScope s_Chart_begin_anew) := ⟨rfl, rfl, rfl, by decide +kernel, rfl, by decide +kernel, by decide +kernel⟩
def sp_Chart_begin_anew (_K : PySem.W.Frag) (ad : String → Addr) : Sp := spCh ad (fun vs _ (_ : Unit) => vs = []) fun _ => .clear
theorem ok_Chart_begin_anew (C : Cl_Chart K (ad "Chart")) {f : Addr} {fd : FuncData} (F : Fun K "begin_anew" "Chart.begin_anew" s_Chart_begin_anew f fd) : FnOk P w K mg base CX0 1 f fd ["self"] (sp_Chart_begin_anew K ad) := by
  refine F.ok sc_Chart_begin_anew (fun vs H Q E h => ?_) (fun cdv A outer s H vs Q E hr h => ?_)
  · obtain ⟨a, la, ca, sh, S, s, c, rest, rfl, _, rfl, _⟩ := h
    rfl
  · refine ⟨_, (pss_cons (ps_fld (pv 0) (pe_lst pa_nil) rfl)
    (pss_cons (ps_fld (pv 0) (pe_lst pa_nil) rfl)
    (pss_one (ps_ret (pe_lst (pa_cons pe_int pa_nil)))))), ?_⟩
    obtain ⟨a, la, ca, sh, S, s, ⟨⟩, rest, rfl, hc, rfl, k⟩ := h
    obtain ⟨dx, hme⟩ := hc.me
    refine ⟨Nat.zero_le _, fun l2 hl2 => ?_⟩
    have n1 : a ≠ l2 := ne_of_none hme hl2
    refine ⟨_, rfl, a, _, dx, _, rfl, (by rw [upd_ne n1]; exact hme), C.cl, C.n_lights, (by show 2 < 1000; decide), ?_⟩
    refine ⟨Nat.zero_le _, fun c2 hc2 => ?_⟩
    have n2 : a ≠ c2 := ne_of_none upd_same hc2
    have n3 : l2 ≠ c2 := by
      refine ne_of_none (o := .lst []) ?_ hc2
      rw [upd_ne n1.symm, upd_same]
    have hc20 : H c2 = none := by
      rw [upd_ne n2.symm, upd_ne n3.symm] at hc2
      exact hc2
    refine ⟨_, rfl, a, _, dx, _, rfl, (by rw [upd_ne n2, upd_same]), C.cl, C.n_coasts, (by show 2 < 1000; decide), ?_⟩
    have kp : ∀ b o, b ≠ a → H b = some o → upd (upd (upd (upd H l2 (.lst [])) a (.ins (ad "Chart") dx (putF "lights" (.ref l2) (cF la ca)))) c2 (.lst [])) a (.ins (ad "Chart") dx (putF "coasts" (.ref c2) (putF "lights" (.ref l2) (cF la ca)))) b = some o := fun b o hb e => by
      rw [upd_ne hb, upd_ne (ne_of_none e hc20), upd_ne hb, upd_ne (ne_of_none e hl2)]
      exact e
    have hS : ∀ b ∈ S, H b ≠ none := fun b hb z => by
      obtain ⟨o, ho, _⟩ := hc.nt b hb
      rw [z] at ho; cases ho
    have ndS : S.Nodup := by
      have := hc.nd
      unfold Mu at this
      exact (List.nodup_append.mp (List.nodup_cons.mp (List.nodup_cons.mp this).2).2).2.1
    have fF : putF "coasts" (.ref c2) (putF "lights" (.ref l2) (cF la ca)) = cF l2 c2 := by
      show putF "coasts" (.ref c2) (putF "lights" (.ref l2) [("lights", .ref la), ("coasts", .ref ca)]) = _
      rw [put_here, put_past (by decide +kernel), put_here]
      rfl
    have new : ChartAt ad (upd (upd (upd (upd H l2 (.lst [])) a (.ins (ad "Chart") dx (putF "lights" (.ref l2) (cF la ca)))) c2 (.lst [])) a (.ins (ad "Chart") dx (putF "coasts" (.ref c2) (putF "lights" (.ref l2) (cF la ca))))) a l2 c2 [] S Wqatdz.start := by
      refine start_at (dx := dx) ?_ ?_ ?_ ?_ (fun b hb => ?_) hc.na
      · rw [upd_same, fF]
      · rw [upd_ne n1.symm, upd_ne n3, upd_ne n1.symm, upd_same]
      · rw [upd_ne n2.symm, upd_same]
      · unfold Mu
        refine List.nodup_cons.mpr ⟨fun z => ?_, List.nodup_cons.mpr ⟨fun z => ?_, by simpa using ndS⟩⟩
        · rcases List.eq_or_mem_of_mem_cons z with z | z
          · exact n3 z
          · exact hS _ (by simpa using z) hl2
        · exact hS _ (by simpa using z) hc20
      · obtain ⟨o, h1, h2⟩ := hc.nt b hb
        exact ⟨o, kp b o (fun z => hc.na (z ▸ hb)) h1, h2⟩
    generalize upd (upd (upd (upd H l2 (.lst [])) a (.ins (ad "Chart") dx (putF "lights" (.ref l2) (cF la ca)))) c2 (.lst [])) a (.ins (ad "Chart") dx (putF "coasts" (.ref c2) (putF "lights" (.ref l2) (cF la ca)))) = H4 at kp new ⊢
    refine s_retL (σ := start N_Chart_begin_anew [.ref a]) (xs := [.int 0]) (el_lst (ea_cons ev_c ea_nil) (by simp)) fun p H5 hp e5 h5 => ?_
    refine k _ _ l2 c2 [] (new.mono e5) ⟨fun b o hb _ z => e5 _ _ (kp b o hb z), fun b hb => ?_⟩ ⟨p, rfl, ?_, h5⟩
    · right
      rcases List.eq_or_mem_of_mem_cons hb with rfl | hb
      · exact hl2
      · rw [List.eq_of_mem_singleton hb]
        exact hc20
    · cases hh : H p with
      | none => rfl
      | some o =>
        by_cases z : p = a
        · obtain ⟨dx', hme'⟩ := new.me
          rw [z, hme'] at hp
          cases hp
        · rw [kp p o z hh] at hp
          cases hp
/-- fields of the chart -/
theorem ev_lights {H : Hp} {a la ca : Addr} {sh S : List Addr} {s : Wqatdz.State} {σ : L2.St} (C : Cl_Chart K (ad "Chart")) (h : ChartAt ad H a la ca sh S s) (h0 : σ[0]? = some (some (.ref a))) : Ev (tFld K (tVar 0) "lights") σ H (.ref la) := fun H1 e1 Q k => by
  obtain ⟨dx, h1⟩ := h.me
  exact ⟨_, h0, a, _, dx, _, _, rfl, e1 _ _ h1, C.cl, C.n_lights, cF_lights, k _ (Ex.refl _)⟩
theorem ev_coasts {H : Hp} {a la ca : Addr} {sh S : List Addr} {s : Wqatdz.State} {σ : L2.St} (C : Cl_Chart K (ad "Chart")) (h : ChartAt ad H a la ca sh S s) (h0 : σ[0]? = some (some (.ref a))) : Ev (tFld K (tVar 0) "coasts") σ H (.ref ca) := fun H1 e1 Q k => by
  obtain ⟨dx, h1⟩ := h.me
  exact ⟨_, h0, a, _, dx, _, _, rfl, e1 _ _ h1, C.cl, C.n_coasts, cF_coasts, k _ (Ex.refl _)⟩
/-- is_place((x, y)) -/
theorem ev_place {σ : L2.St} {H : Hp} {i j : Nat} {x y : Int} (hx : σ[i]? = some (some (.int x))) (hy : σ[j]? = some (some (.int y))) : Ev (tCall sp_is_place [] E0 (tCons (tTup (tCons (tVar i) (tCons (tVar j) tNil))) tNil)) σ H (.bl (placeB (x, y))) := fun H1 _ Q k => by
  refine ⟨_, hx, _, hy, (by show 2 ≤ sizeLine; decide), fun p hp => ⟨(x, y), ⟨_, rfl, p, rfl, upd_same⟩, fun v H2 e2 hv => ?_⟩⟩
  have hv : v = .bl (placeB (x, y)) := hv
  rw [hv]
  exact k _ ((Ex.new hp).trans e2)
theorem coast_is (s : Wqatdz.State) (x y u v : Int) : Wqatdz.step s (.coast x y u v) = if ((!placeB (x, y) || !placeB (u, v)) || (decide (x = u) && decide (y = v))) = true then (s, Wqatdz.BAD) else if 64 ≤ s.coasts.length then (s, Wqatdz.says (-5)) else ({ s with coasts := s.coasts ++ [((x, y), (u, v))] }, Wqatdz.says (Wqatdz.int (s.coasts.length + 1))) := by
  show (if Wqatdz.isPlace (x, y) = false ∨ Wqatdz.isPlace (u, v) = false ∨ (x = u ∧ y = v) then (s, Wqatdz.BAD) else if 64 ≤ s.coasts.length then (s, Wqatdz.says (-5)) else ({ s with coasts := s.coasts ++ [((x, y), (u, v))] }, Wqatdz.says (Wqatdz.int (s.coasts.length + 1)))) = _
  rw [placeB_is, placeB_is]
  have : (Wqatdz.isPlace (x, y) = false ∨ Wqatdz.isPlace (u, v) = false ∨ (x = u ∧ y = v)) ↔ ((!Wqatdz.isPlace (x, y) || !Wqatdz.isPlace (u, v)) || (decide (x = u) && decide (y = v))) = true := by
    simp only [Bool.or_eq_true, Bool.not_eq_true', Bool.and_eq_true, decide_eq_true_iff, or_assoc]
  by_cases c : Wqatdz.isPlace (x, y) = false ∨ Wqatdz.isPlace (u, v) = false ∨ (x = u ∧ y = v)
  · rw [if_pos c, if_pos (this.mp c)]
  · rw [if_neg c, if_neg (fun z => c (this.mpr z))]
/-- (x, y) == (u, v), both new -/
theorem ev_eqNew {σ : L2.St} {H : Hp} {i j k l : Nat} {x y u v : Int} (hx : σ[i]? = some (some (.int x))) (hy : σ[j]? = some (some (.int y))) (hu : σ[k]? = some (some (.int u))) (hv : σ[l]? = some (some (.int v))) :
    Ev (tOp (rEqD K) (tTup (tCons (tVar i) (tCons (tVar j) tNil))) (tTup (tCons (tVar k) (tCons (tVar l) tNil)))) σ H (.bl (decide (x = u) && decide (y = v))) :=
  ev_opUU (eu_tup (ea_cons (ev_var hx) (ea_cons (ev_var hy) ea_nil)) (by simp)) (eu_tup (ea_cons (ev_var hu) (ea_cons (ev_var hv) ea_nil)) (by simp)) fun p q H1 h1 h2 _ => rv_eqPt h1 h2
/-- a short list of numbers given back -/
theorem s_num {σ : L2.St} {H H0 : Hp} {te : TE} {n : Int} {D : Ends} (h : Ev te σ H (.int n)) (e0 : Ex H0 H) (k : ∀ v H1, Ex H0 H1 → NewL H0 H1 v [.int n] → D.rt v H1) : tRet (tLst (tCons te tNil)) D σ H :=
  s_retL (el_lst (ea_cons h ea_nil) (by simp)) fun p H1 hp e h1 => k _ _ (e0.trans e) ⟨p, rfl, fresh_back e0 hp, h1⟩
theorem len_lst {σ : L2.St} {H : Hp} {te : TE} {la : Addr} {lv : List V} {α : Type} {R : V → α → Prop} {xs : List α} (he : Ev te σ H (.ref la)) (h : H la = some (.lst lv)) (hr : Reps R lv xs) : Ev (tCB (rLenS K) (tCons te tNil)) σ H (.int (xs.length : Int)) := ev_is (ev_len he (sq_of h)) (by rw [hr.1])
theorem len_lv {σ : L2.St} {H : Hp} {te : TE} {la : Addr} {lv : List V} {n : Nat} (he : Ev te σ H (.ref la)) (h : H la = some (.lst lv)) (hr : lv.length = n) : Ev (tCB (rLenS K) (tCons te tNil)) σ H (.int (n : Int)) := ev_is (ev_len he (sq_of h)) (by rw [hr])
end
end Bc

namespace Bc
open PySem PySem.Spec PyProof.Rows L2 Evl
local macro_rules | `(tactic| walk_at "ev") => `(tactic| repeat' (first
  | with_reducible exact ev_c
  | with_reducible exact rv_I0
  | with_reducible exact ru_neg
  | with_reducible exact ea_nil
  | with_reducible refine' ev_var ?_
  | with_reducible refine' ev_chain ?_ ?_ ?_ ?_ ?_
  | with_reducible refine' ev_op ?_ ?_ ?_
  | with_reducible refine' ev_un ?_ ?_
  | with_reducible refine' ev_andV ?_ (fun _ => ?_)
  | with_reducible refine' ev_orV ?_ (fun _ => ?_)
  | with_reducible refine' ev_notV ?_
  | with_reducible refine' et_test ?_
  | with_reducible refine' et_B ?_
  | with_reducible refine' et_and ?_ (fun _ => ?_)
  | with_reducible refine' et_or ?_ (fun _ => ?_)
  | with_reducible refine' et_not ?_
  | with_reducible refine' ea_cons ?_ ?_
  | with_reducible refine' rv_it (by assumption) ?_
  | with_reducible refine' rv_mul ?_
  | with_reducible refine' rv_eq ?_
  | with_reducible refine' rv_ne ?_
  | exact rfl
  | ((with_reducible show CMul _ _); (try dsimp only at *); first | exact Or.inl ⟨by omega, by omega⟩ | exact Or.inr ⟨by omega, by omega⟩)))
section
variable {P : Program} {w : World} {K : PySem.W.Frag} {mg : Str → Option Value} {base : Heap} {ad : String → Addr}
theorem mem_ne {b q : Addr} {M : List Addr} (h : q ∈ M) (n : b ∉ M) : b ≠ q := fun z => n (by rw [z]; exact h)
theorem Mu_sh {la ca b : Addr} {sh S : List Addr} (h : b ∈ sh) : b ∈ Mu la ca sh S := by
  unfold Mu
  exact List.mem_cons_of_mem _ (List.mem_cons_of_mem _ (List.mem_append_left _ h))
theorem Mu_la {la ca : Addr} {sh S : List Addr} : la ∈ Mu la ca sh S := by
  unfold Mu
  exact List.mem_cons_self ..
theorem Mu_ca {la ca : Addr} {sh S : List Addr} : ca ∈ Mu la ca sh S := by
  unfold Mu
  exact List.mem_cons_of_mem _ (List.mem_cons_self ..)
/-- one light hides behind one more coast -/
theorem LsAt.more {H H1 : Hp} {la ca : Addr} {sh S : List Addr} {lv : List V} {ls : List BnC.Light} {f : Nat → List BnC.Coast} {i : Nat} {l : BnC.Light} {q : Addr} {sv : List V} {x : V} {c : BnC.Coast}
    (h : LsAt ad H (Mu la ca sh S) lv sh ls f) (nt : NoTup H (Mu la ca sh S)) (nd : (Mu la ca sh S).Nodup) (hl : ls[i]? = some l) (hq : sh[i]? = some q) (hr : Reps (IsSh (dl H (Mu la ca sh S))) sv ((f i).map (shad l.place)))
    (e : Ex H H1) (hx : IsSh H1 x (shad l.place c)) (fx : Fresh H x) : LsAt ad (upd H1 q (.lst (sv ++ [x]))) (Mu la ca sh S) lv sh ls (fun j => if j = i then f i ++ [c] else f j) := by
  have ndsh : sh.Nodup := by
    unfold Mu at nd
    exact (List.nodup_append.mp (List.nodup_cons.mp (List.nodup_cons.mp nd).2).2).1
  have qM : q ∈ Mu la ca sh S := Mu_sh (List.mem_of_getElem? hq)
  have kp : Kept H (upd H1 q (.lst (sv ++ [x]))) (Mu la ca sh S) := fun b o nb z => by
    rw [upd_ne (mem_ne qM nb)]
    exact e _ _ z
  have kp1 : Kept H1 (upd H1 q (.lst (sv ++ [x]))) (Mu la ca sh S) := fun b o nb z => by
    rw [upd_ne (mem_ne qM nb)]
    exact z
  refine ⟨h.n1, h.n2, fun j m hm => ?_⟩
  obtain ⟨v', q', sv', g1, g2, g3, g4, g5⟩ := h.at_ j m hm
  by_cases c0 : j = i
  · subst c0
    rw [hq] at g2
    cases g2
    rw [hl] at hm
    cases hm
    refine ⟨v', q, sv ++ [x], g1, hq, g3.mono kp.dl, upd_same, ?_⟩
    rw [if_pos rfl, List.map_append]
    exact Reps.add (hr.imp fun v x z => z.mono kp.dl) ((IsSh.dl hx fx e nt).mono kp1.dl)
  · have nq : q' ≠ q := fun z => by
      have e1 := (List.getElem?_eq_some_iff.mp g2).2
      have e2 := (List.getElem?_eq_some_iff.mp hq).2
      exact c0 ((List.getElem_inj ndsh).mp (e1.trans (z.trans e2.symm)))
    refine ⟨v', q', sv', g1, g2, g3.mono kp.dl, ?_, ?_⟩
    · rw [upd_ne nq]
      exact e _ _ g4
    · rw [if_neg c0]
      exact g5.imp fun v x z => z.mono kp.dl
theorem LsAt.congr {H : Hp} {M : List Addr} {lv : List V} {sh : List Addr} {ls : List BnC.Light} {f g : Nat → List BnC.Coast} (h : LsAt ad H M lv sh ls f) (e : ∀ i, i < ls.length → f i = g i) : LsAt ad H M lv sh ls g := by
  refine ⟨h.n1, h.n2, fun i l hl => ?_⟩
  obtain ⟨v, q, sv, h1, h2, h3, h4, h5⟩ := h.at_ i l hl
  exact ⟨v, q, sv, h1, h2, h3, h4, by rw [← e i (List.getElem?_eq_some_iff.mp hl).1]; exact h5⟩
theorem LsAt.keep {H H' : Hp} {M : List Addr} {lv : List V} {sh : List Addr} {ls : List BnC.Light} {f : Nat → List BnC.Coast} (h : LsAt ad H M lv sh ls f) (k : Kept H H' M) (hq : ∀ q ∈ sh, ∀ o, H q = some o → H' q = some o) : LsAt ad H' M lv sh ls f := by
  refine ⟨h.n1, h.n2, fun i l hl => ?_⟩
  obtain ⟨v, q, sv, h1, h2, h3, h4, h5⟩ := h.at_ i l hl
  exact ⟨v, q, sv, h1, h2, h3.mono k.dl, hq q (List.mem_of_getElem? h2) _ h4, h5.imp fun v x z => z.mono k.dl⟩
theorem LsAt.noTup {H : Hp} {M : List Addr} {lv : List V} {sh : List Addr} {ls : List BnC.Light} {f : Nat → List BnC.Coast} (h : LsAt ad H M lv sh ls f) : NoTup H sh := fun b hb => by
  obtain ⟨i, hi⟩ := List.getElem?_of_mem hb
  have lt : i < ls.length := by
    rw [← h.n2]
    exact (List.getElem?_eq_some_iff.mp hi).1
  obtain ⟨v, q, sv, _, g2, _, g4, _⟩ := h.at_ i _ (List.getElem?_eq_getElem lt)
  rw [hi] at g2
  cases g2
  exact ⟨_, g4, fun xs z => by cases z⟩
abbrev s_Chart_coast : Stmt := inClass (top 74) 2
abbrev N_Chart_coast : List Str := ["self", "x", "y", "u", "v", "coast", "light"]
theorem sc_Chart_coast : FnScope N_Chart_coast ["self", "x", "y", "u", "v"] (defScope s_Chart_coast) := ⟨rfl, rfl, rfl, by decide +kernel, rfl, by decide +kernel, by decide +kernel⟩
def sp_Chart_coast (_K : PySem.W.Frag) (ad : String → Addr) : Sp := spCh ad (fun vs _ (c : Int × Int × Int × Int) => vs = [.int c.1, .int c.2.1, .int c.2.2.1, .int c.2.2.2]) fun c => .coast c.1 c.2.1 c.2.2.1 c.2.2.2
theorem ok_Chart_coast (T : Tx K mg ad) (C : Cl_Chart K (ad "Chart")) (D_is_place : Df P w K mg base "is_place" 1 ["place"] sp_is_place) (DM_Light_hide_behind : Dm P w K mg base (ad "Light") "hide_behind" 5 ["self", "coast"] (sp_Light_hide_behind K ad))
    {f : Addr} {fd : FuncData} (F : Fun K "coast" "Chart.coast" s_Chart_coast f fd) : FnOk P w K mg base CX0 6 f fd ["self", "x", "y", "u", "v"] (sp_Chart_coast K ad) := by
  refine F.ok sc_Chart_coast (fun vs H Q E h => ?_) (fun cdv A outer s H vs Q E hr h => ?_)
  · obtain ⟨a, la, ca, sh, S, s, c, rest, rfl, _, rfl, _⟩ := h
    rfl
  · refine ⟨_, (pss_cons (ps_if (PW.pt (pw_or (pt_not (pt_val (pe_df D_is_place (hr.mono (by decide)) (by rfl) (pa_cons (pe_tup (pa_cons (pv 1) (pa_cons (pv 2) pa_nil))) pa_nil)))) (pw_or (pt_not (pt_val (pe_df D_is_place (hr.mono (by decide)) (by rfl) (pa_cons (pe_tup (pa_cons (pv 3) (pa_cons (pv 4) pa_nil))) pa_nil)))) (pw_or1 (pt_cmpR (op_eqD (hu64_of hr)) (pe_tup (pa_cons (pv 1) (pa_cons (pv 2) pa_nil))) (pe_tup (pa_cons (pv 3) (pa_cons (pv 4) pa_nil))) (nomark _)))))) 
        (pss_one (ps_ret (pe_lst (pa_cons (pe_un un_neg pe_int) pa_nil)))) pss_nil)
    (pss_cons (ps_if (pt_cmpR op_eq (pe_callB call_len_seq (by rfl) T.b_len PySem.boot_len (pa_cons (pe_fld (pv 0) rfl) pa_nil)) (pe_gint (by rfl) T.g_MOST_COASTS) (nomark _)) 
        (pss_one (ps_ret (pe_lst (pa_cons (pe_un un_neg pe_int) pa_nil)))) pss_nil)
    (pss_cons (ps_set (i := 5) sc_Chart_coast.nd rfl (Or.inl rfl) (pe_tup (pa_cons (pe_tup (pa_cons (pv 1) (pa_cons (pv 2) pa_nil))) (pa_cons (pe_tup (pa_cons (pv 3) (pa_cons (pv 4) pa_nil))) pa_nil))))
    (pss_cons (ps_expr (pe_bm PySem.F.plainAttrs_list PySem.F.slot_list_append PySem.F.type_list_append mt_append (pe_fld (pv 0) rfl) (pa_cons (pv 5) pa_nil)))
    (pss_cons (ps_for PassesOwn.never rfl (pi_list (pe_fld (pv 0) rfl)) (pg_name (i := 6) sc_Chart_coast.nd rfl (Or.inl rfl)) 
        (pss_one (ps_expr (pe_dm DM_Light_hide_behind (hr.mono (by decide)) (pv 6) (pa_cons (pv 5) pa_nil)))))
    (pss_one (ps_ret (pe_lst (pa_cons (pe_callB call_len_seq (by rfl) T.b_len PySem.boot_len (pa_cons (pe_fld (pv 0) rfl) pa_nil)) pa_nil))))))))), ?_⟩
    obtain ⟨a, la, ca, sh, S, s, ⟨x, y, u, v⟩, rest, rfl, hc, rfl, k⟩ := h
    dsimp only at k
    rw [coast_is] at k
    -- the chart as it was
    have same : ∀ n : Int, (Wqatdz.step s (.coast x y u v)) = (s, Wqatdz.says n) → ∀ v' H', Ex H H' → NewL H H' v' [.int n] → Q v' H' := fun n hn v' H' e hv => by
      rw [← coast_is, hn] at k
      exact k _ _ la ca sh (hc.mono e) (Left.of e) hv
    have hst := coast_is s x y u v
    refine q_when (b := (!placeB (x, y)) || ((!placeB (u, v)) || (decide (x = u) && decide (y = v)))) (et_or (et_not (et_B (ev_place rfl rfl))) fun _ => et_or (et_not (et_B (ev_place rfl rfl))) fun _ => et_test (ev_eqNew rfl rfl rfl rfl)) (fun q H1 e1 => ?_) fun q H1 e1 => ?_
    · rw [← Bool.or_assoc] at q
      rw [if_pos q] at hst
      refine s_num (n := -1) (ev_un ev_c ru_neg) e1 fun v' H2 e2 hv => ?_
      exact same (-1) hst v' H2 e2 hv
    · rw [← Bool.or_assoc] at q
      rw [if_neg (by rw [q]; decide)] at hst k
      obtain ⟨cv, h5, h6⟩ := hc.cs
      have hc1 := hc.mono e1
      refine q_when (b := decide (s.coasts.length = 64)) (et_test (ev_is (ev_op (len_lst (ev_coasts C hc1 rfl) (e1 _ _ h5) h6) ev_c (rv_eq rfl)) ?_)) (fun q2 H2 e2 => ?_) fun q2 H2 e2 => ?_
      · rw [int_eq]
        congr 1
        rw [decide_eq_decide]
        omega
      · have q2 := of_decide_eq_true q2
        rw [if_pos (by omega)] at hst
        exact s_num (n := -5) (ev_un ev_c ru_neg) (e1.trans e2) fun v' H3 e3 hv => same (-5) hst v' H3 e3 hv
      · have q2 := of_decide_eq_false q2
        have hle := hc.cl
        rw [if_neg (by omega)] at k
        have e02 := e1.trans e2
        have hc2 := hc.mono e02
        simp only [Bool.or_eq_false_iff, Bool.not_eq_false', Bool.and_eq_false_iff, decide_eq_false_iff_not] at q
        obtain ⟨dx, hme⟩ := hc.me
        -- coast = ((x, y), (u, v))
        refine ⟨_, rfl, _, rfl, (by show 2 ≤ sizeLine; decide), fun p1 hp1 => ⟨_, rfl, _, rfl, (by show 2 ≤ sizeLine; decide), fun p2 hp2 => ⟨(by show 2 ≤ sizeLine; decide), fun p3 hp3 => ?_⟩⟩⟩
        have n1 := Ex.new (o := .tup [V.int x, V.int y]) hp1
        have n2 := Ex.new (o := .tup [V.int u, V.int v]) hp2
        have n3 := Ex.new (o := .tup [V.ref p1, V.ref p2]) hp3
        have e3 := e02.trans (n1.trans (n2.trans n3))
        have hca3 := e3 _ _ h5
        have hcne : (x, y) ≠ (u, v) := fun z => by
          cases z
          rcases q.2 with q | q <;> exact q rfl
        have co3 : IsCo (upd (upd (upd H2 p1 (.tup [V.int x, V.int y])) p2 (.tup [V.int u, V.int v])) p3 (.tup [V.ref p1, V.ref p2])) (.ref p3) ((x, y), (u, v)) :=
          ⟨⟨_, _, ⟨p3, rfl, upd_same⟩, ⟨p1, rfl, n3 _ _ (n2 _ _ upd_same)⟩, ⟨p2, rfl, n3 _ _ upd_same⟩⟩, near_place (by rw [← placeB_is]; exact q.1.1), near_place (by rw [← placeB_is]; exact q.1.2), hcne⟩
        generalize upd (upd (upd H2 p1 (.tup [V.int x, V.int y])) p2 (.tup [V.int u, V.int v])) p3 (.tup [V.ref p1, V.ref p2]) = H3 at e3 hca3 co3 ⊢
        dsimp only [gName]
        have hc3 := hc.mono e3
        have nt3 := hc3.noTup
        have a3 := e3 _ _ hme
        have naM := hc.self
        have nca : a ≠ ca := mem_ne Mu_ca naM
        -- self.coasts.append(coast)
        refine ⟨_, rfl, a, _, dx, _, _, rfl, a3, C.cl, C.n_coasts, cF_coasts, .inl ⟨rfl, _, sq_of hca3⟩, _, rfl, ca, cv, _, rfl, rfl, hca3, Nat.lt_of_lt_of_le (by rw [h6.1]; omega) (show 100 ≤ sizeLine by decide), ?_⟩
        dsimp only
        have kpA : Kept H3 (upd H3 ca (.lst (cv ++ [V.ref p3]))) (Mu la ca sh S) := fun b o nb z => by rw [upd_ne (mem_ne Mu_ca nb)]; exact z
        have ndu : la ∉ ca :: (sh ++ S) ∧ ca ∉ sh ++ S := by
          have := hc.nd
          unfold Mu at this
          exact ⟨(List.nodup_cons.mp this).1, (List.nodup_cons.mp (List.nodup_cons.mp this).2).1⟩
        have nlc : la ≠ ca := fun z => ndu.1 (by rw [z]; exact List.mem_cons_self ..)
        have ncs : ∀ b ∈ sh ++ S, b ≠ ca := fun b hb => (mem_ne hb ndu.2).symm
        obtain ⟨lv, h3, h4⟩ := hc3.ls
        obtain ⟨cv', h5', h6'⟩ := hc3.cs
        rw [hca3] at h5'
        cases h5'
        have hla4 : upd H3 ca (.lst (cv ++ [V.ref p3])) la = some (.lst lv) := by rw [upd_ne nlc]; exact h3
        have hca4 : upd H3 ca (.lst (cv ++ [V.ref p3])) ca = some (.lst (cv ++ [V.ref p3])) := upd_same
        have hme4 : upd H3 ca (.lst (cv ++ [V.ref p3])) a = some (.ins (ad "Chart") dx (cF la ca)) := by rw [upd_ne nca]; exact a3
        have hls4 : LsAt ad (upd H3 ca (.lst (cv ++ [V.ref p3]))) (Mu la ca sh S) lv sh s.lights fun _ => s.coasts := h4.keep kpA fun q hq o z => by rw [upd_ne (ncs q (List.mem_append_left _ hq))]; exact z
        have co4 : IsCo (dl (upd H3 ca (.lst (cv ++ [V.ref p3]))) (Mu la ca sh S)) (.ref p3) ((x, y), (u, v)) := by
          obtain ⟨⟨xx, yy, g1, g2, g3⟩, g4⟩ := co3
          exact IsCo.mono ⟨⟨xx, yy, g1.dl nt3, g2.dl nt3, g3.dl nt3⟩, g4⟩ kpA.dl
        have hcs4 : Reps (IsCo (dl (upd H3 ca (.lst (cv ++ [V.ref p3]))) (Mu la ca sh S))) (cv ++ [V.ref p3]) (s.coasts ++ [((x, y), (u, v))]) := Reps.add (h6'.imp fun v x q => q.mono kpA.dl) co4
        have nt4 : NoTup (upd H3 ca (.lst (cv ++ [V.ref p3]))) (Mu la ca sh S) := fun b hb => by
          by_cases z : b = ca
          · rw [z]
            exact ⟨_, upd_same, fun xs z => by cases z⟩
          · obtain ⟨o, o1, o2⟩ := nt3 b hb
            exact ⟨o, by rw [upd_ne z]; exact o1, o2⟩
        have fr4 : ∀ b o, b ∉ la :: ca :: sh → H b = some o → upd H3 ca (.lst (cv ++ [V.ref p3])) b = some o := fun b o nb z => by
          rw [upd_ne (mem_ne (q := ca) (by simp) nb)]
          exact e3 _ _ z
        have nw4 : ∀ p, upd H3 ca (.lst (cv ++ [V.ref p3])) p = none → H p = none := fun p hp => by
          refine fresh_back e3 ?_
          by_cases z : p = ca
          · rw [z, upd_same] at hp
            cases hp
          · rw [upd_ne z] at hp
            exact hp
        generalize upd H3 ca (.lst (cv ++ [V.ref p3])) = H4 at hla4 hca4 hme4 hls4 co4 hcs4 nt4 fr4 nw4 ⊢
        -- for light in self.lights: light.hide_behind(coast)
        refine ⟨_, rfl, a, _, dx, _, _, rfl, hme4, C.cl, C.n_lights, cF_lights, la, rfl, ⟨_, sq_of hla4⟩, for_it (walk_list (K := K) (a := la) (xs := lv)) (fun i σ H' => ∃ (y6 : Option V), σ = [some (.ref a), some (.int x), some (.int y), some (.int u), some (.int v), some (.ref p3), y6] ∧ H' la = some (.lst lv) ∧ H' ca = some (.lst (cv ++ [V.ref p3])) ∧
            H' a = some (.ins (ad "Chart") dx (cF la ca)) ∧ NoTup H' (Mu la ca sh S) ∧ Kept H4 H' (la :: ca :: sh) ∧ (∀ p, H' p = none → H p = none) ∧ LsAt ad H' (Mu la ca sh S) lv sh s.lights (fun j => if j < i then s.coasts ++ [((x, y), (u, v))] else s.coasts))
          ⟨none, rfl, hla4, hca4, hme4, nt4, Kept.of (Ex.refl _), nw4, hls4.congr fun j _ => by rw [if_neg (by omega)]⟩ ?_ ?_ ?_⟩
        · rintro i σ H' hi ⟨y6, rfl, g1, _⟩
          exact sq_of g1
        · rintro i v' σ H5 H6 hi ⟨y6, rfl, g1, g2, g3, g4, g5, g6, g7⟩ ⟨rfl, hxi⟩
          have lt : i < s.lights.length := by rw [← g7.n1]; exact hi
          obtain ⟨vl, q', sv, f1, f2, f3, f4, f5⟩ := g7.at_ i _ (List.getElem?_eq_getElem lt)
          rw [hxi] at f1
          cases f1
          have f3' := f3.mono (dl_sub)
          obtain ⟨⟨pl, dxl, vp, vh, vc, rfl, hpl, _⟩, _⟩ := id f3'
          have kM : Kept H4 H6 (Mu la ca sh S) := fun b o nb z => g5 b o (fun y => nb (by
            rcases List.mem_cons.mp y with y | y
            · rw [y]; exact Mu_la
            rcases List.mem_cons.mp y with y | y
            · rw [y]; exact Mu_ca
            exact Mu_sh y)) z
          have co6 : IsCo H6 (.ref p3) ((x, y), (u, v)) := (co4.mono kM.dl).mono dl_sub
          rw [if_neg (Nat.lt_irrefl _)] at f5
          dsimp only [gName]
          have hsl : sv.length ≤ 64 := by rw [f5.1, List.length_map]; exact hle
          refine ⟨_, rfl, pl, dxl, _, rfl, hpl, lF_none (by decide +kernel) (by decide +kernel) (by decide +kernel) (by decide +kernel) (by decide +kernel), _, rfl, _, _, s.lights[i], ((x, y), (u, v)), q', sv, rfl, f3', co6, f4, hsl, fun x' H7 e7 hx' fx' => ?_⟩
          have ndM := hc.nd
          have qsh : q' ∈ sh := List.mem_of_getElem? f2
          have nql : la ≠ q' := mem_ne (List.mem_cons_of_mem _ (List.mem_append_left _ qsh)) ndu.1
          have nqc : ca ≠ q' := (ncs q' (List.mem_append_left _ qsh)).symm
          have nqa : a ≠ q' := mem_ne (Mu_sh qsh) naM
          refine ⟨_, rfl, by rw [upd_ne nql]; exact e7 _ _ g1, by rw [upd_ne nqc]; exact e7 _ _ g2, by rw [upd_ne nqa]; exact e7 _ _ g3, fun b hb => ?_, fun b o nb z => ?_, fun p hp => ?_, ?_⟩
          · by_cases z : b = q'
            · rw [z]
              exact ⟨_, upd_same, fun xs z => by cases z⟩
            · obtain ⟨o, o1, o2⟩ := g4 b hb
              exact ⟨o, by rw [upd_ne z]; exact e7 _ _ o1, o2⟩
          · rw [upd_ne (mem_ne (List.mem_cons_of_mem _ (List.mem_cons_of_mem _ qsh)) nb)]
            exact e7 _ _ (g5 b o nb z)
          · refine g6 p ?_
            by_cases z : p = q'
            · rw [z, upd_same] at hp
              cases hp
            · rw [upd_ne z] at hp
              exact fresh_back e7 hp
          · refine (LsAt.more g7 g4 ndM (List.getElem?_eq_getElem lt) f2 (by rw [if_neg (Nat.lt_irrefl _)]; exact f5) e7 hx' fx').congr fun j hj => ?_
            rw [if_neg (Nat.lt_irrefl _)]
            by_cases z : j = i
            · rw [if_pos z, if_pos (by omega)]
            · rw [if_neg z]
              by_cases z2 : j < i
              · rw [if_pos z2, if_pos (by omega)]
              · rw [if_neg z2, if_neg (by omega)]
        · rintro σ H5 ⟨y6, rfl, g1, g2, g3, g4, g5, g6, g7⟩
          have kM : Kept H4 H5 (Mu la ca sh S) := fun b o nb z => g5 b o (fun y => nb (by
            rcases List.mem_cons.mp y with y | y
            · rw [y]; exact Mu_la
            rcases List.mem_cons.mp y with y | y
            · rw [y]; exact Mu_ca
            exact Mu_sh y)) z
          have new : ChartAt ad H5 a la ca sh S { s with coasts := s.coasts ++ [((x, y), (u, v))] } := by
            refine ⟨⟨dx, g3⟩, hc.nd, fun b hb => g4 b ?_, hc.na, ⟨lv, g1, g7.congr fun j hj => ?_⟩, ⟨_, g2, hcs4.imp fun v x q => q.mono kM.dl⟩, hc.ll, ?_⟩
            · unfold Mu
              exact List.mem_cons_of_mem _ (List.mem_cons_of_mem _ (List.mem_append_right _ hb))
            · rw [if_pos (by rw [g7.n1]; exact hj)]
            · show (s.coasts ++ [((x, y), (u, v))]).length ≤ 64
              rw [List.length_append]
              show s.coasts.length + 1 ≤ 64
              omega
          dsimp only
          refine s_retL (xs := [.int ((s.coasts.length + 1 : Nat) : Int)]) (el_lst (ea_cons (ev_is (ev_len (ev_coasts C new rfl) (sq_of g2)) ?_) ea_nil) (by simp)) fun p H6 hp e6 h6x => ?_
          · rw [List.length_append, h6.1]
            rfl
          · refine k _ _ la ca sh (new.mono e6) ⟨fun b o _ nb z => e6 _ _ (g5 b o nb (fr4 b o nb z)), fun b hb => .inl hb⟩ ⟨p, rfl, g6 p hp, h6x⟩
end
end Bc

namespace Bc
open PySem PySem.Spec PyProof.Rows L2 Evl
local macro_rules | `(tactic| walk_at "ev") => `(tactic| repeat' (first
  | with_reducible exact ev_c
  | with_reducible exact rv_I0
  | with_reducible exact ru_neg
  | with_reducible exact ea_nil
  | with_reducible refine' ev_var ?_
  | with_reducible refine' ev_chain ?_ ?_ ?_ ?_ ?_
  | with_reducible refine' ev_op ?_ ?_ ?_
  | with_reducible refine' ev_un ?_ ?_
  | with_reducible refine' ev_andV ?_ (fun _ => ?_)
  | with_reducible refine' ev_orV ?_ (fun _ => ?_)
  | with_reducible refine' ev_notV ?_
  | with_reducible refine' et_test ?_
  | with_reducible refine' et_B ?_
  | with_reducible refine' et_and ?_ (fun _ => ?_)
  | with_reducible refine' et_or ?_ (fun _ => ?_)
  | with_reducible refine' et_not ?_
  | with_reducible refine' ea_cons ?_ ?_
  | with_reducible refine' rv_it (by assumption) ?_
  | with_reducible refine' rv_mul ?_
  | with_reducible refine' rv_eq ?_
  | with_reducible refine' rv_ne ?_
  | exact rfl
  | ((with_reducible show CMul _ _); (try dsimp only at *); first | exact Or.inl ⟨by omega, by omega⟩ | exact Or.inr ⟨by omega, by omega⟩)))
section
variable {P : Program} {w : World} {K : PySem.W.Frag} {mg : Str → Option Value} {base : Heap} {ad : String → Addr}
theorem Fresh.ne {H : Hp} {v : V} {q : Addr} {o : HO} (f : Fresh H v) (h : H q = some o) : v ≠ .ref q := fun z => by
  rw [f q z] at h
  cases h
theorem Fresh.mono {H H' : Hp} {v : V} (f : Fresh H' v) (e : Ex H H') : Fresh H v := fun q z => fresh_back e (f q z)
abbrev s_Chart_light : Stmt := inClass (top 74) 1
abbrev N_Chart_light : List Str := ["self", "x", "y", "reach", "text", "numbers", "sectors", "phases", "fault"]
theorem sc_Chart_light : FnScope N_Chart_light ["self", "x", "y", "reach", "text", "numbers"] (defScope s_Chart_light) := ⟨rfl, rfl, rfl, by decide +kernel, rfl, by decide +kernel, by decide +kernel⟩
def sp_Chart_light (_K : PySem.W.Frag) (ad : String → Addr) : Sp := spCh ad (fun vs H (c : Int × Int × Nat × List UInt8 × List Int) => (∃ tv nv, vs = [.int c.1, .int c.2.1, .int (c.2.2.1 : Nat), tv, nv] ∧ IsBy H tv c.2.2.2.1 ∧ IsL H nv (c.2.2.2.2.map V.int)) ∧ c.2.2.2.2.length ≤ 30000) fun c => .light c.1 c.2.1 c.2.2.1 c.2.2.2.1 c.2.2.2.2
theorem ok_Chart_light (T : Tx K mg ad) (C : Cl_Chart K (ad "Chart")) (D_read_sectors : Df P w K mg base "read_sectors" 4 ["numbers"] sp_read_sectors) (D_is_place : Df P w K mg base "is_place" 1 ["place"] sp_is_place)
    (D_read_rhythm : Df P w K mg base "read_rhythm" 3 ["text"] sp_read_rhythm) (D_is_white_and_dark : Df P w K mg base "is_white_and_dark" 1 ["phases"] sp_is_white_and_dark)
    (MK_Light : Dk P w K mg base "Light" (ad "Light") 5 ["self", "place", "reach", "phases", "sectors", "coasts"] (sp_Light_init K ad))
    {f : Addr} {fd : FuncData} (F : Fun K "light" "Chart.light" s_Chart_light f fd) : FnOk P w K mg base CX0 7 f fd ["self", "x", "y", "reach", "text", "numbers"] (sp_Chart_light K ad) := by
  refine F.ok sc_Chart_light (fun vs H Q E h => ?_) (fun cdv A outer s H vs Q E hr h => ?_)
  · obtain ⟨a, la, ca, sh, S, s, c, rest, rfl, _, ⟨⟨tv, nv, rfl, _⟩, _⟩, _⟩ := h
    rfl
  · refine ⟨_, (pss_cons (ps_set (i := 6) sc_Chart_light.nd rfl (Or.inl rfl) (pe_df D_read_sectors (hr.mono (by decide)) (by rfl) (pa_cons (pv 5) pa_nil)))
    (pss_cons (ps_if (PW.pt (pw_or (pt_not (pt_val (pe_df D_is_place (hr.mono (by decide)) (by rfl) (pa_cons (pe_tup (pa_cons (pv 1) (pa_cons (pv 2) pa_nil))) pa_nil)))) (pw_or (pt_cmpR op_lt (pv 3) pe_int (nomark _)) (pw_or (pt_cmpR op_gt (pv 3) (pe_gint (by rfl) T.g_LONGEST_REACH) (nomark _)) (pw_or1 (pt_cmpR op_isN (pv 6) pe_non (nomark _))))))) 
        (pss_one (ps_ret (pe_lst (pa_cons (pe_un un_neg pe_int) pa_nil)))) pss_nil)
    (pss_cons (ps_if (pt_cmpR op_gt (pe_callB call_len_seq (by rfl) T.b_len PySem.boot_len (pa_cons (pv 4) pa_nil)) (pe_gint (by rfl) T.g_MOST_BYTES) (nomark _)) 
        (pss_one (ps_ret (pe_lst (pa_cons (pe_un un_neg pe_int) pa_nil)))) pss_nil)
    (pss_cons (ps_asg (pe_df D_read_rhythm (hr.mono (by decide)) (by rfl) (pa_cons (pv 4) pa_nil)) (pg_tup rfl (pgs_cons (pg_name (i := 7) sc_Chart_light.nd rfl (Or.inl rfl)) (pgs_cons (pg_name (i := 8) sc_Chart_light.nd rfl (Or.inl rfl)) pgs_nil))))
    (pss_cons (ps_if (pt_cmpR op_notN (pv 8) pe_non (nomark _)) 
        (pss_one (ps_ret (pe_lst (pa_cons (pe_un un_neg pe_int) (pa_cons (pv 8) pa_nil))))) pss_nil)
    (pss_cons (ps_if (pt_not (pt_val (pe_df D_is_white_and_dark (hr.mono (by decide)) (by rfl) (pa_cons (pv 7) pa_nil)))) 
        (pss_one (ps_ret (pe_lst (pa_cons (pe_un un_neg pe_int) pa_nil)))) pss_nil)
    (pss_cons (ps_if (pt_cmpR op_eq (pe_callB call_len_seq (by rfl) T.b_len PySem.boot_len (pa_cons (pe_fld (pv 0) rfl) pa_nil)) (pe_gint (by rfl) T.g_MOST_LIGHTS) (nomark _)) 
        (pss_one (ps_ret (pe_lst (pa_cons (pe_un un_neg pe_int) pa_nil)))) pss_nil)
    (pss_cons (ps_expr (pe_bm PySem.F.plainAttrs_list PySem.F.slot_list_append PySem.F.type_list_append mt_append (pe_fld (pv 0) rfl) (pa_cons (pe_mk MK_Light (hr.mono (by decide)) (by rfl) (pa_cons (pe_tup (pa_cons (pv 1) (pa_cons (pv 2) pa_nil))) (pa_cons (pv 3) (pa_cons (pv 7) (pa_cons (pv 6) (pa_cons (pe_fld (pv 0) rfl) pa_nil)))))) pa_nil)))
    (pss_one (ps_ret (pe_lst (pa_cons (pe_op op_sub (pe_callB call_len_seq (by rfl) T.b_len PySem.boot_len (pa_cons (pe_fld (pv 0) rfl) pa_nil)) pe_int) pa_nil)))))))))))), ?_⟩
    obtain ⟨a, la, ca, sh, S, s, ⟨x, y, r, b, ns⟩, rest, rfl, hc, ⟨⟨tv, nv, rfl, hb, hn⟩, hlen⟩, k⟩ := h
    dsimp only at k hb hn hlen
    have hst : Wqatdz.step s (.light x y r b ns) = Wqatdz.lightOf s (x, y) r b ns := rfl
    rw [hst] at k
    have li := light_is s (x, y) r b ns
    -- the chart as it was, one number or two
    have same : ∀ (n : Int) (l : List Int), Wqatdz.lightOf s (x, y) r b ns = (s, ⟨n, l⟩) → ∀ v' H', Ex H H' → NewL H H' v' ((n :: l).map V.int) → Q v' H' := fun n l hn v' H' e hv => by
      rw [hn] at k
      exact k _ _ la ca sh (hc.mono e) (Left.of e) hv
    refine ⟨_, rfl, ns, ⟨⟨_, rfl, hn⟩, hlen⟩, fun vs H1 e1 hv hf => ?_⟩
    dsimp only [gName]
    refine q_when (b := !placeB (x, y) || (decide ((r : Int) < 1) || (decide (20000 < (r : Int)) || (readSecs ns).isNone))) (et_or (et_not (et_B (ev_place rfl rfl))) fun _ => et_or (et_test (ev_op (ev_var rfl) ev_c rv_I0)) fun _ => et_or (et_test (ev_op (ev_var rfl) ev_c rv_I0)) fun _ => et_test (ev_op (ev_var rfl) ev_c ?_)) (fun q H2 e2 => ?_) fun q H2 e2 => ?_
    · intro H2 e2 Q' q'
      refine ⟨rfl, ?_⟩
      have : decide (vs = V.non) = (readSecs ns).isNone := by
        cases hs : readSecs ns with
        | none =>
          rw [hs] at hv
          exact decide_eq_true hv
        | some c =>
          rw [hs] at hv
          obtain ⟨p, _, rfl, _⟩ := hv
          exact decide_eq_false (fun z => nomatch z)
      rw [this]
      exact q' _ (Ex.refl _)
    · have q : ((!placeB (x, y) || (decide ((r : Int) < 1) || decide (20000 < (r : Int)))) || (readSecs ns).isNone) = true := by
        rw [← q, Bool.or_assoc, Bool.or_assoc]
      rw [if_pos q] at li
      exact s_num (n := -1) (ev_un ev_c ru_neg) (e1.trans e2) fun v' H3 e3 hv => same (-1) [] li v' H3 e3 hv
    · have q' : ((!placeB (x, y) || (decide ((r : Int) < 1) || decide (20000 < (r : Int)))) || (readSecs ns).isNone) = false := by
        rw [← q, Bool.or_assoc, Bool.or_assoc]
      rw [if_neg (by rw [q']; decide)] at li
      simp only [Bool.or_eq_false_iff, Bool.not_eq_false', decide_eq_false_iff_not] at q
      have e02 := e1.trans e2
      cases hs : readSecs ns with
      | none => rw [hs] at q; exact absurd q.2.2.2 (by decide)
      | some c =>
      rw [hs] at hv li
      have hv : IsSecs H1 vs c := hv
      dsimp only at li
      have lenT : ∀ {σ : L2.St} {H' : Hp}, σ[4]? = some (some tv) → Ex H H' → Ev (tCB (rLenS K) (tCons (tVar 4) tNil)) σ H' (.int (b.length : Int)) := fun h e => by
        obtain ⟨p, rfl, hp⟩ := hb
        exact ev_is (ev_len (ev_var h) (sq_of (e _ _ hp))) (by rw [List.length_map])
      refine q_when (b := decide (1024 < (b.length : Int))) (et_test (ev_op (lenT rfl e02) ev_c rv_I0)) (fun q2 H3 e3 => ?_) fun q2 H3 e3 => ?_
      · rw [if_pos (by have := of_decide_eq_true q2; omega)] at li
        exact s_num (n := -2) (ev_un ev_c ru_neg) (e02.trans e3) fun v' H4 e4 hv => same (-2) [] li v' H4 e4 hv
      · have q2 := of_decide_eq_false q2
        rw [if_neg (by omega)] at li
        have e03 := e02.trans e3
        -- phases, fault = read_rhythm(text)
        refine ⟨_, rfl, b, ⟨⟨_, rfl, hb.mono e03⟩, by omega⟩, fun vr H4 e4 hvr => ?_⟩
        rw [read_is] at hvr
        have e04 := e03.trans e4
        cases hrr : Bn.readRhythm b with
        | error kf =>
          rw [hrr] at hvr li
          obtain ⟨xv, ⟨pr, rfl, hpr⟩, _⟩ := hvr
          dsimp only at li
          refine ⟨pr, _, rfl, st_of hpr, rfl, _, _, rfl, _, _, rfl, rfl, ?_⟩
          dsimp only
          refine q_when (b := true) (et_test (ev_op (ev_var rfl) ev_c fun H2 e2 Q' q' => ⟨rfl, q' _ (Ex.refl _)⟩)) (fun _ H5 e5 => ?_) fun z => absurd z (by decide)
          refine s_retL (xs := [.int (-6), .int kf]) (el_lst (ea_cons (ev_un ev_c ru_neg) (ea_cons (ev_var rfl) ea_nil)) (by simp)) fun p H6 hp e6 h6 => ?_
          exact same (-6) [Wqatdz.int kf] li _ H6 (e04.trans (e5.trans e6)) ⟨p, rfl, fresh_back (e04.trans e5) hp, h6⟩
        | ok h =>
          rw [hrr] at hvr li
          obtain ⟨xv, ⟨pr, rfl, hpr⟩, hph, hfr⟩ := hvr
          dsimp only at li
          have fit := read_fits hrr
          refine ⟨pr, _, rfl, st_of hpr, rfl, _, _, rfl, _, _, rfl, rfl, ?_⟩
          dsimp only
          refine q_when (b := false) (et_test (ev_op (ev_var rfl) ev_c fun H2 e2 Q' q' => ⟨rfl, q' _ (Ex.refl _)⟩)) (fun z => absurd z (by decide)) fun _ H5 e5 => ?_
          have e05 := e04.trans e5
          refine q_when (b := !!(h.any fun x => decide (1 < x.1))) (et_not (et_B (ev_is (ev_fn (h.map ofPhase) (vs := [xv]) (ea_cons (ev_var rfl) ea_nil) (fun H6 e6 => ⟨_, rfl, hph.mono (e5.trans e6)⟩) fun v H1 h => h) (congrArg V.bl (plain_is fit))))) (fun q3 H6 e6 => ?_) fun q3 H6 e6 => ?_
          · rw [Bool.not_not] at q3
            rw [if_pos q3] at li
            exact s_num (n := -8) (ev_un ev_c ru_neg) (e05.trans e6) fun v' H4 e4 hv => same (-8) [] li v' H4 e4 hv
          · rw [Bool.not_not] at q3
            rw [if_neg (by rw [q3]; decide)] at li
            have e06 := e05.trans e6
            have hc6 := hc.mono e06
            obtain ⟨lv, h3, h4⟩ := hc.ls
            refine q_when (b := decide (s.lights.length = 24)) (et_test (ev_is (ev_op (len_lv (ev_lights C hc6 rfl) (e06 _ _ h3) h4.n1) ev_c (rv_eq rfl)) ?_)) (fun q4 H7 e7 => ?_) fun q4 H7 e7 => ?_
            · rw [int_eq]
              congr 1
              rw [decide_eq_decide]
              omega
            · have q4 := of_decide_eq_true q4
              rw [if_pos (by omega)] at li
              exact s_num (n := -5) (ev_un ev_c ru_neg) (e06.trans e7) fun v' H4 e4 hv => same (-5) [] li v' H4 e4 hv
            · have q4 := of_decide_eq_false q4
              have hle := hc.ll
              rw [if_neg (by omega)] at li
              rw [li] at k
              have e07 := e06.trans e7
              have hc7 := hc.mono e07
              obtain ⟨dx, hme⟩ := hc.me
              -- self.lights.append(Light((x, y), reach, phases, sectors, self.coasts))
              refine ⟨_, rfl, a, _, dx, _, _, rfl, e07 _ _ hme, C.cl, C.n_lights, cF_lights, .inl ⟨rfl, _, sq_of (e07 _ _ h3)⟩, _, rfl, _, rfl, (by show 2 ≤ sizeLine; decide), fun pp hpp => ⟨_, rfl, _, rfl, _, rfl, _, rfl, a, _, dx, _, _, rfl, Ex.new hpp _ _ (e07 _ _ hme), C.cl, C.n_coasts, cF_coasts, fun pi dxi nx nd ne => ?_⟩⟩
              have n1 := Ex.new (o := .tup [V.int x, V.int y]) hpp
              have nxd := Ex.new (o := .own pi) nd
              have nxp : (upd (upd H7 pp (.tup [V.int x, V.int y])) dxi (.own pi)) pi = none := by rw [upd_ne ne.symm]; exact nx
              have n12 := n1.trans (nxd.trans (Ex.new (o := .ins (ad "Light") dxi []) nxp))
              have hc7' := hc7.mono n12
              have okp : Near 10000 (x, y) := near_place (by rw [← placeB_is]; exact q.1)
              refine ⟨pi, dxi, _, _, _, _, _, (x, y), s.coasts, rfl, upd_same, ⟨pp, rfl, (nxd.trans (Ex.new (o := .ins (ad "Light") dxi []) nxp)) _ _ upd_same⟩, okp, hc7'.coasts, hc.cl, fun H8 qs sv h8 hq8 nq8 hsv kp8 => ⟨rfl, ?_⟩⟩
              have kpE : Ex (upd H7 pp (.tup [V.int x, V.int y])) H8 := fun q o z => kp8 q o (by rw [upd_ne (ne_of_none z nx), upd_ne (ne_of_none z nd)]; exact z) (ne_of_none z nx)
              have e78 : Ex H7 H8 := n1.trans kpE
              have tp : IsPt H8 (.ref pp) (x, y) := ⟨pp, rfl, kpE _ _ upd_same⟩
              have e08 := e07.trans e78
              have hc8 := hc.mono e08
              have hla := e08 _ _ h3
              obtain ⟨cv, h5, h6⟩ := hc.cs
              have hca := e08 _ _ h5
              -- what is new is none of the chart's lists
              have nq7 : H7 qs = none := fresh_back n12 nq8
              have nqH : H qs = none := fresh_back e07 nq7
              have npi7 : H7 pi = none := fresh_back n1 nx
              have npiH : H pi = none := fresh_back e07 npi7
              have npq : pi ≠ qs := fun z => by rw [z, hq8] at h8; cases h8
              have qM : qs ∉ Mu la ca sh S := hc.fresh nqH
              have pM : pi ∉ Mu la ca sh S := hc.fresh npiH
              have hM' : ∀ b, b ∈ Mu la ca (sh ++ [qs]) S → b ∈ Mu la ca sh S ∨ b = qs := fun b hb => by
                unfold Mu at hb ⊢
                simp only [List.mem_cons, List.mem_append, List.not_mem_nil, or_false] at hb ⊢
                rcases hb with z | z | (z | z) | z
                · exact .inl (.inl z)
                · exact .inl (.inr (.inl z))
                · exact .inl (.inr (.inr (.inl z)))
                · exact .inr z
                · exact .inl (.inr (.inr (.inr z)))
              have nd' : (Mu la ca (sh ++ [qs]) S).Nodup := by
                have h0 : (qs :: Mu la ca sh S).Nodup := List.nodup_cons.mpr ⟨qM, hc.nd⟩
                refine (List.Perm.nodup_iff ?_).mp h0
                unfold Mu
                rw [List.append_assoc]
                have p1 : (qs :: la :: ca :: (sh ++ S)).Perm (la :: qs :: ca :: (sh ++ S)) := List.Perm.swap ..
                have p2 : (la :: qs :: ca :: (sh ++ S)).Perm (la :: ca :: qs :: (sh ++ S)) := (List.Perm.swap ..).cons la
                exact (p1.trans p2).trans ((List.perm_middle.symm.cons ca).cons la)
              have kM : ∀ {H9 : Hp} {lx : List V}, H9 = upd H8 la (.lst lx) → Ex (dl H (Mu la ca sh S)) (dl H9 (Mu la ca (sh ++ [qs]) S)) := fun {H9 lx} z b o hb => by
                have nb := dl_ne hb
                have hb0 := dl_sub _ _ hb
                rw [z]
                refine dl_at ?_ fun y => ?_
                · rw [upd_ne (mem_ne Mu_la nb)]
                  exact e08 _ _ hb0
                · rcases hM' b y with y | y
                  · exact nb y
                  · rw [y, nqH] at hb0
                    cases hb0
              have nt8 : NoTup H8 (Mu la ca (sh ++ [qs]) S) := fun b hb => by
                rcases hM' b hb with y | y
                · exact hc8.noTup b y
                · rw [y]
                  exact ⟨_, hq8, fun xs z => by cases z⟩
              have k89 : Kept H8 (upd H8 la (.lst (lv ++ [V.ref pi]))) (Mu la ca (sh ++ [qs]) S) := fun b o nb z => by
                rw [upd_ne (mem_ne Mu_la nb)]
                exact z
              refine ⟨la, lv, _, rfl, rfl, hla, Nat.lt_of_lt_of_le (by rw [h4.n1]; omega) (show 100 ≤ sizeLine by decide), ?_⟩
              obtain ⟨hs1, hs2, hs3⟩ := secs_ok hs
              have okl : LOk ⟨(x, y), r, h, c⟩ := ⟨okp, ⟨by show 1 ≤ r; omega, by show r ≤ 20000; omega⟩, plain_of fit q3, hs1, hs2, hs3⟩
              have na : a ≠ la := mem_ne Mu_la hc.self
              have qla : qs ≠ la := (mem_ne Mu_la qM)
              have fph : IsPhs H8 xv (h.map ofPhase) := hph.mono ((e5.trans (e6.trans e7)).trans e78)
              have fse : IsSecs H8 vs c := hv.mono ((e2.trans (e3.trans (e4.trans (e5.trans (e6.trans e7))))).trans e78)
              have out : ∀ {b : Addr} {o : HO}, H7 b = some o → H b = none → b ∉ Mu la ca (sh ++ [qs]) S := fun {b o} h7 hn y => by
                rcases hM' b y with y | y
                · exact hc.fresh hn y
                · rw [y, nq7] at h7
                  cases h7
              have new : ChartAt ad (upd H8 la (.lst (lv ++ [V.ref pi]))) a la ca (sh ++ [qs]) S { s with lights := s.lights ++ [⟨(x, y), r, h, c⟩] } := by
                refine ⟨⟨dx, by rw [upd_ne na]; exact e08 _ _ hme⟩, nd', fun b hb => ?_, hc.na, ⟨_, upd_same, ?_, ?_, ?_⟩, ⟨cv, ?_, h6.imp fun v x q => q.mono (kM rfl)⟩, ?_, hc.cl⟩
                · obtain ⟨o, o1, o2⟩ := hc8.nt b hb
                  refine ⟨o, ?_, o2⟩
                  rw [upd_ne (fun z => ?_)]
                  · exact o1
                  · have := hc.nd
                    unfold Mu at this
                    refine (List.nodup_cons.mp this).1 ?_
                    rw [← z]
                    exact List.mem_cons_of_mem _ (List.mem_append_right _ hb)
                · rw [List.length_append, List.length_append, h4.n1]
                  rfl
                · rw [List.length_append, List.length_append, h4.n2]
                  rfl
                · intro i m hm
                  by_cases c0 : i < s.lights.length
                  · rw [List.getElem?_append_left c0] at hm
                    obtain ⟨v', q', sv', g1, g2, g3, g4, g5⟩ := h4.at_ i m hm
                    have q'M : q' ∈ Mu la ca sh S := Mu_sh (List.mem_of_getElem? g2)
                    have nql : q' ≠ la := fun z => by
                      have := hc.nd
                      unfold Mu at this
                      refine (List.nodup_cons.mp this).1 ?_
                      rw [← z]
                      exact List.mem_cons_of_mem _ (List.mem_append_left _ (List.mem_of_getElem? g2))
                    exact ⟨v', q', sv', by rw [List.getElem?_append_left (by rw [h4.n1]; exact c0)]; exact g1, by rw [List.getElem?_append_left (by rw [h4.n2]; exact c0)]; exact g2, g3.mono (kM rfl), by rw [upd_ne nql]; exact e08 _ _ g4, g5.imp fun v x z => z.mono (kM rfl)⟩
                  · have hi : i = s.lights.length := by
                      have := (List.getElem?_eq_some_iff.mp hm).1
                      rw [List.length_append] at this
                      have e : [(⟨(x, y), r, h, c⟩ : BnC.Light)].length = 1 := rfl
                      omega
                    subst hi
                    rw [List.getElem?_append_right (Nat.le_refl _), Nat.sub_self] at hm
                    cases hm
                    have nvs := hf
                    obtain ⟨pv1, vv1, rfl, hp1, hr1⟩ := fph
                    obtain ⟨pv2, vv2, rfl, hp2, hr2⟩ := fse
                    have o1 : pv1 ∉ Mu la ca (sh ++ [qs]) S := by
                      obtain ⟨p', vv', ep, hp', _⟩ := hph
                      cases ep
                      exact out ((e5.trans (e6.trans e7)) _ _ hp') (fresh_back e03 (hfr _ rfl))
                    have o2 : pv2 ∉ Mu la ca (sh ++ [qs]) S := by
                      obtain ⟨p', vv', ep, hp', _⟩ := hv
                      cases ep
                      exact out ((e2.trans (e3.trans (e4.trans (e5.trans (e6.trans e7))))) _ _ hp') (hf _ rfl)
                    have o3 : pi ∉ Mu la ca (sh ++ [qs]) S := fun y => by
                      rcases hM' pi y with y | y
                      · exact pM y
                      · exact npq y
                    refine ⟨.ref pi, qs, sv, by rw [← h4.n1, List.getElem?_append_right (Nat.le_refl _), Nat.sub_self]; rfl, by rw [← h4.n2, List.getElem?_append_right (Nat.le_refl _), Nat.sub_self]; rfl, ?_, by rw [upd_ne qla]; exact hq8, ?_⟩
                    · refine LiAt.mono ⟨⟨pi, dxi, .ref pp, _, _, rfl, dl_at h8 o3, IsT.dl tp nt8, ⟨pv1, vv1, rfl, dl_at hp1 o1, hr1.imp fun v x q => IsT.dl q nt8⟩, ⟨pv2, vv2, rfl, dl_at hp2 o2, hr2.imp fun v x q => ⟨IsT.dl q.1 nt8, q.2⟩⟩⟩, okl⟩ k89.dl
                    · refine (hsv (Mu la ca (sh ++ [qs]) S) fun b hb => ?_).imp fun v x z => z.mono k89.dl
                      rcases hM' b hb with y | y
                      · obtain ⟨o, p1, p2⟩ := (hc7.noTup.mono n12) b y
                        exact .inr (.inr ⟨o, p1, p2⟩)
                      · exact .inl y
                · rw [upd_ne (fun z => ?_)]
                  · exact hca
                  · have := hc.nd
                    unfold Mu at this
                    refine (List.nodup_cons.mp this).1 ?_
                    rw [← z]
                    exact List.mem_cons_self ..
                · show (s.lights ++ [_]).length ≤ 24
                  rw [List.length_append]
                  show s.lights.length + 1 ≤ 24
                  omega
              dsimp only
              refine s_retL (xs := [.int (s.lights.length : Nat)]) (el_lst (ea_cons (ev_is (ev_op (ev_len (ev_lights C new rfl) (sq_of upd_same)) ev_c rv_I0) ?_) ea_nil) (by simp)) fun p H9 hp e9 h9 => ?_
              · rw [List.length_append, h4.n1]
                congr 1
                show ((s.lights.length + 1 : Nat) : Int) - 1 = _
                omega
              · refine k _ _ la ca (sh ++ [qs]) (new.mono e9) ⟨fun b o _ nb z => e9 _ _ ?_, fun b hb => ?_⟩ ⟨p, rfl, ?_, h9⟩
                · rw [upd_ne (mem_ne (List.mem_cons_self ..) nb)]
                  exact e08 _ _ z
                · simp only [List.mem_cons, List.mem_append, List.not_mem_nil, or_false] at hb ⊢
                  rcases hb with z | z | z | z
                  · exact .inl (.inl z)
                  · exact .inl (.inr (.inl z))
                  · exact .inl (.inr (.inr z))
                  · rw [z]
                    exact .inr nqH
                · refine fresh_back e08 ?_
                  by_cases z : p = la
                  · rw [z, upd_same] at hp
                    cases hp
                  · rw [upd_ne z] at hp
                    exact hp
end
end Bc

namespace Bc
open PySem PySem.Spec PyProof.Rows L2 Evl
local macro_rules | `(tactic| walk_at "ev") => `(tactic| repeat' (first
  | with_reducible exact ev_c
  | with_reducible exact rv_I0
  | with_reducible exact ru_neg
  | with_reducible exact ea_nil
  | with_reducible refine' ev_var ?_
  | with_reducible refine' ev_chain ?_ ?_ ?_ ?_ ?_
  | with_reducible refine' ev_op ?_ ?_ ?_
  | with_reducible refine' ev_un ?_ ?_
  | with_reducible refine' ev_andV ?_ (fun _ => ?_)
  | with_reducible refine' ev_orV ?_ (fun _ => ?_)
  | with_reducible refine' ev_notV ?_
  | with_reducible refine' et_test ?_
  | with_reducible refine' et_B ?_
  | with_reducible refine' et_and ?_ (fun _ => ?_)
  | with_reducible refine' et_or ?_ (fun _ => ?_)
  | with_reducible refine' et_not ?_
  | with_reducible refine' ea_cons ?_ ?_
  | with_reducible refine' rv_it (by assumption) ?_
  | with_reducible refine' rv_mul ?_
  | with_reducible refine' rv_eq ?_
  | with_reducible refine' rv_ne ?_
  | exact rfl
  | ((with_reducible show CMul _ _); (try dsimp only at *); first | exact Or.inl ⟨by omega, by omega⟩ | exact Or.inr ⟨by omega, by omega⟩)))
section
variable {P : Program} {w : World} {K : PySem.W.Frag} {mg : Str → Option Value} {base : Heap} {ad : String → Addr}
/-! ### what is seen -/
/-- a colour and a light's number, as they are held: the number first -/
def IsPair (H : Hp) (v : V) (x : Nat × Nat) : Prop := IsT H v [.int (x.2 : Nat), .int (x.1 : Nat)]
theorem IsPair.mono {H H' : Hp} {v : V} {x : Nat × Nat} (h : IsPair H v x) (e : Ex H H') : IsPair H' v x := IsT.mono h e
def IsPairs (H : Hp) (v : V) (f : List (Nat × Nat)) : Prop := ∃ p vs, v = .ref p ∧ H p = some (.lst vs) ∧ Reps (IsPair H) vs f
theorem IsPairs.mono {H H' : Hp} {v : V} {f : List (Nat × Nat)} (h : IsPairs H v f) (e : Ex H H') : IsPairs H' v f := by
  obtain ⟨p, vs, rfl, hp, hr⟩ := h
  exact ⟨p, vs, rfl, e _ _ hp, hr.imp fun v x q => q.mono e⟩
/-- of what the lights show: those that show something -/
def some_ (l : List Nat) (k : Nat) : List (Nat × Nat) := (l.zipIdx k).filter fun (x : Nat × Nat) => x.1 != 0
theorem some_cons (c : Nat) (l : List Nat) (k : Nat) : some_ (c :: l) k = if c = 0 then some_ l (k + 1) else (c, k) :: some_ l (k + 1) := by
  unfold some_
  rw [List.zipIdx_cons, List.filter_cons]
  by_cases h : c = 0
  · rw [if_pos h, if_neg (by simp [h])]
  · rw [if_neg h, if_pos (by simp [h])]
theorem some_len (l : List Nat) (k : Nat) : (some_ l k).length ≤ l.length := by
  unfold some_
  refine Nat.le_trans (List.length_filter_le _ _) ?_
  rw [List.length_zipIdx]
  exact Nat.le_refl _
theorem shown_is (l : List Nat) : Wqatdz.shown l = Wqatdz.tells (Wqatdz.int (some_ l 0).length) ((some_ l 0).flatMap fun (x : Nat × Nat) => [Wqatdz.int x.2, Wqatdz.int x.1]) := rfl
def seenL (s : Wqatdz.State) (p : Pt) : List Nat := s.lights.map fun l => BnC.seenFrom s.coasts l p
abbrev s_Chart_lights_seen : Stmt := inClass (top 74) 10
abbrev N_Chart_lights_seen : List Str := ["self", "place", "found", "number", "light", "colour"]
theorem sc_Chart_lights_seen : FnScope N_Chart_lights_seen ["self", "place"] (defScope s_Chart_lights_seen) := ⟨rfl, rfl, rfl, by decide +kernel, rfl, by decide +kernel, by decide +kernel⟩
def sp_Chart_lights_seen (_K : PySem.W.Frag) (ad : String → Addr) : Sp := spFn (fun vs H (c : Wqatdz.State × Pt) => (∃ a la ca sh S u, vs = [.ref a, u] ∧ ChartAt ad H a la ca sh S c.1 ∧ IsPt H u c.2) ∧ Near 10000 c.2) fun c v H' => IsPairs H' v (some_ (seenL c.1 c.2) 0)
theorem ok_Chart_lights_seen (T : Tx K mg ad) (C : Cl_Chart K (ad "Chart")) (DM_Light_colour_seen : Dm P w K mg base (ad "Light") "colour_seen" 6 ["self", "place"] (sp_Light_colour_seen K ad))
    {f : Addr} {fd : FuncData} (F : Fun K "lights_seen" "Chart.lights_seen" s_Chart_lights_seen f fd) : FnOk P w K mg base CX0 7 f fd ["self", "place"] (sp_Chart_lights_seen K ad) := by
  refine F.ok sc_Chart_lights_seen (fun vs H Q E h => ?_) (fun cdv A outer s H vs Q E hr h => ?_)
  · obtain ⟨c, ⟨⟨a, la, ca, sh, S, u, rfl, _⟩, _⟩, _⟩ := h
    rfl
  · refine ⟨_, (pss_cons (ps_set (i := 2) sc_Chart_lights_seen.nd rfl (Or.inl rfl) (pe_lst pa_nil))
    (pss_cons (ps_for PassesOwn.never rfl (pi_enum (by rfl) T.b_enumerate (pa_cons (pe_fld (pv 0) rfl) pa_nil)) (pg_tup rfl (pgs_cons (pg_name (i := 3) sc_Chart_lights_seen.nd rfl (Or.inl rfl)) (pgs_cons (pg_name (i := 4) sc_Chart_lights_seen.nd rfl (Or.inl rfl)) pgs_nil))) 
        (pss_cons (ps_set (i := 5) sc_Chart_lights_seen.nd rfl (Or.inl rfl) (pe_dm DM_Light_colour_seen (hr.mono (by decide)) (pv 4) (pa_cons (pv 1) pa_nil)))
        (pss_one (ps_if (pt_cmpR op_ne (pv 5) (pe_gint (by rfl) T.g_NOTHING) (nomark _)) 
            (pss_one (ps_expr (pe_bm PySem.F.plainAttrs_list PySem.F.slot_list_append PySem.F.type_list_append mt_append (pv 2) (pa_cons (pe_tup (pa_cons (pv 3) (pa_cons (pv 5) pa_nil))) pa_nil)))) pss_nil))))
    (pss_one (ps_ret (pv 2))))), ?_⟩
    obtain ⟨⟨s, p⟩, ⟨⟨a, la, ca, sh, S, u, rfl, hc, hu⟩, np⟩, k⟩ := h
    dsimp only at hc hu np
    have k : ∀ v H', Ex H H' → IsPairs H' v (some_ (seenL s p) 0) → Q v H' := k
    refine q_asgL (el_lst ea_nil (by simp)) fun pf H1 npf e1 hpf => ?_
    obtain ⟨dx, hme⟩ := hc.me
    obtain ⟨lv, h3, h4⟩ := hc.ls
    refine ⟨_, rfl, a, _, dx, _, _, rfl, e1 _ _ hme, C.cl, C.n_lights, cF_lights, la, lv, rfl, sq_of (e1 _ _ h3), for_it (walk_enum (K := K) (a := la) (xs := lv)) (fun i σ H' => ∃ (vs : List V) (acc : List (Nat × Nat)) (y3 y4 y5 : Option V), σ = [some (.ref a), some u, some (.ref pf), y3, y4, y5] ∧ (∀ b o, H b = some o → H' b = some o) ∧ H' pf = some (.lst vs) ∧ Reps (IsPair H') vs acc ∧ acc.length ≤ i ∧ some_ (seenL s p) 0 = acc ++ some_ ((seenL s p).drop i) i)
      ⟨[], [], none, none, none, rfl, e1, hpf, Reps.nil, Nat.le_refl _, rfl⟩ ?_ ?_ ?_⟩
    · rintro i σ H' _ ⟨vs, acc, y3, y4, y5, _, h, _⟩
      exact sq_of (h _ _ h3)
    · rintro i v σ H2 H3 hi ⟨vs, acc, y3, y4, y5, rfl, h1, h2, h5, h6, h7⟩ ⟨pt, x, y, rfl, nt, rfl, hx, hy⟩
      cases hx
      have nE := Ex.new (o := .tup [V.int (i : Nat), y]) nt
      refine ⟨pt, _, rfl, st_of upd_same, rfl, _, _, rfl, _, _, rfl, rfl, ?_⟩
      have lt : i < s.lights.length := by rw [← h4.n1]; exact hi
      obtain ⟨l, hli⟩ : ∃ l, s.lights[i]? = some l := ⟨_, List.getElem?_eq_getElem lt⟩
      obtain ⟨vl, hvl, hl⟩ := hc.light h3 hli
      have hy : lv[i]? = some y := hy
      rw [hvl] at hy
      cases hy
      obtain ⟨ql, ⟨⟨pl, dxl, vp, vh, vc, rfl, hpl, hrest⟩, okl⟩, _⟩ := id hl
      have hsl : (seenL s p)[i]? = some (BnC.seenFrom s.coasts l p) := by
        unfold seenL
        rw [List.getElem?_map, hli]
        rfl
      rw [drop_at hsl, some_cons] at h7
      have eA : Ex H (upd H2 pt (.tup [V.int (i : Nat), V.ref pl])) := fun b o z => nE _ _ (h1 _ _ z)
      dsimp only
      -- colour = light.colour_seen(place)
      refine ⟨_, rfl, pl, dxl, _, rfl, eA _ _ hpl, lF_none (by decide +kernel) (by decide +kernel) (by decide +kernel) (by decide +kernel) (by decide +kernel), _, rfl, (l, p, s.coasts), ⟨⟨_, _, rfl, hl.mono eA, hu.mono eA⟩, np⟩, fun v H4 e4 hv => ?_⟩
      have hv : v = .int (BnC.seenFrom s.coasts l p : Nat) := hv
      subst hv
      dsimp only [gName]
      have e24 : Ex H2 H4 := nE.trans e4
      have h14 : ∀ b o, H b = some o → H4 b = some o := fun b o z => e24 _ _ (h1 _ _ z)
      refine s_when (b := !decide (BnC.seenFrom s.coasts l p = 0)) (et_test (ev_is (ev_op (ev_var rfl) ev_c (rv_ne rfl)) ?_)) (fun q H5 e5 => ?_) fun q H5 e5 => ?_
      · rw [int_eq]
        congr 2
        rw [decide_eq_decide]
        omega
      · rw [if_neg (by simpa using q)] at h7
        refine s_appU (l := pf) (xs := vs) (ys := [.int (i : Nat), .int (BnC.seenFrom s.coasts l p : Nat)]) (e5 _ _ (e24 _ _ h2)) (ev_var rfl) (eu_tup (ea_cons (ev_var rfl) (ea_cons (ev_var rfl) ea_nil)) (by simp)) (by rw [h5.1]; have := hc.ll; have := (List.getElem?_eq_some_iff.mp hli).1; omega) fun pn H6 hpn e6 h8 => ?_
        have nn : pn ≠ pf := fun z => by rw [z, e5 _ _ (e24 _ _ h2)] at hpn; cases hpn
        have old : ∀ b o, b ≠ pf → H4 b = some o → upd H6 pf (.lst (vs ++ [V.ref pn])) b = some o := fun b o nb z => by
          rw [upd_ne nb]
          exact e6 _ _ (e5 _ _ z)
        refine ⟨_, acc ++ [(BnC.seenFrom s.coasts l p, i)], _, _, _, rfl, fun b o z => old b o (ne_of_none z npf) (h14 _ _ z), upd_same, Reps.add (h5.imp fun v x q => ?_) ⟨pn, rfl, by rw [upd_ne nn]; exact h8⟩, by simp; omega, by rw [h7]; simp⟩
        obtain ⟨p2, rfl, hp2⟩ := q
        exact ⟨p2, rfl, old _ _ (fun z => by rw [z, h2] at hp2; cases hp2) (e24 _ _ hp2)⟩
      · rw [if_pos (by simpa using q)] at h7
        exact ⟨vs, acc, _, _, _, rfl, fun b o z => e5 _ _ (h14 _ _ z), e5 _ _ (e24 _ _ h2), h5.imp fun v x q => q.mono (e24.trans e5), by omega, h7⟩
    · rintro σ H2 ⟨vs, acc, y3, y4, y5, rfl, h1, h2, h5, h6, h7⟩
      dsimp only
      refine s_ret (v := .ref pf) (ev_var rfl) fun H3 e3 => k _ _ (fun b o z => e3 _ _ (h1 _ _ z)) ?_
      rw [h7, List.drop_of_length_le (by unfold seenL; rw [List.length_map, h4.n1]; exact Nat.le_refl _)]
      rw [show some_ [] lv.length = [] from rfl, List.append_nil]
      exact ⟨pf, vs, rfl, e3 _ _ h2, h5.imp fun v x q => q.mono e3⟩
abbrev s_tell_rows : Stmt := top 75
abbrev N_tell_rows : List Str := ["rows", "told", "row"]
theorem sc_tell_rows : FnScope N_tell_rows ["rows"] (defScope s_tell_rows) := ⟨rfl, rfl, rfl, by decide +kernel, rfl, by decide +kernel, by decide +kernel⟩
/-- rows of numbers, a tuple each -/
def IsRws (H : Hp) (v : V) (rs : List (List Int)) : Prop := ∃ p vs, v = .ref p ∧ H p = some (.lst vs) ∧ Reps (fun v r => IsT H v (r.map V.int)) vs rs
def sp_tell_rows : Sp := fun vs H Q _ => ∃ (v : V) (rs : List (List Int)), vs = [v] ∧ IsRws H v rs ∧ rs.flatten.length ≤ 1000000 ∧ ∀ v' H', Ex H H' → NewL H H' v' (((rs.length : Int) :: rs.flatten).map V.int) → Q v' H'
theorem flat_take (rs : List (List Int)) (i : Nat) : (rs.take i).flatten.length ≤ rs.flatten.length := by
  have : rs.flatten = (rs.take i).flatten ++ (rs.drop i).flatten := by rw [← List.flatten_append, List.take_append_drop]
  rw [this, List.length_append]
  omega
theorem ok_tell_rows (T : Tx K mg ad) {f : Addr} {fd : FuncData} (F : Fun K "tell_rows" "tell_rows" s_tell_rows f fd) : FnOk P w K mg base CX0 1 f fd ["rows"] sp_tell_rows := by
  refine F.ok sc_tell_rows (fun vs H Q E h => ?_) (fun cdv A outer s H vs Q E hr h => ?_)
  · obtain ⟨v, f, rfl, _⟩ := h
    rfl
  · refine ⟨_, (pss_cons (ps_set (i := 1) sc_tell_rows.nd rfl (Or.inl rfl) (pe_lst (pa_cons (pe_callB call_len_seq (by rfl) T.b_len PySem.boot_len (pa_cons (pv 0) pa_nil)) pa_nil)))
    (pss_cons (ps_for PassesOwn.never rfl (pi_list (pv 0)) (pg_name (i := 2) sc_tell_rows.nd rfl (Or.inl rfl)) 
        (pss_one (ps_expr (pe_bm PySem.F.plainAttrs_list PySem.F.slot_list_extend PySem.F.type_list_extend mt_extT (pv 1) (pa_cons (pv 2) pa_nil)))))
    (pss_one (ps_ret (pv 1))))), ?_⟩
    obtain ⟨v, rs, rfl, ⟨pa, vs, rfl, ha, hvs⟩, hlen, k⟩ := h
    refine q_asgL (xs := [.int (rs.length : Int)]) (el_lst (ea_cons (ev_is (ev_len (ev_var rfl) (sq_of ha)) (by rw [hvs.1])) ea_nil) (by simp)) fun pt H1 npt e1 hpt => ?_
    refine ⟨_, rfl, pa, rfl, ⟨_, sq_of (e1 _ _ ha)⟩, for_it (walk_list (K := K) (a := pa) (xs := vs)) (fun i σ H' => ∃ (y2 : Option V), σ = [some (.ref pa), some (.ref pt), y2] ∧ Ex H H' ∧ H' pt = some (.lst (((rs.length : Int) :: (rs.take i).flatten).map V.int)))
      ⟨none, rfl, e1, hpt⟩ ?_ ?_ ?_⟩
    · rintro i σ H' _ ⟨y2, _, h, _⟩
      exact sq_of (h _ _ ha)
    · rintro i v σ H2 H3 hi ⟨y2, rfl, h1, h2⟩ ⟨rfl, hx⟩
      obtain ⟨r, hri, px, rfl, hpx⟩ := hvs.2 i v hx
      have hfl : (rs.take (i + 1)).flatten = (rs.take i).flatten ++ r := by
        rw [take_next hri, List.flatten_append]
        simp
      have hle := flat_take rs (i + 1)
      rw [hfl, List.length_append] at hle
      dsimp only [gName]
      refine ⟨_, rfl, .inl ⟨rfl, _, sq_of h2⟩, _, rfl, pt, px, _, _, rfl, rfl, h2, st_of (h1 _ _ hpx), ?_, _, rfl, Ex.mut h1 npt, ?_⟩
      · rw [List.length_map, List.length_map, List.length_cons]
        exact Nat.le_trans (show (rs.take i).flatten.length + 1 + r.length ≤ 1000001 by omega) (by decide)
      · rw [upd_same, hfl, ← List.map_append]
        rfl
    · rintro σ H2 ⟨y2, rfl, h1, h2⟩
      dsimp only
      rw [hvs.1, List.take_length] at h2
      exact s_ret (v := .ref pt) (ev_var rfl) fun H3 e3 => k _ _ (h1.trans e3) ⟨pt, rfl, npt, e3 _ _ h2⟩
/-- pairs as rows -/
def pRows (f : List (Nat × Nat)) : List (List Int) := f.map fun x => [(x.2 : Int), (x.1 : Int)]
theorem pRows_len (f : List (Nat × Nat)) : (pRows f).flatten.length = 2 * f.length := by
  unfold pRows
  induction f with
  | nil => rfl
  | cons a r ih =>
    rw [List.map_cons, List.flatten_cons, List.length_append, ih, List.length_cons]
    simp
    omega
theorem IsPairs.rows {H : Hp} {v : V} {f : List (Nat × Nat)} (h : IsPairs H v f) : IsRws H v (pRows f) := by
  obtain ⟨p, vs, rfl, hp, h1, h2⟩ := h
  refine ⟨p, vs, rfl, hp, by unfold pRows; rw [List.length_map]; exact h1, fun i v hv => ?_⟩
  obtain ⟨x, hx, hq⟩ := h2 i v hv
  exact ⟨[(x.2 : Int), (x.1 : Int)], by unfold pRows; rw [List.getElem?_map, hx]; rfl, hq⟩
theorem pRows_flat (f : List (Nat × Nat)) : (pRows f).flatten = f.flatMap fun (x : Nat × Nat) => [Wqatdz.int x.2, Wqatdz.int x.1] := by
  unfold pRows
  rw [List.flatMap_def]
  rfl
abbrev s_Chart_seen : Stmt := inClass (top 74) 3
abbrev N_Chart_seen : List Str := ["self", "x", "y"]
theorem sc_Chart_seen : FnScope N_Chart_seen ["self", "x", "y"] (defScope s_Chart_seen) := ⟨rfl, rfl, rfl, by decide +kernel, rfl, by decide +kernel, by decide +kernel⟩
def sp_Chart_seen (_K : PySem.W.Frag) (ad : String → Addr) : Sp := spCh ad (fun vs _ (c : Int × Int) => vs = [.int c.1, .int c.2]) fun c => .seen c.1 c.2
theorem ok_Chart_seen (D_is_place : Df P w K mg base "is_place" 1 ["place"] sp_is_place) (DM_Chart_lights_seen : Dm P w K mg base (ad "Chart") "lights_seen" 7 ["self", "place"] (sp_Chart_lights_seen K ad)) (D_tell_rows : Df P w K mg base "tell_rows" 1 ["rows"] sp_tell_rows)
    {f : Addr} {fd : FuncData} (F : Fun K "seen" "Chart.seen" s_Chart_seen f fd) : FnOk P w K mg base CX0 8 f fd ["self", "x", "y"] (sp_Chart_seen K ad) := by
  refine F.ok sc_Chart_seen (fun vs H Q E h => ?_) (fun cdv A outer s H vs Q E hr h => ?_)
  · obtain ⟨a, la, ca, sh, S, s, c, rest, rfl, _, rfl, _⟩ := h
    rfl
  · refine ⟨_, (pss_cons (ps_if (pt_not (pt_val (pe_df D_is_place (hr.mono (by decide)) (by rfl) (pa_cons (pe_tup (pa_cons (pv 1) (pa_cons (pv 2) pa_nil))) pa_nil)))) 
        (pss_one (ps_ret (pe_lst (pa_cons (pe_un un_neg pe_int) pa_nil)))) pss_nil)
    (pss_one (ps_ret (pe_df D_tell_rows (hr.mono (by decide)) (by rfl) (pa_cons (pe_dm DM_Chart_lights_seen (hr.mono (by decide)) (pv 0) (pa_cons (pe_tup (pa_cons (pv 1) (pa_cons (pv 2) pa_nil))) pa_nil)) pa_nil))))), ?_⟩
    obtain ⟨a, la, ca, sh, S, s, ⟨x, y⟩, rest, rfl, hc, rfl, k⟩ := h
    dsimp only at k
    have hst : Wqatdz.step s (.seen x y) = (s, if Wqatdz.isPlace (x, y) = false then Wqatdz.BAD else Wqatdz.shown (seenL s (x, y))) := rfl
    have same : ∀ (n : Int) (l : List Int), (Wqatdz.step s (.seen x y)) = (s, ⟨n, l⟩) → ∀ v' H', Ex H H' → NewL H H' v' ((n :: l).map V.int) → Q v' H' := fun n l hn v' H' e hv => by
      rw [hn] at k
      exact k _ _ la ca sh (hc.mono e) (Left.of e) hv
    refine q_when (b := !placeB (x, y)) (et_not (et_B (ev_place rfl rfl))) (fun q H1 e1 => ?_) fun q H1 e1 => ?_
    · rw [if_pos (by rw [← placeB_is]; simpa using q)] at hst
      exact s_num (n := -1) (ev_un ev_c ru_neg) e1 fun v' H3 e3 hv => same (-1) [] hst v' H3 e3 hv
    · have q : placeB (x, y) = true := by simpa using q
      rw [if_neg (by rw [← placeB_is, q]; decide), shown_is] at hst
      obtain ⟨dx, hme⟩ := hc.me
      refine ⟨_, rfl, a, dx, _, rfl, e1 _ _ hme, cF_none (by decide +kernel) (by decide +kernel), _, rfl, _, rfl, (by show 2 ≤ sizeLine; decide), fun p hp => ⟨(s, (x, y)), ⟨⟨a, la, ca, sh, S, _, rfl, hc.mono (e1.trans (Ex.new hp)), p, rfl, upd_same⟩, near_place (by rw [← placeB_is]; exact q)⟩, fun v H2 e2 hv => ?_⟩⟩
      have e02 := e1.trans ((Ex.new hp).trans e2)
      have hv : IsPairs H2 v (some_ (seenL s (x, y)) 0) := hv
      refine ⟨v, _, rfl, hv.rows, ?_, fun v' H3 e3 hv' => ?_⟩
      · rw [pRows_len]
        have := some_len (seenL s (x, y)) 0
        unfold seenL at this ⊢
        rw [List.length_map] at this
        have := hc.ll
        omega
      · rw [pRows_flat, show (pRows (some_ (seenL s (x, y)) 0)).length = (some_ (seenL s (x, y)) 0).length by unfold pRows; rw [List.length_map]] at hv'
        obtain ⟨p', rfl, hp', h'⟩ := hv'
        exact same _ _ hst _ H3 (e02.trans e3) ⟨p', rfl, fresh_back e02 hp', h'⟩
end
end Bc

namespace Bc
open PySem PySem.Spec PyProof.Rows L2 Evl
local macro_rules | `(tactic| walk_at "ev") => `(tactic| repeat' (first
  | with_reducible exact ev_c
  | with_reducible exact rv_I0
  | with_reducible exact ru_neg
  | with_reducible exact ea_nil
  | with_reducible refine' ev_var ?_
  | with_reducible refine' ev_chain ?_ ?_ ?_ ?_ ?_
  | with_reducible refine' ev_op ?_ ?_ ?_
  | with_reducible refine' ev_un ?_ ?_
  | with_reducible refine' ev_andV ?_ (fun _ => ?_)
  | with_reducible refine' ev_orV ?_ (fun _ => ?_)
  | with_reducible refine' ev_notV ?_
  | with_reducible refine' et_test ?_
  | with_reducible refine' et_B ?_
  | with_reducible refine' et_and ?_ (fun _ => ?_)
  | with_reducible refine' et_or ?_ (fun _ => ?_)
  | with_reducible refine' et_not ?_
  | with_reducible refine' ea_cons ?_ ?_
  | with_reducible refine' rv_it (by assumption) ?_
  | with_reducible refine' rv_mul ?_
  | with_reducible refine' rv_eq ?_
  | with_reducible refine' rv_ne ?_
  | exact rfl
  | ((with_reducible show CMul _ _); (try dsimp only at *); first | exact Or.inl ⟨by omega, by omega⟩ | exact Or.inr ⟨by omega, by omega⟩)))
section
variable {P : Program} {w : World} {K : PySem.W.Frag} {mg : Str → Option Value} {base : Heap} {ad : String → Addr}
/-! ### at a time; a rhythm's text -/
def onAt (s : Wqatdz.State) (z : Nat) (x : Nat × Nat) : Bool := match s.lights[x.2]? with
  | some l => !decide (Bn.colourAt l.rhythm z = 0)
  | none => false
theorem at_from (s : Wqatdz.State) (p : Pt) (z : Nat) : ∀ (ls : List BnC.Light) (k : Nat), (∀ j l, ls[j]? = some l → s.lights[k + j]? = some l) →
    some_ (ls.map fun l => l.at_ s.coasts p z) k = (some_ (ls.map fun l => BnC.seenFrom s.coasts l p) k).filter (onAt s z)
  | [], k, _ => rfl
  | l :: ls, k, h => by
    have ih := at_from s p z ls (k + 1) fun j m hm => by
      have := h (j + 1) m hm
      rwa [show k + (j + 1) = k + 1 + j by omega] at this
    have hl : s.lights[k]? = some l := h 0 l rfl
    rw [List.map_cons, List.map_cons, some_cons, some_cons, ih]
    have hat : l.at_ s.coasts p z = if Bn.colourAt l.rhythm z = 0 then 0 else BnC.seenFrom s.coasts l p := rfl
    rw [hat]
    have hon : ∀ c, onAt s z (c, k) = !decide (Bn.colourAt l.rhythm z = 0) := fun c => by
      unfold onAt
      rw [hl]
    by_cases c : BnC.seenFrom s.coasts l p = 0
    · have : (if Bn.colourAt l.rhythm z = 0 then 0 else BnC.seenFrom s.coasts l p) = 0 := by
        rw [c]
        split <;> rfl
      rw [if_pos this, if_pos c]
    · rw [if_neg c, List.filter_cons, hon]
      by_cases d : Bn.colourAt l.rhythm z = 0
      · rw [if_pos d, if_pos rfl, decide_eq_true d]
        rfl
      · rw [if_neg d, if_neg c, decide_eq_false d]
        rfl
theorem at_is (s : Wqatdz.State) (p : Pt) (z : Nat) : some_ (s.lights.map fun l => l.at_ s.coasts p z) 0 = (some_ (seenL s p) 0).filter (onAt s z) :=
  at_from s p z s.lights 0 fun j l h => by rw [Nat.zero_add]; exact h
theorem some_in {l : List Nat} {k : Nat} {x : Nat × Nat} (h : x ∈ some_ l k) : k ≤ x.2 ∧ x.2 < k + l.length := by
  unfold some_ at h
  have := (List.mem_filter.mp h).1
  obtain ⟨a, b⟩ := x
  have := List.mem_zipIdx this
  exact ⟨this.1, this.2.1⟩
abbrev s_Chart_at : Stmt := inClass (top 74) 4
abbrev N_Chart_at : List Str := ["self", "moment", "x", "y", "found", "pair"]
theorem sc_Chart_at : FnScope N_Chart_at ["self", "moment", "x", "y"] (defScope s_Chart_at) := ⟨rfl, rfl, rfl, by decide +kernel, rfl, by decide +kernel, by decide +kernel⟩
def sp_Chart_at (_K : PySem.W.Frag) (ad : String → Addr) : Sp := spCh ad (fun vs _ (c : Nat × Int × Int) => vs = [.int (c.1 : Nat), .int c.2.1, .int c.2.2]) fun c => .at_ c.1 c.2.1 c.2.2
theorem ok_Chart_at (T : Tx K mg ad) (C : Cl_Chart K (ad "Chart")) (D_is_place : Df P w K mg base "is_place" 1 ["place"] sp_is_place) (DM_Chart_lights_seen : Dm P w K mg base (ad "Chart") "lights_seen" 7 ["self", "place"] (sp_Chart_lights_seen K ad)) (D_tell_rows : Df P w K mg base "tell_rows" 1 ["rows"] sp_tell_rows)
    (DM_Light_is_on : Dm P w K mg base (ad "Light") "is_on" 2 ["self", "moment"] (sp_Light_is_on K ad))
    {f : Addr} {fd : FuncData} (F : Fun K "at" "Chart.at" s_Chart_at f fd) : FnOk P w K mg base CX0 8 f fd ["self", "moment", "x", "y"] (sp_Chart_at K ad) := by
  refine F.ok sc_Chart_at (fun vs H Q E h => ?_) (fun cdv A outer s H vs Q E hr h => ?_)
  · obtain ⟨a, la, ca, sh, S, s, c, rest, rfl, _, rfl, _⟩ := h
    rfl
  · refine ⟨_, (pss_cons (ps_if (PW.pt (pw_or (pt_cmpR op_gt (pv 1) (pe_gint (by rfl) T.g_LAST_MOMENT) (nomark _)) (pw_or1 (pt_not (pt_val (pe_df D_is_place (hr.mono (by decide)) (by rfl) (pa_cons (pe_tup (pa_cons (pv 2) (pa_cons (pv 3) pa_nil))) pa_nil))))))) 
        (pss_one (ps_ret (pe_lst (pa_cons (pe_un un_neg pe_int) pa_nil)))) pss_nil)
    (pss_cons (ps_set (i := 4) sc_Chart_at.nd rfl (Or.inl rfl) (pe_dm DM_Chart_lights_seen (hr.mono (by decide)) (pv 0) (pa_cons (pe_tup (pa_cons (pv 2) (pa_cons (pv 3) pa_nil))) pa_nil)))
    (pss_one (ps_ret (pe_df D_tell_rows (hr.mono (by decide)) (by rfl) (pa_cons (pe_lc (own := [("pair", 5)]) (tt := (tB (tMeth (ad "Light") "is_on" (sp_Light_is_on K ad) [] E0 (tOp (rIxL K) (tFld K (tVar 0) "lights") (tOp (rIxT K) (tVar 5) (tC (.int 0)))) (tCons (tVar 1) tNil)))) rfl sc_Chart_at.nd (pi_list (pv 4)) (blkOk_by (N := N_Chart_at) (sc := defScope s_Chart_at) (by decide +kernel)) (by intro _ _ _ _ _; exact (pg_name (i := 5) sc_Chart_at.nd rfl (Or.inl rfl))) (by intro _ _ _ _ _; exact (pts_one (pt_val (pe_dm DM_Light_is_on (hr.mono (by decide)) (pe_ix ix_list (pe_fld (pv 0) rfl) (pe_ix ix_tup (pv 5) pe_int (fun _ _ => rfl)) (fun _ _ => rfl)) (pa_cons (pv 1) pa_nil))))) (by intro _ _ _ _ _; exact (pv 5))) pa_nil)))))), ?_⟩
    obtain ⟨a, la, ca, sh, S, s, ⟨z, x, y⟩, rest, rfl, hc, rfl, k⟩ := h
    dsimp only at k
    have hst : Wqatdz.step s (.at_ z x y) = (s, if Wqatdz.TIME < z ∨ Wqatdz.isPlace (x, y) = false then Wqatdz.BAD else Wqatdz.shown (s.lights.map fun l => l.at_ s.coasts (x, y) z)) := rfl
    have same : ∀ (n : Int) (l : List Int), (Wqatdz.step s (.at_ z x y)) = (s, ⟨n, l⟩) → ∀ v' H', Ex H H' → NewL H H' v' ((n :: l).map V.int) → Q v' H' := fun n l hn v' H' e hv => by
      rw [hn] at k
      exact k _ _ la ca sh (hc.mono e) (Left.of e) hv
    refine q_when (b := decide (1000000 < (z : Int)) || !placeB (x, y)) (et_or (et_test (ev_op (ev_var rfl) ev_c rv_I0)) fun _ => et_not (et_B (ev_place rfl rfl))) (fun q H1 e1 => ?_) fun q H1 e1 => ?_
    · have q' : Wqatdz.TIME < z ∨ Wqatdz.isPlace (x, y) = false := by
        simp only [Bool.or_eq_true, decide_eq_true_iff, Bool.not_eq_true'] at q
        rcases q with q | q
        · left
          show 1000000 < z
          omega
        · exact .inr q
      rw [if_pos q'] at hst
      exact s_num (n := -1) (ev_un ev_c ru_neg) e1 fun v' H3 e3 hv => same (-1) [] hst v' H3 e3 hv
    · have q' : ¬ (Wqatdz.TIME < z ∨ Wqatdz.isPlace (x, y) = false) := by
        simp only [Bool.or_eq_false_iff, decide_eq_false_iff_not, Bool.not_eq_false'] at q
        rintro (w | w)
        · have w : 1000000 < z := w
          omega
        · rw [← placeB_is, q.2] at w
          cases w
      have qp : placeB (x, y) = true := by
        simp only [Bool.or_eq_false_iff, Bool.not_eq_false'] at q
        exact q.2
      rw [if_neg q', shown_is, at_is] at hst
      obtain ⟨dx, hme⟩ := hc.me
      refine ⟨_, rfl, a, dx, _, rfl, e1 _ _ hme, cF_none (by decide +kernel) (by decide +kernel), _, rfl, _, rfl, (by show 2 ≤ sizeLine; decide), fun p hp => ⟨(s, (x, y)), ⟨⟨a, la, ca, sh, S, _, rfl, hc.mono (e1.trans (Ex.new hp)), p, rfl, upd_same⟩, near_place (by rw [← placeB_is]; exact qp)⟩, fun v H2 e2 hv => ?_⟩⟩
      have hv : IsPairs H2 v (some_ (seenL s (x, y)) 0) := hv
      have hlen : (some_ (seenL s (x, y)) 0).length ≤ 24 := by
        refine Nat.le_trans (some_len _ _) ?_
        unfold seenL
        rw [List.length_map]
        exact hc.ll
      have hin : ∀ t ∈ some_ (seenL s (x, y)) 0, t.2 < s.lights.length := fun t ht => by
        have := some_in ht
        unfold seenL at this
        rw [List.length_map] at this
        omega
      generalize some_ (seenL s (x, y)) 0 = fd at hv hst hlen hin
      have e02 := e1.trans ((Ex.new hp).trans e2)
      obtain ⟨pf, vs, rfl, hpf, hvs⟩ := hv
      obtain ⟨lv, h3, h4⟩ := hc.ls
      dsimp only [gName]
      -- the comprehension
      refine ⟨_, rfl, pf, rfl, ⟨_, sq_of hpf⟩, fun D hD => lc_it (walk_list (K := K) (a := pf) (xs := vs)) (fun i H' => Ex H2 H' ∧ ∃ vd, H' D = some (.lst vd) ∧ Reps (IsPair H2) vd ((fd.take i).filter (onAt s z))) ⟨Ex.new hD, [], upd_same, Reps.nil⟩ (fun i H' _ h => sq_of (h.1 _ _ hpf)) ?_ ?_⟩
      · rintro i v H3 H4 hi ⟨e3, vd, h1, h2⟩ ⟨rfl, hx⟩
        obtain ⟨t, hti, hpt⟩ := hvs.2 i v hx
        obtain ⟨pt, rfl, hq⟩ := id hpt
        obtain ⟨l, hl⟩ : ∃ l, s.lights[t.2]? = some l := ⟨s.lights[t.2]'(hin t (List.mem_of_getElem? hti)), by simp [hin t (List.mem_of_getElem? hti)]⟩
        obtain ⟨vl, hvl, ql, hll, _⟩ := hc.light h3 hl
        obtain ⟨⟨pl, dxl, vp, vh, vc, rfl, hpl, hrest⟩, okl⟩ := id hll
        have e04 := e02.trans e3
        refine ⟨rfl, ?_⟩
        refine ⟨_, rfl, a, _, dx, _, _, rfl, e04 _ _ hme, C.cl, C.n_lights, cF_lights, _, rfl, pt, _, _, _, rfl, rfl, st_of (e3 _ _ hq), rfl, la, lv, _, _, rfl, rfl, sq_of (e04 _ _ h3), atI_nat hvl, pl, dxl, _, rfl, e04 _ _ hpl, lF_none (by decide +kernel) (by decide +kernel) (by decide +kernel) (by decide +kernel) (by decide +kernel), _, rfl, (l, z), ⟨_, _, rfl, hll.mono e04⟩, fun v H5 e5 hv => ?_⟩
        have hv : v = .bl (!decide (Bn.colourAt l.rhythm z = 0)) := hv
        subst hv
        have hon : onAt s z t = !decide (Bn.colourAt l.rhythm z = 0) := by
          unfold onAt
          rw [hl]
        refine ⟨_, rfl, ?_⟩
        have htk : fd.take (i + 1) = fd.take i ++ [t] := by
          rw [List.take_add_one, hti]
          rfl
        rw [htk, List.filter_append, ← hon]
        cases ho : onAt s z t with
        | true =>
          have hf : [t].filter (onAt s z) = [t] := by rw [List.filter_cons, if_pos ho]; rfl
          dsimp only
          rw [if_pos rfl, hf]
          refine ⟨_, rfl, vd, e5 _ _ h1, ?_, Ex.mut (e3.trans e5) hD, _, upd_same, Reps.add h2 ⟨pt, rfl, hq⟩⟩
          rw [h2.1]
          refine Nat.lt_of_le_of_lt (Nat.le_trans (List.length_filter_le _ _) (List.length_take_le' _ _)) (Nat.lt_of_le_of_lt hlen (by decide))
        | false =>
          have hf : [t].filter (onAt s z) = [] := by rw [List.filter_cons, if_neg (by rw [ho]; decide)]; rfl
          dsimp only
          rw [if_neg (by decide), hf, List.append_nil]
          exact ⟨e3.trans e5, vd, e5 _ _ h1, h2⟩
      · rintro H3 ⟨e3, vd, h1, h2⟩
        rw [hvs.1, List.take_length] at h2
        have hpr : IsPairs H3 (.ref D) (fd.filter (onAt s z)) := ⟨D, vd, rfl, h1, h2.imp fun v x q => q.mono e3⟩
        refine ⟨.ref D, _, rfl, hpr.rows, ?_, fun v' H4 e4 hv' => ?_⟩
        · rw [pRows_len]
          have := List.length_filter_le (onAt s z) fd
          omega
        · rw [pRows_flat, show (pRows (fd.filter (onAt s z))).length = (fd.filter (onAt s z)).length by unfold pRows; rw [List.length_map]] at hv'
          obtain ⟨p', rfl, hp', h'⟩ := hv'
          exact same _ _ hst _ H4 (e02.trans (e3.trans e4)) ⟨p', rfl, fresh_back (e02.trans e3) hp', h'⟩
theorem towards_le : ∀ (l : List BnC.Sector) (sh : Nat) (wy : Pt), sh ≤ 4 → (∀ s ∈ l, s.2 ≤ 4) → towards sh l wy ≤ 4
  | [], _, _, h, _ => h
  | s :: r, sh, wy, h, g => by
    show (if BnC.dirBefore wy s.1 = true then sh else towards s.2 r wy) ≤ 4
    split
    · exact h
    · exact towards_le r s.2 wy (g s (by simp)) fun t ht => g t (by simp [ht])
theorem seen_le {l : BnC.Light} (h : LOk l) (cs : List BnC.Coast) (p : Pt) : BnC.seenFrom cs l p ≤ 4 := by
  obtain ⟨s, hs⟩ := h.ne
  have t : BnC.sectorOf l.sectors (BnC.minus p l.place) ≤ 4 := by
    rw [sector_is _ h.od hs]
    exact towards_le _ _ _ (h.se s (List.mem_of_getLast? hs)).2 fun s hs => (h.se s hs).2
  unfold BnC.seenFrom BnC.Light.shows
  split
  · split
    · exact Nat.zero_le _
    · exact t
  · exact Nat.zero_le _
abbrev s_Chart_rhythm : Stmt := inClass (top 74) 5
abbrev N_Chart_rhythm : List Str := ["self", "number", "x", "y", "light", "colour", "text"]
theorem sc_Chart_rhythm : FnScope N_Chart_rhythm ["self", "number", "x", "y"] (defScope s_Chart_rhythm) := ⟨rfl, rfl, rfl, by decide +kernel, rfl, by decide +kernel, by decide +kernel⟩
def sp_Chart_rhythm (_K : PySem.W.Frag) (ad : String → Addr) : Sp := spCh ad (fun vs _ (c : Nat × Int × Int) => vs = [.int (c.1 : Nat), .int c.2.1, .int c.2.2]) fun c => .rhythm c.1 c.2.1 c.2.2
theorem ok_Chart_rhythm (T : Tx K mg ad) (C : Cl_Chart K (ad "Chart")) (CL : Cl_Light K (ad "Light")) (D_is_place : Df P w K mg base "is_place" 1 ["place"] sp_is_place) (DM_Light_colour_seen : Dm P w K mg base (ad "Light") "colour_seen" 6 ["self", "place"] (sp_Light_colour_seen K ad))
    (D_write_rhythm : Df P w K mg base "write_rhythm" 1 ["phases", "shown"] sp_write_rhythm)
    {f : Addr} {fd : FuncData} (F : Fun K "rhythm" "Chart.rhythm" s_Chart_rhythm f fd) : FnOk P w K mg base CX0 7 f fd ["self", "number", "x", "y"] (sp_Chart_rhythm K ad) := by
  refine F.ok sc_Chart_rhythm (fun vs H Q E h => ?_) (fun cdv A outer s H vs Q E hr h => ?_)
  · obtain ⟨a, la, ca, sh, S, s, c, rest, rfl, _, rfl, _⟩ := h
    rfl
  · refine ⟨_, (pss_cons (ps_if (pt_not (pt_val (pe_df D_is_place (hr.mono (by decide)) (by rfl) (pa_cons (pe_tup (pa_cons (pv 2) (pa_cons (pv 3) pa_nil))) pa_nil)))) 
        (pss_one (ps_ret (pe_lst (pa_cons (pe_un un_neg pe_int) pa_nil)))) pss_nil)
    (pss_cons (ps_if (pt_cmpR op_ge (pv 1) (pe_callB call_len_seq (by rfl) T.b_len PySem.boot_len (pa_cons (pe_fld (pv 0) rfl) pa_nil)) (nomark _)) 
        (pss_one (ps_ret (pe_lst (pa_cons (pe_un un_neg pe_int) pa_nil)))) pss_nil)
    (pss_cons (ps_set (i := 4) sc_Chart_rhythm.nd rfl (Or.inl rfl) (pe_ix ix_list (pe_fld (pv 0) rfl) (pv 1) (fun _ _ => rfl)))
    (pss_cons (ps_set (i := 5) sc_Chart_rhythm.nd rfl (Or.inl rfl) (pe_dm DM_Light_colour_seen (hr.mono (by decide)) (pv 4) (pa_cons (pe_tup (pa_cons (pv 2) (pa_cons (pv 3) pa_nil))) pa_nil)))
    (pss_cons (ps_if (pt_cmpR op_eq (pv 5) (pe_gint (by rfl) T.g_NOTHING) (nomark _)) 
        (pss_one (ps_ret (pe_lst (pa_cons (pe_un un_neg pe_int) pa_nil)))) pss_nil)
    (pss_cons (ps_set (i := 6) sc_Chart_rhythm.nd rfl (Or.inl rfl) (pe_df D_write_rhythm (hr.mono (by decide)) (by rfl) (pa_cons (pe_fld (pv 4) rfl) (pa_cons (pv 5) pa_nil))))
    (pss_one (ps_ret (pe_op op_cat (pe_lst (pa_cons (pe_callB call_len_seq (by rfl) T.b_len PySem.boot_len (pa_cons (pv 6) pa_nil)) pa_nil)) (pv 6)))))))))), ?_⟩
    obtain ⟨a, la, ca, sh, S, s, ⟨n, x, y⟩, rest, rfl, hc, rfl, k⟩ := h
    dsimp only at k
    have hst : Wqatdz.step s (.rhythm n x y) = (s, if Wqatdz.isPlace (x, y) = false then Wqatdz.BAD else (match s.lights[n]? with
      | none => Wqatdz.NONE
      | some l => match l.rhythmAt s.coasts (x, y) with
        | none => Wqatdz.NO
        | some r => Wqatdz.tells (Wqatdz.int (Bn.Rhythm.text r).length) ((Bn.Rhythm.text r).map fun c => Wqatdz.int c.toNat))) := rfl
    have same : ∀ (m : Int) (l : List Int), (Wqatdz.step s (.rhythm n x y)) = (s, ⟨m, l⟩) → ∀ v' H', Ex H H' → NewL H H' v' ((m :: l).map V.int) → Q v' H' := fun m l hn v' H' e hv => by
      rw [hn] at k
      exact k _ _ la ca sh (hc.mono e) (Left.of e) hv
    obtain ⟨lv, h3, h4⟩ := hc.ls
    obtain ⟨dx, hme⟩ := hc.me
    refine q_when (b := !placeB (x, y)) (et_not (et_B (ev_place rfl rfl))) (fun q H1 e1 => ?_) fun q H1 e1 => ?_
    · rw [if_pos (by rw [← placeB_is]; simpa using q)] at hst
      exact s_num (n := -1) (ev_un ev_c ru_neg) e1 fun v' H3 e3 hv => same (-1) [] hst v' H3 e3 hv
    · have q : placeB (x, y) = true := by simpa using q
      rw [if_neg (by rw [← placeB_is, q]; decide)] at hst
      refine q_when (b := decide ((s.lights.length : Int) ≤ (n : Int))) (et_test (ev_op (ev_var rfl) (len_lv (ev_lights C (hc.mono e1) rfl) (e1 _ _ h3) h4.n1) rv_I0)) (fun q2 H2 e2 => ?_) fun q2 H2 e2 => ?_
      · have q2 := of_decide_eq_true q2
        rw [List.getElem?_eq_none (by omega)] at hst
        exact s_num (n := -4) (ev_un ev_c ru_neg) (e1.trans e2) fun v' H3 e3 hv => same (-4) [] hst v' H3 e3 hv
      · have q2 := of_decide_eq_false q2
        obtain ⟨l, hl⟩ : ∃ l, s.lights[n]? = some l := ⟨s.lights[n]'(by omega), List.getElem?_eq_getElem (by omega)⟩
        rw [hl] at hst
        dsimp only at hst
        obtain ⟨vl, hvl, hli⟩ := hc.light h3 hl
        obtain ⟨ql, ⟨⟨pl, dxl, vp, vh, vc, rfl, hpl, hr1, hr2, hr3⟩, okl⟩, _⟩ := id hli
        have e02 := e1.trans e2
        refine q_asg (v := .ref pl) (ev_op (ev_lights C (hc.mono e02) rfl) (ev_var rfl) (rv_il (e02 _ _ h3) (atI_nat hvl))) fun H3 e3 => ?_
        have e03 := e02.trans e3
        -- colour = light.colour_seen((x, y))
        refine ⟨_, rfl, pl, dxl, _, rfl, e03 _ _ hpl, lF_none (by decide +kernel) (by decide +kernel) (by decide +kernel) (by decide +kernel) (by decide +kernel), _, rfl, _, rfl, (by show 2 ≤ sizeLine; decide), fun p hp => ⟨(l, (x, y), s.coasts), ⟨⟨_, _, rfl, hli.mono (e03.trans (Ex.new hp)), ⟨p, rfl, upd_same⟩⟩, near_place (by rw [← placeB_is]; exact q)⟩, fun v H4 e4 hv => ?_⟩⟩
        have hv : v = .int (BnC.seenFrom s.coasts l (x, y) : Nat) := hv
        subst hv
        dsimp only [gName]
        have e04 := e03.trans ((Ex.new hp).trans e4)
        have hra : l.rhythmAt s.coasts (x, y) = if BnC.seenFrom s.coasts l (x, y) = 0 then none else some (recolour (BnC.seenFrom s.coasts l (x, y)) l.rhythm) := rfl
        have hle := seen_le okl s.coasts (x, y)
        generalize BnC.seenFrom s.coasts l (x, y) = c at hra hle
        refine q_when (b := decide (c = 0)) (et_test (ev_is (ev_op (ev_var rfl) ev_c (rv_eq rfl)) ?_)) (fun q3 H5 e5 => ?_) fun q3 H5 e5 => ?_
        · rw [int_eq]
          congr 1
          rw [decide_eq_decide]
          omega
        · rw [if_pos (of_decide_eq_true q3)] at hra
          rw [hra] at hst
          exact s_num (n := -3) (ev_un ev_c ru_neg) (e04.trans e5) fun v' H3 e3 hv => same (-3) [] hst v' H3 e3 hv
        · rw [if_neg (of_decide_eq_false q3)] at hra
          rw [hra] at hst
          dsimp only at hst
          have e05 := e04.trans e5
          have hlen : (Bn.Rhythm.text (recolour c l.rhythm)).length ≤ 160 := by
            rw [← text_is okl.rh c]
            have := toldGo_len (l.rhythm.map ofPhase) c [] fun x hx => by
              obtain ⟨y, ⟨hy, rfl⟩⟩ := List.mem_map.mp hx
              exact (okl.rh.1.each y hy).2.2
            have h32 := okl.rh.1.len
            rw [List.length_map, List.length_nil] at this
            omega
          -- text = write_rhythm(light.phases, colour)
          refine ⟨_, rfl, pl, _, dxl, _, _, rfl, e05 _ _ hpl, CL.cl, CL.n_phases, lF_phases, _, rfl, (l.rhythm.map ofPhase, c), ⟨⟨_, rfl, hr2.mono e05⟩, by show c < 5; omega, fun x hx => ?_, by rw [List.length_map]; exact okl.rh.1.len⟩, fun v H6 e6 hv => ?_⟩
          · obtain ⟨y, ⟨hy, rfl⟩⟩ := List.mem_map.mp hx
            exact (okl.rh.1.each y hy).2.2
          · have hv : IsBy H6 v (toldGo [] ((l.rhythm.map ofPhase).map (phaseText c))) := hv
            rw [text_is okl.rh c] at hv
            generalize Bn.Rhythm.text (recolour c l.rhythm) = tx at hv hst hlen
            obtain ⟨pv', rfl, hpv⟩ := hv
            dsimp only [gName]
            refine ⟨_, rfl, pv', _, rfl, .inl (sq_of hpv), (by show 1 ≤ sizeLine; decide), fun p1 hp1 => ⟨_, rfl, p1, pv', _, _, rfl, rfl, upd_same, Ex.new hp1 _ _ hpv, ?_, fun p2 hp2 => ?_⟩⟩
            · simp only [List.length_map, List.length_singleton]
              exact Nat.le_trans (by omega) (show 1000 ≤ sizeLine by decide)
            · have e06 := e05.trans (e6.trans (Ex.new (o := .lst [V.int (((tx.map byV).length : Nat) : Int)]) hp1))
              refine same _ _ hst _ _ (e06.trans (Ex.new hp2)) ⟨p2, rfl, fresh_back e06 hp2, ?_⟩
              rw [upd_same]
              simp only [List.map_map, List.length_map, List.map_cons, List.singleton_append]
              rfl
end
end Bc

namespace Bc
open PySem PySem.Spec PyProof.Rows L2 Evl
local macro_rules | `(tactic| walk_at "ev") => `(tactic| repeat' (first
  | with_reducible exact ev_c
  | with_reducible exact rv_I0
  | with_reducible exact ru_neg
  | with_reducible exact ea_nil
  | with_reducible refine' ev_var ?_
  | with_reducible refine' ev_chain ?_ ?_ ?_ ?_ ?_
  | with_reducible refine' ev_op ?_ ?_ ?_
  | with_reducible refine' ev_un ?_ ?_
  | with_reducible refine' ev_andV ?_ (fun _ => ?_)
  | with_reducible refine' ev_orV ?_ (fun _ => ?_)
  | with_reducible refine' ev_notV ?_
  | with_reducible refine' et_test ?_
  | with_reducible refine' et_B ?_
  | with_reducible refine' et_and ?_ (fun _ => ?_)
  | with_reducible refine' et_or ?_ (fun _ => ?_)
  | with_reducible refine' et_not ?_
  | with_reducible refine' ea_cons ?_ ?_
  | with_reducible refine' rv_it (by assumption) ?_
  | with_reducible refine' rv_mul ?_
  | with_reducible refine' rv_eq ?_
  | with_reducible refine' rv_ne ?_
  | exact rfl
  | ((with_reducible show CMul _ _); (try dsimp only at *); first | exact Or.inl ⟨by omega, by omega⟩ | exact Or.inr ⟨by omega, by omega⟩)))
section
variable {P : Program} {w : World} {K : PySem.W.Frag} {mg : Str → Option Value} {base : Heap} {ad : String → Addr}
theorem natL_at {l : List Nat} {i n : Nat} (h : l[i]? = some n) : (natL l)[i]? = some (.int (n : Nat)) := by
  unfold natL
  rw [List.getElem?_map, h]
  rfl
theorem natL_len (l : List Nat) : (natL l).length = l.length := by
  unfold natL
  rw [List.length_map]
theorem natL_back {l : List Nat} {i : Nat} {v : V} (h : (natL l)[i]? = some v) : ∃ n, l[i]? = some n ∧ v = .int (n : Nat) := by
  unfold natL at h
  rw [List.getElem?_map] at h
  cases e : l[i]? with
  | none => (rw [e] at h; exact nomatch h)
  | some n =>
    rw [e] at h
    exact ⟨n, rfl, (Option.some.inj h).symm⟩
abbrev s_count_colours : Stmt := top 76
abbrev N_count_colours : List Str := ["colours", "spots", "counts", "spot"]
theorem sc_count_colours : FnScope N_count_colours ["colours", "spots"] (defScope s_count_colours) := ⟨rfl, rfl, rfl, by decide +kernel, rfl, by decide +kernel, by decide +kernel⟩
def sp_count_colours : Sp := fun vs H Q _ => ∃ (cs sp : List Nat), (∃ v u, vs = [v, u] ∧ IsL H v (natL cs) ∧ IsL H u (natL sp)) ∧ (∀ i ∈ sp, i < cs.length) ∧ (∀ c ∈ cs, c ≤ 4) ∧ ∀ v H', Ex H H' → NewL H H' v (natL (cnt (sp.map fun i => cs.getD i 0))) → Q v H'
theorem cnt_len (l : List Nat) : (cnt l).length = 5 := by
  unfold cnt
  simp only [List.length_range, List.length_map]
theorem cnt_at (l : List Nat) {c : Nat} (h : c ≤ 4) : (cnt l)[c]? = some (l.filter fun x => x == c).length := by
  unfold cnt
  rw [List.getElem?_map, List.getElem?_range (by omega)]
  rfl
theorem cnt_add (l : List Nat) {x : Nat} (h : x ≤ 4) : cnt (l ++ [x]) = (cnt l).set x ((l.filter fun y => y == x).length + 1) := by
  refine List.ext_getElem? fun i => ?_
  rw [List.getElem?_set]
  by_cases c : x = i
  · subst c
    rw [if_pos rfl, if_pos (by rw [cnt_len]; omega), cnt_at _ h, List.filter_append, List.length_append]
    simp
  · rw [if_neg c]
    by_cases d : i ≤ 4
    · rw [cnt_at _ d, cnt_at _ d, List.filter_append, List.length_append]
      simp [show ¬ x = i from c]
    · rw [List.getElem?_eq_none (by rw [cnt_len]; omega), List.getElem?_eq_none (by rw [cnt_len]; omega)]
theorem natL_set (l : List Nat) (i n : Nat) : (natL l).set i (.int (n : Nat)) = natL (l.set i n) := by
  unfold natL
  rw [List.map_set]
theorem ok_count_colours (T : Tx K mg ad) {f : Addr} {fd : FuncData} (F : Fun K "count_colours" "count_colours" s_count_colours f fd) : FnOk P w K mg base CX0 1 f fd ["colours", "spots"] sp_count_colours := by
  refine F.ok sc_count_colours (fun vs H Q E h => ?_) (fun cdv A outer s H vs Q E hr h => ?_)
  · obtain ⟨cs, sp, ⟨v, u, rfl, _⟩, _⟩ := h
    rfl
  · refine ⟨_, (pss_cons (ps_set (i := 2) sc_count_colours.nd rfl (Or.inl rfl) (pe_op op_rep (pe_lst (pa_cons pe_int pa_nil)) (pe_op op_add (pe_gint (by rfl) T.g_LAST_COLOUR) pe_int)))
    (pss_cons (ps_for PassesOwn.never rfl (pi_list (pv 1)) (pg_name (i := 3) sc_count_colours.nd rfl (Or.inl rfl)) 
        (pss_one (ps_augS (pv 2) (pe_ix ix_list (pv 0) (pv 3) (fun _ _ => rfl)) get_list pe_int ip_add set_list)))
    (pss_one (ps_ret (pv 2))))), ?_⟩
    obtain ⟨cs, sp, ⟨v, u, rfl, ⟨pc, rfl, hpc⟩, ⟨ps, rfl, hps⟩⟩, hin, h4, k⟩ := h
    -- counts = [0] * (LAST_COLOUR + 1)
    refine ⟨(by show 1 ≤ sizeLine; decide), fun p1 hp1 => ⟨_, _, rfl, rfl, p1, _, _, rfl, rfl, upd_same, by decide, by decide, by decide, fun pn hpn => ?_⟩⟩
    have n1 := Ex.new (o := .lst [V.int 0]) hp1
    have hn0 : H pn = none := fresh_back n1 hpn
    have e1 := n1.trans (Ex.new (o := .lst (List.replicate (Int.toNat (4 + 1)) [V.int 0]).flatten) hpn)
    have h1 : upd (upd H p1 (.lst [V.int 0])) pn (.lst (List.replicate (Int.toNat (4 + 1)) [V.int 0]).flatten) pn = some (.lst (natL (cnt []))) := upd_same
    generalize upd (upd H p1 (.lst [V.int 0])) pn (.lst (List.replicate (Int.toNat (4 + 1)) [V.int 0]).flatten) = H1 at e1 h1
    dsimp only [gName]
    refine ⟨_, rfl, ps, rfl, ⟨_, sq_of (e1 _ _ hps)⟩, for_it (walk_list (K := K) (a := ps) (xs := natL sp)) (fun i σ H' => ∃ (y3 : Option V), σ = [some (.ref pc), some (.ref ps), some (.ref pn), y3] ∧ Ex H H' ∧ H' pn = some (.lst (natL (cnt ((sp.take i).map fun i => cs.getD i 0)))))
      ⟨none, rfl, e1, h1⟩ ?_ ?_ ?_⟩
    · rintro i σ H' _ ⟨y3, rfl, e, _⟩
      exact sq_of (e _ _ hps)
    · rintro i v σ H2 H3 hi ⟨y3, rfl, e, h2⟩ ⟨rfl, hx⟩
      obtain ⟨m, hmi, rfl⟩ := natL_back hx
      have hmc := hin m (List.mem_of_getElem? hmi)
      obtain ⟨c, hc⟩ : ∃ c, cs[m]? = some c := ⟨_, List.getElem?_eq_getElem hmc⟩
      have hc4 := h4 c (List.mem_of_getElem? hc)
      have hgd : cs.getD m 0 = c := by rw [List.getD_eq_getElem?_getD, hc]; rfl
      have hst : (sp.take (i + 1)).map (fun i => cs.getD i 0) = (sp.take i).map (fun i => cs.getD i 0) ++ [c] := by
        rw [take_next hmi, List.map_append]
        show _ ++ [cs.getD m 0] = _
        rw [hgd]
      rw [hst]
      generalize (sp.take i).map (fun i => cs.getD i 0) = acc at h2
      dsimp only [gName]
      refine ⟨_, rfl, _, rfl, _, rfl, pc, _, _, _, rfl, rfl, sq_of (e _ _ hpc), atI_nat (natL_at hc), pn, _, c, _, rfl, rfl, sq_of h2, natL_at (cnt_at acc hc4), _, _, rfl, rfl, pn, _, _, c, rfl, rfl, h2, ixN_nat (by rw [natL_len, cnt_len]; omega), _, rfl, Ex.mut e hn0, ?_⟩
      rw [upd_same, cnt_add acc hc4, ← natL_set]
      rfl
    · rintro σ H2 ⟨y3, rfl, e, h2⟩
      rw [natL_len, List.take_length] at h2
      dsimp only
      exact s_ret (v := .ref pn) (ev_var rfl) fun H3 e3 => k _ _ (e.trans e3) ⟨pn, rfl, hn0, e3 _ _ h2⟩
abbrev s_number_of_least_greatest : Stmt := top 77
abbrev N_number_of_least_greatest : List Str := ["counted", "best", "number", "counts"]
theorem sc_number_of_least_greatest : FnScope N_number_of_least_greatest ["counted"] (defScope s_number_of_least_greatest) := ⟨rfl, rfl, rfl, by decide +kernel, rfl, by decide +kernel, by decide +kernel⟩
def IsRwl (H : Hp) (v : V) (rs : List (List Nat)) : Prop := ∃ p vs, v = .ref p ∧ H p = some (.lst vs) ∧ Reps (fun v r => IsL H v (natL r)) vs rs
theorem IsRwl.mono {H H' : Hp} {v : V} {rs : List (List Nat)} (h : IsRwl H v rs) (e : Ex H H') : IsRwl H' v rs := by
  obtain ⟨p, vs, rfl, hp, hr⟩ := h
  exact ⟨p, vs, rfl, e _ _ hp, hr.imp fun v x q => q.mono e⟩
def sp_number_of_least_greatest : Sp := spFn (fun vs H (rs : List (List Nat)) => (∃ v, vs = [v] ∧ IsRwl H v rs) ∧ ∀ r ∈ rs, r ≠ []) fun rs v _ => v = .int (least rs : Nat)
theorem rc_mx {H : Hp} {p : Addr} {r : List Nat} (h : H p = some (.lst (natL r))) (hr : r ≠ []) : RC (rMax K) [.ref p] H (.int (mx r : Nat)) := fun H1 e Q q => by
  refine ⟨p, r.map fun (n : Nat) => (n : Int), rfl, ?_, ?_, fun m hm hle => ?_⟩
  · rw [List.map_map]
    exact sq_of (e _ _ h)
  · rw [List.length_map]
    exact List.length_pos_iff.mpr hr
  · obtain ⟨n, hn, rfl⟩ := List.mem_map.mp hm
    have : n = mx r := mx_is hn fun y hy => by
      have := hle (y : Int) (List.mem_map.mpr ⟨y, hy, rfl⟩)
      omega
    rw [this]
    exact q _ (Ex.refl _)
theorem ok_number_of_least_greatest (T : Tx K mg ad) {f : Addr} {fd : FuncData} (F : Fun K "number_of_least_greatest" "number_of_least_greatest" s_number_of_least_greatest f fd) : FnOk P w K mg base CX0 1 f fd ["counted"] sp_number_of_least_greatest := by
  refine F.ok sc_number_of_least_greatest (fun vs H Q E h => ?_) (fun cdv A outer s H vs Q E hr h => ?_)
  · obtain ⟨a, ⟨⟨v, rfl, _⟩, _⟩, _⟩ := h
    rfl
  · refine ⟨_, (pss_cons (ps_set (i := 1) sc_number_of_least_greatest.nd rfl (Or.inl rfl) pe_int)
    (pss_cons (ps_for PassesOwn.never rfl (pi_enum (by rfl) T.b_enumerate (pa_cons (pv 0) pa_nil)) (pg_tup rfl (pgs_cons (pg_name (i := 2) sc_number_of_least_greatest.nd rfl (Or.inl rfl)) (pgs_cons (pg_name (i := 3) sc_number_of_least_greatest.nd rfl (Or.inl rfl)) pgs_nil))) 
        (pss_one (ps_if (pt_cmpR op_lt (pe_callB (cr_max rfl) (by rfl) T.b_max (by decide +kernel) (pa_cons (pv 3) pa_nil)) (pe_callB (cr_max rfl) (by rfl) T.b_max (by decide +kernel) (pa_cons (pe_ix ix_list (pv 0) (pv 1) (fun _ _ => rfl)) pa_nil)) (nomark _)) 
            (pss_one (ps_set (i := 1) sc_number_of_least_greatest.nd rfl (Or.inl rfl) (pv 2))) pss_nil)))
    (pss_one (ps_ret (pv 1))))), ?_⟩
    obtain ⟨rs, ⟨⟨v, rfl, pa, vs, rfl, ha, hvs⟩, hne⟩, k⟩ := h
    have k : ∀ v H', Ex H H' → v = .int (least rs : Nat) → Q v H' := k
    refine q_asg (v := .int 0) ev_c fun H1 e1 => ?_
    refine ⟨_, rfl, pa, vs, rfl, sq_of (e1 _ _ ha), for_it (walk_enum (K := K) (a := pa) (xs := vs)) (fun i σ H' => ∃ (b : Nat) (y2 y3 : Option V), σ = [some (.ref pa), some (.int (b : Nat)), y2, y3] ∧ Ex H H' ∧ (0 < i → b < rs.length) ∧ (b = 0 ∨ b < rs.length) ∧
        b = ((rs.zipIdx).take i).foldl (fun (b : Nat) (x : List Nat × Nat) => if mx x.1 < mx (rs.getD b []) then x.2 else b) 0)
      ⟨0, none, none, rfl, e1, fun z => absurd z (by decide), .inl rfl, rfl⟩ ?_ ?_ ?_⟩
    · rintro i σ H' _ ⟨b, y2, y3, _, h, _⟩
      exact sq_of (h _ _ ha)
    · rintro i v σ H2 H3 hi ⟨b, y2, y3, rfl, h1, hb0, hb1, hb⟩ ⟨pt, x, y, rfl, nt, rfl, hx, hy⟩
      cases hx
      have nE := Ex.new (o := .tup [V.int (i : Nat), y]) nt
      obtain ⟨r, hri, pr, rfl, hpr⟩ := hvs.2 i y hy
      have hlen : i < rs.length := (List.getElem?_eq_some_iff.mp hri).1
      have hbl : b < rs.length := by
        rcases hb1 with z | z
        · omega
        · exact z
      obtain ⟨rb, hrb⟩ : ∃ rb, rs[b]? = some rb := ⟨_, List.getElem?_eq_getElem hbl⟩
      obtain ⟨vb, hvb, pb, rfl, hpb⟩ := hvs.at hrb
      have hgd : rs.getD b [] = rb := by rw [List.getD_eq_getElem?_getD, hrb]; rfl
      have hz : (rs.zipIdx)[i]? = some (r, i) := by
        rw [List.getElem?_zipIdx, hri]
        simp
      have hst : ((rs.zipIdx).take (i + 1)).foldl (fun (b : Nat) (x : List Nat × Nat) => if mx x.1 < mx (rs.getD b []) then x.2 else b) 0 = if mx r < mx rb then i else b := by
        rw [take_next hz, List.foldl_append, ← hb]
        show (if mx r < mx (rs.getD b []) then i else b) = _
        rw [hgd]
      have e2 := h1.trans nE
      refine ⟨pt, _, rfl, st_of upd_same, rfl, _, _, rfl, _, _, rfl, rfl, ?_⟩
      dsimp only
      refine s_when (b := decide (mx r < mx rb)) (et_test (ev_is (ev_op (ev_cb (ea_cons (ev_var rfl) ea_nil) (rc_mx (e2 _ _ hpr) (hne r (List.mem_of_getElem? hri)))) (ev_cb (ea_cons (ev_op (ev_var rfl) (ev_var rfl) (rv_il (e2 _ _ ha) (atI_nat hvb))) ea_nil) (rc_mx (e2 _ _ hpb) (hne rb (List.mem_of_getElem? hrb)))) rv_I0) ?_)) (fun q H4 e4 => ?_) fun q H4 e4 => ?_
      · congr 1
        rw [decide_eq_decide]
        omega
      · rw [if_pos (of_decide_eq_true q)] at hst
        refine s_asg (v := .int (i : Nat)) (ev_var rfl) fun H5 e5 => ⟨i, _, _, rfl, e2.trans (e4.trans e5), fun _ => hlen, .inr hlen, hst.symm⟩
      · rw [if_neg (of_decide_eq_false q)] at hst
        exact ⟨b, _, _, rfl, e2.trans e4, fun _ => hbl, .inr hbl, hst.symm⟩
    · rintro σ H2 ⟨b, y2, y3, rfl, h1, hb0, hb1, hb⟩
      rw [hvs.1, List.take_of_length_le (by rw [List.length_zipIdx]; exact Nat.le_refl _)] at hb
      dsimp only
      exact s_ret (v := .int (b : Nat)) (ev_var rfl) fun H3 e3 => k _ _ (h1.trans e3) (by rw [hb]; rfl)
end
end Bc

namespace Bc
open PySem PySem.Spec PyProof.Rows L2 Evl
local macro_rules | `(tactic| walk_at "ev") => `(tactic| repeat' (first
  | with_reducible exact ev_c
  | with_reducible exact rv_I0
  | with_reducible exact ru_neg
  | with_reducible exact ea_nil
  | with_reducible refine' ev_var ?_
  | with_reducible refine' ev_chain ?_ ?_ ?_ ?_ ?_
  | with_reducible refine' ev_op ?_ ?_ ?_
  | with_reducible refine' ev_un ?_ ?_
  | with_reducible refine' ev_andV ?_ (fun _ => ?_)
  | with_reducible refine' ev_orV ?_ (fun _ => ?_)
  | with_reducible refine' ev_notV ?_
  | with_reducible refine' et_test ?_
  | with_reducible refine' et_B ?_
  | with_reducible refine' et_and ?_ (fun _ => ?_)
  | with_reducible refine' et_or ?_ (fun _ => ?_)
  | with_reducible refine' et_not ?_
  | with_reducible refine' ea_cons ?_ ?_
  | with_reducible refine' rv_it (by assumption) ?_
  | with_reducible refine' rv_mul ?_
  | with_reducible refine' rv_eq ?_
  | with_reducible refine' rv_ne ?_
  | exact rfl
  | ((with_reducible show CMul _ _); (try dsimp only at *); first | exact Or.inl ⟨by omega, by omega⟩ | exact Or.inr ⟨by omega, by omega⟩)))
section
variable {P : Program} {w : World} {K : PySem.W.Frag} {mg : Str → Option Value} {base : Heap} {ad : String → Addr}
/-! ### what is left of a field -/
/-- it's seen so from the i-th place -/
def soAt (s : Wqatdz.State) (ps : List Pt) (x : Nat × Nat) (i : Nat) : Bool := match s.lights[x.1]? with
  | none => false
  | some l => (cols s.coasts l ps).getD i 0 == x.2
def spotsOf (s : Wqatdz.State) (ps : List Pt) (t : List (Nat × Nat)) : List Nat := (List.range ps.length).filter fun i => t.all fun x => soAt s ps x i
theorem spots_len (s : Wqatdz.State) (ps : List Pt) (t : List (Nat × Nat)) : (spotsOf s ps t).length ≤ ps.length := by
  unfold spotsOf
  refine Nat.le_trans (List.length_filter_le _ _) ?_
  rw [List.length_range]
  exact Nat.le_refl _
theorem spots_in {s : Wqatdz.State} {ps : List Pt} {t : List (Nat × Nat)} {i : Nat} (h : i ∈ spotsOf s ps t) : i < ps.length := by
  unfold spotsOf at h
  exact List.mem_range.mp (List.mem_filter.mp h).1
theorem soAt_is {s : Wqatdz.State} {ps : List Pt} {x : Nat × Nat} {i : Nat} {p : Pt} (h : ps[i]? = some p) : soAt s ps x i = (match s.lights[x.1]? with | none => false | some l => BnC.seenFrom s.coasts l p == x.2) := by
  unfold soAt cols
  cases s.lights[x.1]? with
  | none => rfl
  | some l =>
    dsimp only
    rw [List.getD_eq_getElem?_getD, List.getElem?_map, h]
    rfl
/-- the places at the spots: those where it's so -/
theorem spots_places (s : Wqatdz.State) (ps : List Pt) (t : List (Nat × Nat)) : (spotsOf s ps t).map (fun i => ps.getD i (0, 0)) = ps.filter (BnC.agrees s.coasts s.lights t) := by
  have go : ∀ (qs : List Pt) (k : Nat), (∀ i p, qs[i]? = some p → ps[k + i]? = some p) → (((List.range' k qs.length).filter fun i => t.all fun x => soAt s ps x i).map fun i => ps.getD i (0, 0)) = qs.filter (BnC.agrees s.coasts s.lights t) := by
    intro qs
    induction qs with
    | nil => intro k _; rfl
    | cons p qs ih =>
      intro k h
      have hp : ps[k]? = some p := h 0 p rfl
      have hn := ih (k + 1) fun i q e => by
        have := h (i + 1) q e
        rwa [show k + (i + 1) = k + 1 + i by omega] at this
      rw [List.length_cons, List.range'_succ, List.filter_cons, List.filter_cons]
      have e : (t.all fun x => soAt s ps x k) = BnC.agrees s.coasts s.lights t p := by
        unfold BnC.agrees
        congr 1
        funext x
        exact soAt_is hp
      rw [e]
      cases c : BnC.agrees s.coasts s.lights t p with
      | true =>
        rw [if_pos rfl, if_pos rfl, List.map_cons, hn]
        congr 1
        rw [List.getD_eq_getElem?_getD, hp]
        rfl
      | false =>
        rw [if_neg (by decide), if_neg (by decide), hn]
  have := go ps 0 fun i p h => by rw [Nat.zero_add]; exact h
  unfold spotsOf
  rw [List.range_eq_range']
  exact this
theorem rgV_nat (n : Nat) : rgV 0 (n : Int) = natL (List.range n) := by
  unfold rgV natL
  rw [show ((n : Int) - 0).toNat = n by omega]
  apply List.map_congr_left fun i _ => ?_
  rw [Int.zero_add]
theorem range_take {n i : Nat} (h : i < n) : (List.range n)[i]? = some i := List.getElem?_range h
abbrev s_Chart_spots_left : Stmt := inClass (top 74) 12
abbrev N_Chart_spots_left : List Str := ["self", "walks", "pairs", "spots", "number", "colour", "colours", "spot"]
theorem sc_Chart_spots_left : FnScope N_Chart_spots_left ["self", "walks", "pairs"] (defScope s_Chart_spots_left) := ⟨rfl, rfl, rfl, by decide +kernel, rfl, by decide +kernel, by decide +kernel⟩
def sp_Chart_spots_left (_K : PySem.W.Frag) (ad : String → Addr) : Sp := spFn (fun vs H (c : Wqatdz.State × List Wk × List (Nat × Nat)) => (∃ a la ca sh S u x, vs = [.ref a, u, x] ∧ ChartAt ad H a la ca sh S c.1 ∧ IsWks H u c.2.1 ∧ IsTPs H x c.2.2) ∧ (placesOver c.2.1).length ≤ 1024 ∧ ∀ x ∈ c.2.2, x.1 < c.1.lights.length)
  fun c v H' => IsL H' v (natL (spotsOf c.1 (placesOver c.2.1) c.2.2))
theorem ok_Chart_spots_left (T : Tx K mg ad) (C : Cl_Chart K (ad "Chart")) (D_places_over : Df P w K mg base "places_over" 2 ["walks"] sp_places_over) (DM_Light_colours_over : Dm P w K mg base (ad "Light") "colours_over" 6 ["self", "walks"] (sp_Light_colours_over K ad))
    {f : Addr} {fd : FuncData} (F : Fun K "spots_left" "Chart.spots_left" s_Chart_spots_left f fd) : FnOk P w K mg base CX0 7 f fd ["self", "walks", "pairs"] (sp_Chart_spots_left K ad) := by
  refine F.ok sc_Chart_spots_left (fun vs H Q E h => ?_) (fun cdv A outer s H vs Q E hr h => ?_)
  · obtain ⟨c, ⟨⟨a, la, ca, sh, S, u, x, rfl, _⟩, _⟩, _⟩ := h
    rfl
  · refine ⟨_, (pss_cons (ps_set (i := 3) sc_Chart_spots_left.nd rfl (Or.inl rfl) (pe_listRg rfl (by rfl) T.b_list (prg_1 (by rfl) T.b_range (pe_callB call_len_seq (by rfl) T.b_len PySem.boot_len (pa_cons (pe_df D_places_over (hr.mono (by decide)) (by rfl) (pa_cons (pv 1) pa_nil)) pa_nil)))))
    (pss_cons (ps_for PassesOwn.never rfl (pi_list (pv 2)) (pg_tup rfl (pgs_cons (pg_name (i := 4) sc_Chart_spots_left.nd rfl (Or.inl rfl)) (pgs_cons (pg_name (i := 5) sc_Chart_spots_left.nd rfl (Or.inr rfl)) pgs_nil))) 
        (pss_cons (ps_set (i := 6) sc_Chart_spots_left.nd rfl (Or.inr rfl) (pe_dm DM_Light_colours_over (hr.mono (by decide)) (pe_ix ix_list (pe_fld (pv 0) rfl) (pv 4) (fun _ _ => rfl)) (pa_cons (pv 1) pa_nil)))
        (pss_one (ps_setLc (own := [("spot", 7)]) (tt := (tTest (tOp rEq (tOp (rIxL K) (tVar 6) (tVar 7)) (tVar 5)))) (i := 3) rfl sc_Chart_spots_left.nd rfl rfl (sw_true rfl rfl rfl (by decide +kernel)) (pi_list (pv 3)) (blkOk_by (N := N_Chart_spots_left) (sc := defScope s_Chart_spots_left) (by decide +kernel)) (by intro _ _ _ _ _; exact (pg_name (i := 7) sc_Chart_spots_left.nd rfl (Or.inl rfl))) (by intro _ _ _ _ _; exact (pts_one (pt_cmpR op_eq (pe_ix ix_list (pv 6) (pv 7) (fun _ _ => rfl)) (pv 5) (nomark _)))) (by intro _ _ _ _ _; exact (pv 7))))))
    (pss_one (ps_ret (pv 3))))), ?_⟩
    obtain ⟨⟨s, ws, t⟩, ⟨⟨a, la, ca, sh, S, u, x, rfl, hc, hw, ⟨px, vx, rfl, hpx, hvx⟩⟩, hlen, hin⟩, k⟩ := h
    dsimp only at hc hw hpx hvx hlen hin
    have k : ∀ v H', Ex H H' → IsL H' v (natL (spotsOf s (placesOver ws) t)) → Q v H' := k
    obtain ⟨dx, hme⟩ := hc.me
    obtain ⟨lv, h3, h4⟩ := hc.ls
    -- spots = list(range(len(places_over(walks))))
    refine ⟨_, rfl, ws, ⟨⟨_, rfl, hw⟩, by omega⟩, fun v1 H1 e1 g1 => ?_⟩
    obtain ⟨p1, vp, rfl, hp1, hvp⟩ := g1
    refine ⟨p1, vp, rfl, .inl (sq_of hp1), _, rfl, RgOk.of_le (by decide) (by rw [hvp.1]; omega) (by decide) (by omega), fun q0 hq0 => ?_⟩
    have e01 := e1.trans (Ex.new (o := .lst (rgV 0 (vp.length : Nat))) hq0)
    have hs0 : IsL (upd H1 q0 (.lst (rgV 0 (vp.length : Nat)))) (.ref q0) (natL (spotsOf s (placesOver ws) (t.take 0))) := by
      refine ⟨q0, rfl, ?_⟩
      rw [upd_same, hvp.1, rgV_nat]
      congr 2
      unfold spotsOf
      rw [List.take_zero]
      show natL (List.range (placesOver ws).length) = natL (List.filter (fun _ => true) (List.range (placesOver ws).length))
      rw [List.filter_eq_self.mpr fun _ _ => rfl]
    generalize upd H1 q0 (.lst (rgV 0 (vp.length : Nat))) = H1' at e01 hs0
    dsimp only [gName]
    refine ⟨_, rfl, px, rfl, ⟨_, sq_of (e01 _ _ hpx)⟩, for_it (walk_list (K := K) (a := px) (xs := vx)) (fun i σ H' => ∃ (vs : V) (y4 y5 y6 y7 : Option V), σ = [some (.ref a), some u, some (.ref px), some vs, y4, y5, y6, y7] ∧ Ex H H' ∧ IsL H' vs (natL (spotsOf s (placesOver ws) (t.take i))))
      ⟨_, none, none, none, none, rfl, e01, hs0⟩ ?_ ?_ ?_⟩
    · rintro i σ H' hi ⟨vs, y4, y5, y6, y7, rfl, e, _⟩
      exact sq_of (e _ _ hpx)
    · rintro i v σ H2 H3 hi ⟨vs, y4, y5, y6, y7, rfl, e, ⟨ps, rfl, hps⟩⟩ ⟨rfl, hxi⟩
      obtain ⟨⟨n, c⟩, hti, pt, rfl, hpt⟩ := hvx.2 i v hxi
      have hnl : n < s.lights.length := hin (n, c) (List.mem_of_getElem? hti)
      obtain ⟨l, hl⟩ : ∃ l, s.lights[n]? = some l := ⟨_, List.getElem?_eq_getElem hnl⟩
      obtain ⟨vl, hvl, hll⟩ := hc.light h3 hl
      obtain ⟨ql, ⟨⟨pl, dxl, vpp, vh, vc, rfl, hpl, hrest⟩, okl⟩, _⟩ := id hll
      refine ⟨pt, _, rfl, st_of (e _ _ hpt), rfl, _, _, rfl, _, _, rfl, rfl, ?_⟩
      dsimp only
      -- colours = self.lights[number].colours_over(walks)
      refine ⟨_, rfl, a, _, dx, _, _, rfl, e _ _ hme, C.cl, C.n_lights, cF_lights, _, rfl, la, lv, _, _, rfl, rfl, sq_of (e _ _ h3), atI_nat hvl, pl, dxl, _, rfl, e _ _ hpl, lF_none (by decide +kernel) (by decide +kernel) (by decide +kernel) (by decide +kernel) (by decide +kernel), _, rfl, l, s.coasts, ws, ⟨_, _, rfl, hll.mono e, hw.mono e⟩, by omega, fun v4 H4 e4 h4c f4 => ?_⟩
      obtain ⟨pc, rfl, hpc⟩ := h4c
      dsimp only [gName]
      have hps4 := e4 _ _ hps
      have e04 := e.trans e4
      have hcl : (cols s.coasts l (placesOver ws)).length = (placesOver ws).length := by
        unfold cols
        rw [List.length_map]
      -- spots = [spot for spot in spots if colours[spot] == colour]
      refine ⟨_, rfl, ps, rfl, ⟨_, sq_of hps4⟩, fun D hD => lc_it (walk_list (K := K) (a := ps) (xs := natL (spotsOf s (placesOver ws) (t.take i)))) (fun j H' => Ex H4 H' ∧ H' D = some (.lst (natL (((spotsOf s (placesOver ws) (t.take i)).take j).filter fun m => soAt s (placesOver ws) (n, c) m)))) ⟨Ex.new hD, upd_same⟩ (fun j H' _ h => sq_of (h.1 _ _ hps4)) ?_ ?_⟩
      · rintro j v H5 H6 hj ⟨e5, h5⟩ ⟨rfl, hxj⟩
        obtain ⟨m, hm, rfl⟩ := natL_back hxj
        have hml := spots_in (List.mem_of_getElem? hm)
        obtain ⟨cc, hcc⟩ : ∃ cc, (cols s.coasts l (placesOver ws))[m]? = some cc := ⟨_, List.getElem?_eq_getElem (by rw [hcl]; exact hml)⟩
        have hso : soAt s (placesOver ws) (n, c) m = (cc == c) := by
          unfold soAt
          dsimp only
          rw [hl]
          dsimp only
          rw [List.getD_eq_getElem?_getD, hcc]
          rfl
        refine ⟨rfl, ?_⟩
        refine (et_test (ev_is (ev_op (ev_op (ev_var rfl) (ev_var rfl) (rv_il (e5 _ _ hpc) (atI_nat (natL_at hcc)))) (ev_var rfl) (rv_eq rfl)) ?_) : EvT _ _ _ (soAt s (placesOver ws) (n, c) m)) H6 (Ex.refl _) _ fun H7 e7 => ?_
        · rw [int_eq, hso]
          congr 1
          rw [Bool.eq_iff_iff, decide_eq_true_iff, beq_iff_eq]
          omega
        have hD7 := e7 _ _ h5
        have htk : ((spotsOf s (placesOver ws) (t.take i)).take (j + 1)).filter (fun m => soAt s (placesOver ws) (n, c) m) = ((spotsOf s (placesOver ws) (t.take i)).take j).filter (fun m => soAt s (placesOver ws) (n, c) m) ++ [m].filter (fun m => soAt s (placesOver ws) (n, c) m) := by
          rw [take_next hm, List.filter_append]
        cases hq : soAt s (placesOver ws) (n, c) m with
        | true =>
          rw [if_pos rfl]
          have hf : [m].filter (fun m => soAt s (placesOver ws) (n, c) m) = [m] := by rw [List.filter_cons, hq, if_pos rfl]; rfl
          refine ⟨_, rfl, _, hD7, ?_, Ex.mut (e5.trans e7) hD, ?_⟩
          · rw [natL_len]
            have h1 := List.length_filter_le (fun m => soAt s (placesOver ws) (n, c) m) ((spotsOf s (placesOver ws) (t.take i)).take j)
            have h2 := List.length_take_le' j (spotsOf s (placesOver ws) (t.take i))
            have h3 := spots_len s (placesOver ws) (t.take i)
            exact Nat.lt_of_le_of_lt (show _ ≤ 1024 by omega) (by decide)
          · rw [upd_same, htk, hf]
            unfold natL
            rw [List.map_append]
            rfl
        | false =>
          rw [if_neg (by decide)]
          have hf : [m].filter (fun m => soAt s (placesOver ws) (n, c) m) = [] := by rw [List.filter_cons, hq, if_neg (by decide)]; rfl
          refine ⟨e5.trans e7, ?_⟩
          rw [htk, hf, List.append_nil]
          exact hD7
      · rintro H5 ⟨e5, h5⟩
        refine ⟨_, _, _, _, _, rfl, e04.trans e5, D, rfl, ?_⟩
        rw [h5, natL_len, List.take_length]
        congr 3
        unfold spotsOf
        rw [List.filter_filter, take_next hti]
        congr 1
        funext m
        rw [List.all_append]
        simp [Bool.and_comm]
    · rintro σ H2 ⟨vs, y4, y5, y6, y7, rfl, e, hs⟩
      rw [hvx.1, List.take_length] at hs
      dsimp only
      exact s_ret (v := vs) (ev_var rfl) fun H3 e3 => k _ _ (e.trans e3) (hs.mono e3)
end
end Bc

namespace Bc
open PySem PySem.Spec PyProof.Rows L2 Evl
local macro_rules | `(tactic| walk_at "ev") => `(tactic| repeat' (first
  | with_reducible exact ev_c
  | with_reducible exact rv_I0
  | with_reducible exact ru_neg
  | with_reducible exact ea_nil
  | with_reducible refine' ev_var ?_
  | with_reducible refine' ev_chain ?_ ?_ ?_ ?_ ?_
  | with_reducible refine' ev_op ?_ ?_ ?_
  | with_reducible refine' ev_un ?_ ?_
  | with_reducible refine' ev_andV ?_ (fun _ => ?_)
  | with_reducible refine' ev_orV ?_ (fun _ => ?_)
  | with_reducible refine' ev_notV ?_
  | with_reducible refine' et_test ?_
  | with_reducible refine' et_B ?_
  | with_reducible refine' et_and ?_ (fun _ => ?_)
  | with_reducible refine' et_or ?_ (fun _ => ?_)
  | with_reducible refine' et_not ?_
  | with_reducible refine' ea_cons ?_ ?_
  | with_reducible refine' rv_it (by assumption) ?_
  | with_reducible refine' rv_mul ?_
  | with_reducible refine' rv_eq ?_
  | with_reducible refine' rv_ne ?_
  | exact rfl
  | ((with_reducible show CMul _ _); (try dsimp only at *); first | exact Or.inl ⟨by omega, by omega⟩ | exact Or.inr ⟨by omega, by omega⟩)))
section
variable {P : Program} {w : World} {K : PySem.W.Frag} {mg : Str → Option Value} {base : Heap} {ad : String → Addr}
/-- a field and what's told: what is refused, or which light's colours -/
def lookOf (s : Wqatdz.State) (a b : Pt) (t : List Nat) : Except Int (List (Nat × Nat)) := if (!fieldB a b) = true then .error (-1) else match readPairs t with
  | none => .error (-1)
  | some u => if (u.any fun x => decide (s.lights.length ≤ x.1)) = true then .error (-4) else .ok u
def LookIs (s : Wqatdz.State) (a b : Pt) (H : Hp) (v : V) : Except Int (List (Nat × Nat)) → Prop
  | .error n => ∃ x y, IsT H v [x, y, .int n]
  | .ok u => ∃ x y, IsT H v [x, y, .non] ∧ IsWks H x (walksOver a b) ∧ IsL H y (natL (spotsOf s (placesOver (walksOver a b)) u))
theorem over_len {a b : Pt} (h : FieldOk a b) : (placesOver (walksOver a b)).length ≤ 1024 := by
  rw [(places_perm a b).length_eq]
  unfold BnC.field
  have e : ∀ (n m : Nat) (f : Nat → Nat → Pt), ((List.range n).flatMap fun j => (List.range m).map fun i => f i j).length = n * m := fun n m f => by
    rw [List.flatMap_def, List.length_flatten, List.map_map]
    have : (List.range n).map (List.length ∘ fun j => (List.range m).map fun i => f i j) = List.replicate n m := by
      refine List.ext_getElem? fun i => ?_
      rw [List.getElem?_map, List.getElem?_replicate]
      by_cases c : i < n
      · rw [List.getElem?_range c, if_pos c]
        simp
      · rw [List.getElem?_eq_none (by simpa using c), if_neg c]
        rfl
    rw [this, List.sum_replicate_nat]
  rw [e]
  have h1 := h.wd
  have h2 := h.ht
  have h3 := h.n
  obtain ⟨wd, hwd⟩ : ∃ wd : Nat, b.1 - a.1 + 1 = (wd : Int) := ⟨(b.1 - a.1 + 1).toNat, by omega⟩
  obtain ⟨ht, hht⟩ : ∃ ht : Nat, b.2 - a.2 + 1 = (ht : Int) := ⟨(b.2 - a.2 + 1).toNat, by omega⟩
  rw [hwd, hht] at h3 ⊢
  rw [Int.toNat_natCast, Int.toNat_natCast]
  have : ((wd * ht : Nat) : Int) ≤ 1024 := by rw [Int.natCast_mul]; exact h3
  rw [Nat.mul_comm]
  omega
abbrev s_Chart_look_over : Stmt := inClass (top 74) 11
abbrev N_Chart_look_over : List Str := ["self", "corner", "opposite", "told", "pairs", "walks", "number", "colour"]
theorem sc_Chart_look_over : FnScope N_Chart_look_over ["self", "corner", "opposite", "told"] (defScope s_Chart_look_over) := ⟨rfl, rfl, rfl, by decide +kernel, rfl, by decide +kernel, by decide +kernel⟩
def sp_Chart_look_over (_K : PySem.W.Frag) (ad : String → Addr) : Sp := spFn (fun vs H (c : Wqatdz.State × Pt × Pt × List Nat) => (∃ a la ca sh S u x y, vs = [.ref a, u, x, y] ∧ ChartAt ad H a la ca sh S c.1 ∧ IsPt H u c.2.1 ∧ IsPt H x c.2.2.1 ∧ IsL H y (natL c.2.2.2)) ∧ c.2.2.2.length ≤ 30000)
  fun c v H' => LookIs c.1 c.2.1 c.2.2.1 H' v (lookOf c.1 c.2.1 c.2.2.1 c.2.2.2)
theorem ok_Chart_look_over (T : Tx K mg ad) (C : Cl_Chart K (ad "Chart")) (D_read_pairs : Df P w K mg base "read_pairs" 1 ["told"] sp_read_pairs) (D_is_field : Df P w K mg base "is_field" 2 ["corner", "opposite"] sp_is_field) (D_walks_over : Df P w K mg base "walks_over" 1 ["corner", "opposite"] sp_walks_over)
    (DM_Chart_spots_left : Dm P w K mg base (ad "Chart") "spots_left" 7 ["self", "walks", "pairs"] (sp_Chart_spots_left K ad))
    {f : Addr} {fd : FuncData} (F : Fun K "look_over" "Chart.look_over" s_Chart_look_over f fd) : FnOk P w K mg base CX0 8 f fd ["self", "corner", "opposite", "told"] (sp_Chart_look_over K ad) := by
  refine F.ok sc_Chart_look_over (fun vs H Q E h => ?_) (fun cdv A outer s H vs Q E hr h => ?_)
  · obtain ⟨c, ⟨⟨a, la, ca, sh, S, u, x, y, rfl, _⟩, _⟩, _⟩ := h
    rfl
  · refine ⟨_, (pss_cons (ps_set (i := 4) sc_Chart_look_over.nd rfl (Or.inl rfl) (pe_df D_read_pairs (hr.mono (by decide)) (by rfl) (pa_cons (pv 3) pa_nil)))
    (pss_cons (ps_if (PW.pt (pw_or (pt_not (pt_val (pe_df D_is_field (hr.mono (by decide)) (by rfl) (pa_cons (pv 1) (pa_cons (pv 2) pa_nil))))) (pw_or1 (pt_cmpR op_isN (pv 4) pe_non (nomark _))))) 
        (pss_one (ps_ret (pe_tup (pa_cons (pe_lst pa_nil) (pa_cons (pe_lst pa_nil) (pa_cons (pe_un un_neg pe_int) pa_nil)))))) pss_nil)
    (pss_cons (ps_if (pt_val (pe_callB (cr_any rfl) (by rfl) T.b_any (by decide +kernel) (pa_cons (pe_lc (own := [("number", 6), ("colour", 7)]) (g := (gTup K 2 (gCons (gName 6) (gCons (gName 7) gNil)))) (te := (tOp (rI0 fun i j => .bl (decide (j ≤ i))) (tVar 6) (tCB (rLenS K) (tCons (tFld K (tVar 0) "lights") tNil)))) rfl sc_Chart_look_over.nd (pi_list (pv 4)) (blkOk_by (N := N_Chart_look_over) (sc := defScope s_Chart_look_over) (by decide +kernel)) (by intro _ _ _ _ _; exact (pg_tup rfl (pgs_cons (pg_name (i := 6) sc_Chart_look_over.nd rfl (Or.inl rfl)) (pgs_cons (pg_name (i := 7) sc_Chart_look_over.nd rfl (Or.inl rfl)) pgs_nil)))) (by intro _ _ _ _ _; exact pts_nil) (by intro _ _ _ _ _; exact (pe_cmpR op_ge (pv 6) (pe_callB call_len_seq (by rfl) T.b_len PySem.boot_len (pa_cons (pe_fld (pv 0) rfl) pa_nil)) (nomark _)))) pa_nil))) 
        (pss_one (ps_ret (pe_tup (pa_cons (pe_lst pa_nil) (pa_cons (pe_lst pa_nil) (pa_cons (pe_un un_neg pe_int) pa_nil)))))) pss_nil)
    (pss_cons (ps_set (i := 5) sc_Chart_look_over.nd rfl (Or.inl rfl) (pe_df D_walks_over (hr.mono (by decide)) (by rfl) (pa_cons (pv 1) (pa_cons (pv 2) pa_nil))))
    (pss_one (ps_ret (pe_tup (pa_cons (pv 5) (pa_cons (pe_dm DM_Chart_spots_left (hr.mono (by decide)) (pv 0) (pa_cons (pv 5) (pa_cons (pv 4) pa_nil))) (pa_cons pe_non pa_nil)))))))))), ?_⟩
    obtain ⟨⟨s, p, q, t⟩, ⟨⟨a, la, ca, sh, S, u, x, y, rfl, hc, hu, hx, hy⟩, hlen⟩, k⟩ := h
    dsimp only at hc hu hx hy hlen
    have k : ∀ v H', Ex H H' → LookIs s p q H' v (lookOf s p q t) → Q v H' := k
    obtain ⟨dx, hme⟩ := hc.me
    obtain ⟨lv, h3, h4⟩ := hc.ls
    -- a refusal
    have no : ∀ {σ : L2.St} {H1 : Hp} {te : TE} {n : Int} {Dx : Ends}, Ex H H1 → Ev te σ H1 (.int n) → lookOf s p q t = .error n → Dx.rt = Q → tRet (tTup (tCons (tLst tNil) (tCons (tLst tNil) (tCons te tNil)))) Dx σ H1 := by
      intro σ H1 te n Dx e hn hl hq
      refine ⟨Nat.zero_le _, fun l1 hl1 => ⟨Nat.zero_le _, fun l2 hl2 => ?_⟩⟩
      have e12 := (Ex.new (o := .lst []) hl1).trans (Ex.new (o := .lst []) hl2)
      refine hn _ e12 _ fun H3 e3 => ⟨(by show 3 ≤ sizeLine; decide), fun p3 hp3 => ?_⟩
      rw [hq]
      refine k _ _ (e.trans (e12.trans (e3.trans (Ex.new hp3)))) ?_
      rw [hl]
      exact ⟨_, _, p3, rfl, upd_same⟩
    -- pairs = read_pairs(told)
    refine ⟨_, rfl, t, ⟨⟨_, rfl, hy⟩, hlen⟩, fun vp H1 e1 hvp => ?_⟩
    have hvp : OptTPs H1 vp (readPairs t) := hvp
    dsimp only [gName]
    refine q_when (b := !fieldB p q || (readPairs t).isNone) (et_or (et_not (et_B (ev_fn (p, q) (vs := [u, x]) (ea_cons (ev_var rfl) (ea_cons (ev_var rfl) ea_nil)) (fun H2 e2 => ⟨_, _, rfl, hu.mono (e1.trans e2), hx.mono (e1.trans e2)⟩) fun v H1 h => h))) fun _ => et_test (ev_op (ev_var rfl) ev_c ?_)) (fun z H2 e2 => ?_) fun z H2 e2 => ?_
    · intro H2 e2 Q' q'
      refine ⟨rfl, ?_⟩
      have : decide (vp = V.non) = (readPairs t).isNone := by
        cases hs : readPairs t with
        | none =>
          rw [hs] at hvp
          exact decide_eq_true hvp
        | some c =>
          rw [hs] at hvp
          obtain ⟨p, _, rfl, _⟩ := hvp
          exact decide_eq_false (fun z => nomatch z)
      rw [this]
      exact q' _ (Ex.refl _)
    · refine no (e1.trans e2) (n := -1) (ev_un ev_c ru_neg) ?_ rfl
      unfold lookOf
      by_cases c : (!fieldB p q) = true
      · rw [if_pos c]
      · rw [if_neg c]
        have : (readPairs t).isNone = true := by
          simp only [Bool.or_eq_true] at z
          rcases z with z | z
          · exact absurd z c
          · exact z
        cases hs : readPairs t with
        | none => rfl
        | some c => rw [hs] at this; cases this
    · simp only [Bool.or_eq_false_iff] at z
      have e02 := e1.trans e2
      cases hs : readPairs t with
      | none => rw [hs] at z; exact absurd z.2 (by decide)
      | some up =>
      rw [hs] at hvp
      have hvp : IsTPs H1 vp up := hvp
      obtain ⟨pp, vps, rfl, hpp, hvps⟩ := id hvp
      have hlk : lookOf s p q t = if (up.any fun x => decide (s.lights.length ≤ x.1)) = true then .error (-4) else .ok up := by
        unfold lookOf
        rw [if_neg (by rw [z.1]; decide), hs]
      have upl : up.length ≤ 24 := by
        unfold readPairs at hs
        split at hs
        · cases hs
        · rename_i c
          cases hs
          rw [prs_len]
          simp only [Bool.or_eq_true, decide_eq_true_iff, not_or] at c
          omega
      -- any([number >= len(self.lights) for number, colour in pairs])
      have hpp2 := e2 _ _ hpp
      refine ⟨_, rfl, pp, rfl, ⟨_, sq_of hpp2⟩, fun D hD => lc_it (walk_list (K := K) (a := pp) (xs := vps)) (fun i H' => Ex H2 H' ∧ H' D = some (.lst (((up.map fun x => decide (s.lights.length ≤ x.1)).take i).map V.bl))) ⟨Ex.new hD, upd_same⟩ (fun i H' _ h => sq_of (h.1 _ _ hpp2)) ?_ ?_⟩
      · rintro i v H3 H4 hi ⟨e3, h5⟩ ⟨rfl, hxi⟩
        obtain ⟨⟨n, c⟩, hui, pt, rfl, hpt⟩ := hvps.2 i v hxi
        have hat : (up.map fun x => decide (s.lights.length ≤ x.1))[i]? = some (decide (s.lights.length ≤ n)) := by rw [List.getElem?_map, hui]; rfl
        refine ⟨pt, _, rfl, st_of (e3 _ _ (e2 _ _ hpt)), rfl, _, _, rfl, _, _, rfl, rfl, rfl, ?_⟩
        dsimp only [tYes]
        rw [if_pos rfl]
        have hc4 := hc.mono (e02.trans e3)
        refine (ev_is (ev_op (ev_var rfl) (len_lv (ev_lights C hc4 rfl) ((e02.trans e3) _ _ h3) h4.n1) rv_I0) (show V.bl (decide ((s.lights.length : Int) ≤ (n : Int))) = V.bl (decide (s.lights.length ≤ n)) by congr 1; rw [decide_eq_decide]; omega) : Ev _ _ _ _) H4 (Ex.refl _) _ fun H5 e5 => ⟨_, e5 _ _ h5, ?_, Ex.mut (e3.trans e5) hD, ?_⟩
        · rw [List.length_map]
          have h1 := List.length_take_le' i (up.map fun x => decide (s.lights.length ≤ x.1))
          rw [List.length_map] at h1
          exact Nat.lt_of_le_of_lt (show _ ≤ 24 by omega) (by decide)
        · rw [upd_same, take_next hat, List.map_append]
          rfl
      · rintro H3 ⟨e3, h5⟩
        rw [hvps.1, List.take_of_length_le (by rw [List.length_map]; exact Nat.le_refl _)] at h5
        have ha : (up.map fun x => decide (s.lights.length ≤ x.1)).any id = up.any fun x => decide (s.lights.length ≤ x.1) := by
          rw [List.any_map]
          rfl
        refine ⟨D, _, rfl, sq_of h5, _, rfl, ?_⟩
        rw [ha]
        have e03 := e02.trans e3
        cases hq : up.any fun x => decide (s.lights.length ≤ x.1) with
        | true =>
          dsimp only
          rw [if_pos rfl]
          exact no e03 (n := -4) (ev_un ev_c ru_neg) (by rw [hlk, hq, if_pos rfl]) rfl
        | false =>
          dsimp only
          rw [if_neg (by decide)]
          rw [hq, if_neg (by decide)] at hlk
          dsimp only [tNext]
          have fo : FieldOk p q := fieldB_ok (by simpa using z.1)
          -- walks = walks_over(corner, opposite)
          refine ⟨_, rfl, _, rfl, (p, q), ⟨⟨_, _, rfl, hu.mono e03, hx.mono e03⟩, fo⟩, fun vw H4 e4 hvw => ?_⟩
          have hvw : IsWks H4 vw (walksOver p q) := hvw
          dsimp only [gName]
          have e04 := e03.trans e4
          -- return walks, self.spots_left(walks, pairs), None
          refine ⟨_, rfl, _, rfl, a, dx, _, rfl, e04 _ _ hme, cF_none (by decide +kernel) (by decide +kernel), _, rfl, _, rfl, (s, walksOver p q, up), ⟨⟨a, la, ca, sh, S, _, _, rfl, hc.mono e04, hvw, hvp.mono (e2.trans (e3.trans e4))⟩, over_len fo, fun x hx => ?_⟩, fun vs H5 e5 hvs => ⟨(by show 3 ≤ sizeLine; decide), fun p9 hp9 => k _ _ (e04.trans (e5.trans (Ex.new hp9))) ?_⟩⟩
          · have := List.any_eq_false.mp hq x hx
            simpa using this
          · rw [hlk]
            have hvs : IsL H5 vs (natL (spotsOf s (placesOver (walksOver p q)) up)) := hvs
            exact ⟨_, _, ⟨p9, rfl, upd_same⟩, hvw.mono (e5.trans (Ex.new hp9)), hvs.mono (Ex.new hp9)⟩
end
end Bc

namespace Bc
open PySem PySem.Spec PyProof.Rows L2 Evl
local macro_rules | `(tactic| walk_at "ev") => `(tactic| repeat' (first
  | with_reducible exact ev_c
  | with_reducible exact rv_I0
  | with_reducible exact ru_neg
  | with_reducible exact ea_nil
  | with_reducible refine' ev_var ?_
  | with_reducible refine' ev_chain ?_ ?_ ?_ ?_ ?_
  | with_reducible refine' ev_op ?_ ?_ ?_
  | with_reducible refine' ev_un ?_ ?_
  | with_reducible refine' ev_andV ?_ (fun _ => ?_)
  | with_reducible refine' ev_orV ?_ (fun _ => ?_)
  | with_reducible refine' ev_notV ?_
  | with_reducible refine' et_test ?_
  | with_reducible refine' et_B ?_
  | with_reducible refine' et_and ?_ (fun _ => ?_)
  | with_reducible refine' et_or ?_ (fun _ => ?_)
  | with_reducible refine' et_not ?_
  | with_reducible refine' ea_cons ?_ ?_
  | with_reducible refine' rv_it (by assumption) ?_
  | with_reducible refine' rv_mul ?_
  | with_reducible refine' rv_eq ?_
  | with_reducible refine' rv_ne ?_
  | exact rfl
  | ((with_reducible show CMul _ _); (try dsimp only at *); first | exact Or.inl ⟨by omega, by omega⟩ | exact Or.inr ⟨by omega, by omega⟩)))
section
variable {P : Program} {w : World} {K : PySem.W.Frag} {mg : Str → Option Value} {base : Heap} {ad : String → Addr}
/-! ### what changes along a way -/
def tri (x : Nat × Nat × Nat) : List Int := [(x.1 : Int), (x.2.1 : Int), (x.2.2 : Int)]
def colss (s : Wqatdz.State) (ps : List Pt) : List (List Nat) := s.lights.map fun l => cols s.coasts l ps
/-- of one step, among the lights' first j -/
def rowsJ (cs : List (List Nat)) (i j : Nat) : List (Nat × Nat × Nat) :=
  ((cs.zipIdx.take j).filter fun x => x.1.getD i 0 != (if 0 < i then x.1.getD (i - 1) 0 else 0)).map fun x => (i, x.2, x.1.getD i 0)
theorem rowsJ_all (cs : List (List Nat)) (i : Nat) : rowsJ cs i cs.length = rowsAt cs i := by
  unfold rowsJ rowsAt
  rw [List.take_of_length_le (by rw [List.length_zipIdx]; exact Nat.le_refl _)]
theorem rowsJ_next {cs : List (List Nat)} {i j : Nat} {c : List Nat} (h : cs[j]? = some c) : rowsJ cs i (j + 1) = rowsJ cs i j ++ if (c.getD i 0 != (if 0 < i then c.getD (i - 1) 0 else 0)) = true then [(i, j, c.getD i 0)] else [] := by
  have hz : (cs.zipIdx)[j]? = some (c, j) := by
    rw [List.getElem?_zipIdx, h]
    simp
  unfold rowsJ
  rw [take_next hz, List.filter_append, List.map_append]
  congr 1
  rw [List.filter_cons]
  dsimp only
  by_cases q : (c.getD i 0 != (if 0 < i then c.getD (i - 1) 0 else 0)) = true
  · rw [if_pos q, if_pos q]
    rfl
  · rw [if_neg q, if_neg q]
    rfl
theorem rowsJ_len (cs : List (List Nat)) (i j : Nat) : (rowsJ cs i j).length ≤ j := by
  unfold rowsJ
  rw [List.length_map]
  exact Nat.le_trans (List.length_filter_le _ _) (List.length_take_le _ _)
theorem rowsAt_len (cs : List (List Nat)) (i : Nat) : (rowsAt cs i).length ≤ cs.length := by
  rw [← rowsJ_all]
  exact rowsJ_len _ _ _
theorem rows_len (cs : List (List Nat)) : ∀ i : Nat, ((List.range i).flatMap fun k => rowsAt cs k).length ≤ i * cs.length
  | 0 => by simp
  | i + 1 => by
    rw [List.range_succ, List.flatMap_append, List.length_append, Nat.succ_mul]
    have := rows_len cs i
    have h2 := rowsAt_len cs i
    simp only [List.flatMap_cons, List.flatMap_nil, List.append_nil]
    omega
abbrev s_Chart_changes_on : Stmt := inClass (top 74) 13
abbrev N_Chart_changes_on : List Str := ["self", "walk", "seen_along", "changes", "step", "number", "colours", "before", "light"]
theorem sc_Chart_changes_on : FnScope N_Chart_changes_on ["self", "walk"] (defScope s_Chart_changes_on) := ⟨rfl, rfl, rfl, by decide +kernel, rfl, by decide +kernel, by decide +kernel⟩
def chgs (s : Wqatdz.State) (wk : Wk) : List (Nat × Nat × Nat) := (List.range wk.2.2).flatMap fun k => rowsAt (colss s (placesOn wk)) k
def sp_Chart_changes_on (_K : PySem.W.Frag) (ad : String → Addr) : Sp := spFn (fun vs H (c : Wqatdz.State × Wk) => ∃ a la ca sh S u, vs = [.ref a, u] ∧ ChartAt ad H a la ca sh S c.1 ∧ IsWk H u c.2)
  fun c v H' => IsRws H' v ((chgs c.1 c.2).map tri)
theorem ok_Chart_changes_on (T : Tx K mg ad) (C : Cl_Chart K (ad "Chart")) (DM_Light_colours_on : Dm P w K mg base (ad "Light") "colours_on" 5 ["self", "walk"] (sp_Light_colours_on K ad))
    {f : Addr} {fd : FuncData} (F : Fun K "changes_on" "Chart.changes_on" s_Chart_changes_on f fd) : FnOk P w K mg base CX0 6 f fd ["self", "walk"] (sp_Chart_changes_on K ad) := by
  refine F.ok sc_Chart_changes_on (fun vs H Q E h => ?_) (fun cdv A outer s H vs Q E hr h => ?_)
  · obtain ⟨c, ⟨a, la, ca, sh, S, u, rfl, _⟩, _⟩ := h
    rfl
  · refine ⟨_, (pss_cons (ps_setLc (own := [("light", 8)]) (te := (tMeth (ad "Light") "colours_on" (sp_Light_colours_on K ad) [] E0 (tVar 8) (tCons (tVar 1) tNil))) (i := 2) rfl sc_Chart_changes_on.nd rfl rfl (sw_true rfl rfl rfl (by decide +kernel)) (pi_list (pe_fld (pv 0) rfl)) (blkOk_by (N := N_Chart_changes_on) (sc := defScope s_Chart_changes_on) (by decide +kernel)) (by intro _ _ _ _ _; exact (pg_name (i := 8) sc_Chart_changes_on.nd rfl (Or.inl rfl))) (by intro _ _ _ _ _; exact pts_nil) (by intro _ _ _ _ _; exact (pe_dm DM_Light_colours_on (hr.mono (by decide)) (pv 8) (pa_cons (pv 1) pa_nil))))
    (pss_cons (ps_set (i := 3) sc_Chart_changes_on.nd rfl (Or.inl rfl) (pe_lst pa_nil))
    (pss_cons (ps_for PassesOwn.never rfl (pi_range1 (by rfl) T.b_range (pa_cons (pe_ix ix_tup (pv 1) pe_int (fun _ _ => rfl)) pa_nil)) (pg_name (i := 4) sc_Chart_changes_on.nd rfl (Or.inl rfl)) 
        (pss_one (ps_for PassesOwn.never rfl (pi_enum (by rfl) T.b_enumerate (pa_cons (pv 2) pa_nil)) (pg_tup rfl (pgs_cons (pg_name (i := 5) sc_Chart_changes_on.nd rfl (Or.inl rfl)) (pgs_cons (pg_name (i := 6) sc_Chart_changes_on.nd rfl (Or.inl rfl)) pgs_nil))) 
            (pss_cons (ps_set (i := 7) sc_Chart_changes_on.nd rfl (Or.inl rfl) (pe_ifExp (pt_cmpR op_gt (pv 4) pe_int (nomark _)) (pe_ix ix_list (pv 6) (pe_op op_sub (pv 4) pe_int) (fun _ _ => rfl)) (pe_gint (by rfl) T.g_NOTHING)))
            (pss_one (ps_if (pt_cmpR op_ne (pe_ix ix_list (pv 6) (pv 4) (fun _ _ => rfl)) (pv 7) (nomark _)) 
                (pss_one (ps_expr (pe_bm PySem.F.plainAttrs_list PySem.F.slot_list_append PySem.F.type_list_append mt_append (pv 3) (pa_cons (pe_tup (pa_cons (pv 4) (pa_cons (pv 5) (pa_cons (pe_ix ix_list (pv 6) (pv 4) (fun _ _ => rfl)) pa_nil)))) pa_nil)))) pss_nil))))))
    (pss_one (ps_ret (pv 3)))))), ?_⟩
    obtain ⟨⟨s, wk⟩, ⟨a, la, ca, sh, S, u, rfl, hc, hw⟩, k⟩ := h
    dsimp only at hc hw
    have k : ∀ v H', Ex H H' → IsRws H' v ((chgs s wk).map tri) → Q v H' := k
    obtain ⟨dx, hme⟩ := hc.me
    obtain ⟨lv, h3, h4⟩ := hc.ls
    have hcsl : (colss s (placesOn wk)).length = s.lights.length := by
      unfold colss
      rw [List.length_map]
    have hll := hc.ll
    have hwn := hw.2.n
    have hpl : (placesOn wk).length = wk.2.2 := by
      unfold placesOn
      simp only [List.length_range, List.length_map]
    -- seen_along = [light.colours_on(walk) for light in self.lights]
    refine ⟨_, rfl, a, _, dx, _, _, rfl, hme, C.cl, C.n_lights, cF_lights, la, rfl, ⟨_, sq_of h3⟩, fun D hD => lc_it (walk_list (K := K) (a := la) (xs := lv)) (fun i H' => Ex H H' ∧ ∃ vd, H' D = some (.lst vd) ∧ Reps (fun v r => IsL (dl H' [D]) v (natL r)) vd ((colss s (placesOn wk)).take i)) ⟨Ex.new hD, [], upd_same, Reps.nil⟩ (fun i H' _ h => sq_of (h.1 _ _ h3)) ?_ ?_⟩
    · rintro i v H3 H4 hi ⟨e3, vd, h1, h2⟩ ⟨rfl, hxi⟩
      have lt : i < s.lights.length := by rw [← h4.n1]; exact hi
      obtain ⟨l, hl⟩ : ∃ l, s.lights[i]? = some l := ⟨_, List.getElem?_eq_getElem lt⟩
      obtain ⟨vl, hvl, hll'⟩ := hc.light h3 hl
      rw [hvl] at hxi
      cases hxi
      obtain ⟨ql, ⟨⟨pl, dxl, vpp, vh, vc, rfl, hpl', hrest⟩, okl⟩, _⟩ := id hll'
      have hat : (colss s (placesOn wk))[i]? = some (cols s.coasts l (placesOn wk)) := by
        unfold colss
        rw [List.getElem?_map, hl]
        rfl
      refine ⟨rfl, ?_⟩
      dsimp only [tYes]
      rw [if_pos rfl]
      refine ⟨_, rfl, pl, dxl, _, rfl, e3 _ _ hpl', lF_none (by decide +kernel) (by decide +kernel) (by decide +kernel) (by decide +kernel) (by decide +kernel), _, rfl, l, s.coasts, wk, ⟨_, _, rfl, hll'.mono e3, hw.mono e3⟩, fun v5 H5 e5 h5 f5 => ⟨vd, e5 _ _ h1, ?_, Ex.mut (e3.trans e5) hD, _, upd_same, ?_⟩⟩
      · rw [h2.1]
        have h1 := List.length_take_le' i (colss s (placesOn wk))
        exact Nat.lt_of_le_of_lt (show _ ≤ 24 by omega) (by decide)
      · rw [take_next hat]
        have kp : Kept H5 (upd H5 D (.lst (vd ++ [v5]))) [D] := fun b o nb z => by rw [upd_ne (fun y => nb (by simp [y]))]; exact z
        refine Reps.add (h2.imp fun v x z => (z.mono (Kept.of e5).dl).mono kp.dl) ?_
        obtain ⟨p5, rfl, hp5⟩ := h5
        have n5 : p5 ≠ D := fun z => by rw [z] at f5; have := f5 D rfl; rw [h1] at this; cases this
        exact ⟨p5, rfl, dl_at (by rw [upd_ne n5]; exact hp5) (by simpa using n5)⟩
    · rintro H3 ⟨e3, vd, h1, h2⟩
      rw [h4.n1, List.take_of_length_le (by rw [hcsl]; exact Nat.le_refl _)] at h2
      dsimp only [gName]
      have h2 : Reps (fun v r => IsL H3 v (natL r)) vd (colss s (placesOn wk)) := h2.imp fun v x z => z.mono dl_sub
      -- changes = []
      refine q_asgL (el_lst ea_nil (by simp)) fun pc H4 npc e4 hpc => ?_
      obtain ⟨⟨wx, wy, ⟨pw, rfl, hpw⟩, _⟩, _⟩ := id hw
      have hD4 := e4 _ _ h1
      have e04 := e3.trans e4
      have hpc0 : H pc = none := fresh_back e3 npc
      refine ⟨_, rfl, pw, _, _, _, rfl, rfl, st_of (e04 _ _ hpw), rfl, _, rfl, by omega, by omega, for_it (walk_range (lo := 0) (n := wk.2.2)) (fun i σ H' => ∃ (vs : List V) (y4 y5 y6 y7 : Option V), σ = [some (.ref a), some (.ref pw), some (.ref D), some (.ref pc), y4, y5, y6, y7, none] ∧ Ex H3 H' ∧ H' pc = some (.lst vs) ∧ Reps (fun v r => IsT H' v ((tri r).map V.int)) vs ((List.range i).flatMap fun k => rowsAt (colss s (placesOn wk)) k))
        ⟨[], none, none, none, none, rfl, e4, hpc, Reps.nil⟩ (fun _ _ _ _ _ => trivial) ?_ ?_⟩
      · rintro i v σ H5 H6 hi ⟨vs, y4, y5, y6, y7, rfl, e5, h5, h6⟩ ⟨rfl, rfl⟩
        dsimp only
        rw [Int.zero_add]
        dsimp only [gName]
        have hrl := rows_len (colss s (placesOn wk)) i
        -- for number, colours in enumerate(seen_along)
        refine ⟨_, rfl, D, vd, rfl, sq_of (e5 _ _ h1), for_it (walk_enum (K := K) (a := D) (xs := vd)) (fun j σ H' => ∃ (vs : List V) (y5 y6 y7 : Option V), σ = [some (.ref a), some (.ref pw), some (.ref D), some (.ref pc), some (.int (i : Nat)), y5, y6, y7, none] ∧ Ex H3 H' ∧ H' pc = some (.lst vs) ∧ Reps (fun v r => IsT H' v ((tri r).map V.int)) vs (((List.range i).flatMap fun k => rowsAt (colss s (placesOn wk)) k) ++ rowsJ (colss s (placesOn wk)) i j))
          ⟨vs, _, _, _, rfl, e5, h5, by rw [show rowsJ (colss s (placesOn wk)) i 0 = [] from rfl, List.append_nil]; exact h6⟩ ?_ ?_ ?_⟩
        · rintro j σ H' _ ⟨vs, y5, y6, y7, _, h, _⟩
          exact sq_of (h _ _ h1)
        · rintro j v σ H7 H8 hj ⟨vs, y5, y6, y7, rfl, e7, h7, h8⟩ ⟨pt, x, y, rfl, nt, rfl, hx, hy⟩
          cases hx
          have nE := Ex.new (o := .tup [V.int (j : Nat), y]) nt
          obtain ⟨cl, hcl, pcl, rfl, hpcl⟩ := h2.2 j y hy
          have hjl : j < s.lights.length := by
            rw [← hcsl]
            exact (List.getElem?_eq_some_iff.mp hcl).1
          obtain ⟨l, hl⟩ : ∃ l, s.lights[j]? = some l := ⟨_, List.getElem?_eq_getElem hjl⟩
          have hcle : cl = cols s.coasts l (placesOn wk) := by
            unfold colss at hcl
            rw [List.getElem?_map, hl] at hcl
            exact (Option.some.inj hcl).symm
          have hcll : cl.length = wk.2.2 := by
            rw [hcle]
            unfold cols
            rw [List.length_map, hpl]
          have atc : ∀ m, m < wk.2.2 → cl[m]? = some (cl.getD m 0) := fun m hm => by
            rw [List.getD_eq_getElem?_getD, List.getElem?_eq_getElem (by omega)]
            rfl
          refine ⟨pt, _, rfl, st_of upd_same, rfl, _, _, rfl, _, _, rfl, rfl, ?_⟩
          dsimp only
          have e78 := e7.trans nE
          have hcl8 := e78 _ _ hpcl
          -- before = colours[step - 1] if step > 0 else NOTHING
          refine q_asg (v := .int ((if 0 < i then cl.getD (i - 1) 0 else 0 : Nat) : Int)) (ev_if (b := decide (0 < (i : Int))) (et_test (ev_op (ev_var rfl) ev_c rv_I0)) (fun q => ?_) fun q => ?_) fun H9 e9 => ?_
          · have q := of_decide_eq_true q
            rw [if_pos (by omega)]
            refine ev_op (ev_var rfl) (ev_is (ev_op (ev_var rfl) ev_c rv_I0) (show V.int ((i : Int) - 1) = V.int ((i - 1 : Nat) : Int) by congr 1; omega)) (rv_il hcl8 (atI_nat (natL_at (atc (i - 1) (by omega)))))
          · have q := of_decide_eq_false q
            rw [if_neg (by omega)]
            exact ev_c
          have hcl9 := e9 _ _ hcl8
          have hpc9 := e9 _ _ (nE _ _ h7)
          have evc : ∀ {σ : L2.St} {H' : Hp}, σ[6]? = some (some (.ref pcl)) → σ[4]? = some (some (.int (i : Nat))) → Ex H9 H' → Ev (tOp (rIxL K) (tVar 6) (tVar 4)) σ H' (.int (cl.getD i 0 : Nat)) := fun g1 g2 e => ev_op (ev_var g1) (ev_var g2) (rv_il (e _ _ hcl9) (atI_nat (natL_at (atc i hi))))
          rw [rowsJ_next hcl, ← List.append_assoc]
          have hjl2 := rowsJ_len (colss s (placesOn wk)) i j
          have hle : vs.length < 100000 := by
            rw [h8.1, List.length_append]
            have h9 : i * (colss s (placesOn wk)).length ≤ 1024 * 24 := Nat.mul_le_mul (by omega) (by omega)
            omega
          refine s_when (b := !decide (cl.getD i 0 = (if 0 < i then cl.getD (i - 1) 0 else 0))) (et_test (ev_is (ev_op (evc rfl rfl (Ex.refl _)) (ev_var rfl) (rv_ne rfl)) ?_)) (fun q H10 e10 => ?_) fun q H10 e10 => ?_
          · rw [int_eq]
            congr 2
            rw [decide_eq_decide]
            omega
          · have q' : (cl.getD i 0 != (if 0 < i then cl.getD (i - 1) 0 else 0)) = true := by
              rw [bne_iff_ne]
              simpa using q
            rw [if_pos q']
            refine s_appU (l := pc) (xs := vs) (ys := [.int (i : Nat), .int (j : Nat), .int (cl.getD i 0 : Nat)]) (e10 _ _ hpc9) (ev_var rfl) (eu_tup (ea_cons (ev_var rfl) (ea_cons (ev_var rfl) (ea_cons (evc rfl rfl e10) ea_nil))) (by simp)) hle fun pn H11 hpn e11 h11 => ?_
            have hp11 := e11 _ _ (e10 _ _ hpc9)
            have e711 := nE.trans (e9.trans (e10.trans e11))
            refine ⟨_, _, _, _, rfl, ?_, upd_same, Reps.add (h8.imp fun v x z => IsT.off (z.mono e711) hp11) (IsT.off ⟨pn, rfl, h11⟩ hp11)⟩
            exact Ex.mut (e7.trans e711) npc
          · have q' : ¬ (cl.getD i 0 != (if 0 < i then cl.getD (i - 1) 0 else 0)) = true := by
              rw [bne_iff_ne]
              simpa using q
            rw [if_neg q', List.append_nil]
            have e710 := nE.trans (e9.trans e10)
            exact ⟨vs, _, _, _, rfl, e7.trans e710, e10 _ _ hpc9, h8.imp fun v x z => z.mono e710⟩
        · rintro σ H7 ⟨vs, y5, y6, y7, rfl, e7, h7, h8⟩
          refine ⟨vs, _, _, _, _, rfl, e7, h7, ?_⟩
          rw [h2.1, rowsJ_all] at h8
          rw [List.range_succ, List.flatMap_append]
          simpa using h8
      · rintro σ H5 ⟨vs, y4, y5, y6, y7, rfl, e5, h5, h6⟩
        dsimp only
        refine s_ret (v := .ref pc) (ev_var rfl) fun H6 e6 => k _ _ (e3.trans (e5.trans e6)) ⟨pc, vs, rfl, e6 _ _ h5, by rw [List.length_map]; exact h6.1, fun i v hv => ?_⟩
        obtain ⟨x, hx, hT⟩ := h6.2 i v hv
        exact ⟨tri x, by rw [List.getElem?_map]; unfold chgs; rw [hx]; rfl, hT.mono e6⟩
end
end Bc

namespace Bc
open PySem PySem.Spec PyProof.Rows L2 Evl
local macro_rules | `(tactic| walk_at "ev") => `(tactic| repeat' (first
  | with_reducible exact ev_c
  | with_reducible exact rv_I0
  | with_reducible exact ru_neg
  | with_reducible exact ea_nil
  | with_reducible refine' ev_var ?_
  | with_reducible refine' ev_chain ?_ ?_ ?_ ?_ ?_
  | with_reducible refine' ev_op ?_ ?_ ?_
  | with_reducible refine' ev_un ?_ ?_
  | with_reducible refine' ev_andV ?_ (fun _ => ?_)
  | with_reducible refine' ev_orV ?_ (fun _ => ?_)
  | with_reducible refine' ev_notV ?_
  | with_reducible refine' et_test ?_
  | with_reducible refine' et_B ?_
  | with_reducible refine' et_and ?_ (fun _ => ?_)
  | with_reducible refine' et_or ?_ (fun _ => ?_)
  | with_reducible refine' et_not ?_
  | with_reducible refine' ea_cons ?_ ?_
  | with_reducible refine' rv_it (by assumption) ?_
  | with_reducible refine' rv_mul ?_
  | with_reducible refine' rv_eq ?_
  | with_reducible refine' rv_ne ?_
  | exact rfl
  | ((with_reducible show CMul _ _); (try dsimp only at *); first | exact Or.inl ⟨by omega, by omega⟩ | exact Or.inr ⟨by omega, by omega⟩)))
section
variable {P : Program} {w : World} {K : PySem.W.Frag} {mg : Str → Option Value} {base : Heap} {ad : String → Addr}
/-! ### track, where -/
theorem near_is (m z : Int) : Wqatdz.near m z = (!(decide (z < -m) || decide (m < z))) := by
  unfold Wqatdz.near
  rw [Bool.eq_iff_iff]
  simp only [Bool.and_eq_true, Bool.not_eq_true', Bool.or_eq_false_iff, decide_eq_true_iff, decide_eq_false_iff_not]
  omega
theorem track_bad (x y u v : Int) (n : Nat) : (trackB (x, y) (u, v) n = false) ↔ (Wqatdz.isPlace (x, y) = false ∨ Wqatdz.near Wqatdz.WAY u = false ∨ Wqatdz.near Wqatdz.WAY v = false ∨ Wqatdz.STEPS < n ∨ Wqatdz.isPlace (x + Wqatdz.int n * u, y + Wqatdz.int n * v) = false) := by
  unfold trackB
  rw [placeB_is, placeB_is, near_is, near_is]
  show (!(decide (500 < n) || (decide (u < -1000) || (decide (1000 < u) || (decide (v < -1000) || decide (1000 < v))))) && (Wqatdz.isPlace (x, y) && Wqatdz.isPlace (x + (n : Int) * u, y + (n : Int) * v))) = false ↔ (Wqatdz.isPlace (x, y) = false ∨ (!(decide (u < -1000) || decide (1000 < u))) = false ∨ (!(decide (v < -1000) || decide (1000 < v))) = false ∨ 500 < n ∨ Wqatdz.isPlace (x + (n : Int) * u, y + (n : Int) * v) = false)
  generalize Wqatdz.isPlace (x, y) = b1
  generalize Wqatdz.isPlace (x + (n : Int) * u, y + (n : Int) * v) = b2
  by_cases h1 : 500 < n <;> by_cases h2 : u < -1000 <;> by_cases h3 : 1000 < u <;> by_cases h4 : v < -1000 <;> by_cases h5 : 1000 < v <;> cases b1 <;> cases b2 <;> simp [h1, h2, h3, h4, h5]
theorem walk_near {x u : Int} {n k : Nat} (h0 : -10000 ≤ x ∧ x ≤ 10000) (h1 : -10000 ≤ x + (n : Int) * u ∧ x + (n : Int) * u ≤ 10000) (hk : k ≤ n) : -10000 ≤ x + (k : Int) * u ∧ x + (k : Int) * u ≤ 10000 := by
  rcases Int.le_total 0 u with c | c
  · have a := Int.mul_le_mul_of_nonneg_right (show (k : Int) ≤ (n : Int) by omega) c
    have b := Int.mul_nonneg (show (0 : Int) ≤ (k : Int) by omega) c
    omega
  · have a := Int.mul_le_mul_of_nonpos_right (show (k : Int) ≤ (n : Int) by omega) c
    have b := Int.mul_nonpos_of_nonneg_of_nonpos (show (0 : Int) ≤ (k : Int) by omega) c
    omega
theorem way_is_walk (p d : Pt) (n : Nat) : BnC.wayOf p d n = placesOn (p, d, n + 1) := rfl
theorem chgs_is (s : Wqatdz.State) (wk : Wk) : BnC.changes s.coasts s.lights [] 0 (placesOn wk) = chgs s wk := by
  rw [changes_is]
  unfold chgs colss cols
  have : (placesOn wk).length = wk.2.2 := by
    unfold placesOn
    simp only [List.length_range, List.length_map]
  rw [this]
theorem tri_flat (l : List (Nat × Nat × Nat)) : (l.map tri).flatten = l.flatMap fun c => [Wqatdz.int c.1, Wqatdz.int c.2.1, Wqatdz.int c.2.2] := by
  rw [List.flatMap_def]
  rfl
theorem tri_len (l : List (Nat × Nat × Nat)) : (l.map tri).flatten.length = 3 * l.length := by
  induction l with
  | nil => rfl
  | cons a r ih =>
    rw [List.map_cons, List.flatten_cons, List.length_append, ih, List.length_cons]
    unfold tri
    simp
    omega
/-- ((x, y)) as a new pair -/
theorem ev_pair {σ : L2.St} {H : Hp} {i j : Nat} {x y : Int} (hx : σ[i]? = some (some (.int x))) (hy : σ[j]? = some (some (.int y))) : EvU (tTup (tCons (tVar i) (tCons (tVar j) tNil))) σ H [.int x, .int y] := eu_tup (ea_cons (ev_var hx) (ea_cons (ev_var hy) ea_nil)) (by simp)
abbrev s_Chart_track : Stmt := inClass (top 74) 7
abbrev N_Chart_track : List Str := ["self", "x", "y", "u", "v", "n"]
theorem sc_Chart_track : FnScope N_Chart_track ["self", "x", "y", "u", "v", "n"] (defScope s_Chart_track) := ⟨rfl, rfl, rfl, by decide +kernel, rfl, by decide +kernel, by decide +kernel⟩
def sp_Chart_track (_K : PySem.W.Frag) (ad : String → Addr) : Sp := spCh ad (fun vs _ (c : Int × Int × Int × Int × Nat) => vs = [.int c.1, .int c.2.1, .int c.2.2.1, .int c.2.2.2.1, .int (c.2.2.2.2 : Nat)]) fun c => .track c.1 c.2.1 c.2.2.1 c.2.2.2.1 c.2.2.2.2
theorem ok_Chart_track (D_is_track : Df P w K mg base "is_track" 2 ["start", "step", "count"] sp_is_track) (DM_Chart_changes_on : Dm P w K mg base (ad "Chart") "changes_on" 6 ["self", "walk"] (sp_Chart_changes_on K ad)) (D_tell_rows : Df P w K mg base "tell_rows" 1 ["rows"] sp_tell_rows)
    {f : Addr} {fd : FuncData} (F : Fun K "track" "Chart.track" s_Chart_track f fd) : FnOk P w K mg base CX0 7 f fd ["self", "x", "y", "u", "v", "n"] (sp_Chart_track K ad) := by
  refine F.ok sc_Chart_track (fun vs H Q E h => ?_) (fun cdv A outer s H vs Q E hr h => ?_)
  · obtain ⟨a, la, ca, sh, S, s, c, rest, rfl, _, rfl, _⟩ := h
    rfl
  · refine ⟨_, (pss_cons (ps_if (pt_not (pt_val (pe_df D_is_track (hr.mono (by decide)) (by rfl) (pa_cons (pe_tup (pa_cons (pv 1) (pa_cons (pv 2) pa_nil))) (pa_cons (pe_tup (pa_cons (pv 3) (pa_cons (pv 4) pa_nil))) (pa_cons (pv 5) pa_nil)))))) 
        (pss_one (ps_ret (pe_lst (pa_cons (pe_un un_neg pe_int) pa_nil)))) pss_nil)
    (pss_one (ps_ret (pe_df D_tell_rows (hr.mono (by decide)) (by rfl) (pa_cons (pe_dm DM_Chart_changes_on (hr.mono (by decide)) (pv 0) (pa_cons (pe_tup (pa_cons (pe_tup (pa_cons (pv 1) (pa_cons (pv 2) pa_nil))) (pa_cons (pe_tup (pa_cons (pv 3) (pa_cons (pv 4) pa_nil))) (pa_cons (pe_op op_add (pv 5) pe_int) pa_nil)))) pa_nil)) pa_nil))))), ?_⟩
    obtain ⟨a, la, ca, sh, S, s, ⟨x, y, u, v, n⟩, rest, rfl, hc, rfl, k⟩ := h
    dsimp only at k
    have hst : Wqatdz.step s (.track x y u v n) = (s, if Wqatdz.isPlace (x, y) = false ∨ Wqatdz.near Wqatdz.WAY u = false ∨ Wqatdz.near Wqatdz.WAY v = false ∨ Wqatdz.STEPS < n ∨ Wqatdz.isPlace (x + Wqatdz.int n * u, y + Wqatdz.int n * v) = false then Wqatdz.BAD else
        Wqatdz.tells (Wqatdz.int (BnC.changes s.coasts s.lights [] 0 (placesOn ((x, y), (u, v), n + 1))).length) ((BnC.changes s.coasts s.lights [] 0 (placesOn ((x, y), (u, v), n + 1))).flatMap fun c => [Wqatdz.int c.1, Wqatdz.int c.2.1, Wqatdz.int c.2.2])) := rfl
    have same : ∀ (m : Int) (l : List Int), (Wqatdz.step s (.track x y u v n)) = (s, ⟨m, l⟩) → ∀ v' H', Ex H H' → NewL H H' v' ((m :: l).map V.int) → Q v' H' := fun m l hn v' H' e hv => by
      rw [hn] at k
      exact k _ _ la ca sh (hc.mono e) (Left.of e) hv
    obtain ⟨dx, hme⟩ := hc.me
    -- if not is_track((x, y), (u, v), n)
    refine ⟨_, rfl, _, rfl, (by show 2 ≤ sizeLine; decide), fun p1 n1 => ⟨_, rfl, _, rfl, (by show 2 ≤ sizeLine; decide), fun p2 n2 => ⟨_, rfl, ((x, y), (u, v), n), ⟨_, _, rfl, ⟨p1, rfl, Ex.new n2 _ _ upd_same⟩, ⟨p2, rfl, upd_same⟩⟩, fun vb H1 e1 hvb => ?_⟩⟩⟩
    have hvb : vb = .bl (trackB (x, y) (u, v) n) := hvb
    subst hvb
    have e01 := (Ex.new (o := .tup [V.int x, V.int y]) n1).trans ((Ex.new (o := .tup [V.int u, V.int v]) n2).trans e1)
    refine ⟨_, rfl, ?_⟩
    dsimp only
    cases hq : trackB (x, y) (u, v) n with
    | false =>
      rw [if_pos ((track_bad x y u v n).mp hq)] at hst
      rw [if_pos (by decide)]
      exact s_num (n := -1) (ev_un ev_c ru_neg) e01 fun v' H3 e3 hv => same (-1) [] hst v' H3 e3 hv
    | true =>
      have hb : ¬ (Wqatdz.isPlace (x, y) = false ∨ Wqatdz.near Wqatdz.WAY u = false ∨ Wqatdz.near Wqatdz.WAY v = false ∨ Wqatdz.STEPS < n ∨ Wqatdz.isPlace (x + Wqatdz.int n * u, y + Wqatdz.int n * v) = false) := fun z => by
        rw [← track_bad, hq] at z
        cases z
      rw [if_neg hb, chgs_is, ← tri_flat] at hst
      have hn : n ≤ 500 := by
        have z : ¬ 500 < n := fun z => hb (.inr (.inr (.inr (.inl z))))
        omega
      have p0 : Near 10000 (x, y) := near_place (by cases z : Wqatdz.isPlace (x, y) with
        | true => rfl
        | false => exact absurd (.inl z) hb)
      have p1' : Near 10000 (x + (n : Int) * u, y + (n : Int) * v) := near_place (by cases z : Wqatdz.isPlace (x + (n : Int) * u, y + (n : Int) * v) with
        | true => rfl
        | false => exact absurd (.inr (.inr (.inr (.inr z)))) hb)
      have hu : -1000 ≤ u ∧ u ≤ 1000 := by
        have z : Wqatdz.near Wqatdz.WAY u = true := by cases z : Wqatdz.near Wqatdz.WAY u with
          | true => rfl
          | false => exact absurd (.inr (.inl z)) hb
        exact near_iff.mp z
      have hv : -1000 ≤ v ∧ v ≤ 1000 := by
        have z : Wqatdz.near Wqatdz.WAY v = true := by cases z : Wqatdz.near Wqatdz.WAY v with
          | true => rfl
          | false => exact absurd (.inr (.inr (.inl z))) hb
        exact near_iff.mp z
      have wok : WOk ((x, y), (u, v), n + 1) := by
        refine ⟨p0, by unfold Near; dsimp only; omega, by dsimp only; omega, fun k hk => ?_⟩
        unfold Near at p0 p1'
        dsimp only at p0 p1' hk
        have a1 := walk_near (x := x) (u := u) (n := n) (k := k) (by omega) (by omega) (by omega)
        have a2 := walk_near (x := y) (u := v) (n := n) (k := k) (by omega) (by omega) (by omega)
        unfold Near atW
        dsimp only
        omega
      rw [if_neg (by decide)]
      -- return tell_rows(self.changes_on(((x, y), (u, v), n + 1)))
      refine ⟨_, rfl, a, dx, _, rfl, e01 _ _ hme, cF_none (by decide +kernel) (by decide +kernel), _, rfl, _, rfl, (by show 2 ≤ sizeLine; decide), fun q1 m1 => ⟨_, rfl, _, rfl, (by show 2 ≤ sizeLine; decide), fun q2 m2 => ⟨_, rfl, _, _, rfl, rfl, ⟨(by show 3 ≤ sizeLine; decide), fun q3 m3 => ?_⟩⟩⟩⟩
      have g1 := Ex.new (o := .tup [V.int x, V.int y]) m1
      have g2 := Ex.new (o := .tup [V.int u, V.int v]) m2
      have g3 := Ex.new (o := .tup [V.ref q1, V.ref q2, V.int ((n : Int) + 1)]) m3
      have e02 := e01.trans (g1.trans (g2.trans g3))
      have hcl : (chgs s ((x, y), (u, v), n + 1)).length ≤ 100000 := by
        unfold chgs
        have h1 := rows_len (colss s (placesOn ((x, y), (u, v), n + 1))) (n + 1)
        have h2 : (colss s (placesOn ((x, y), (u, v), n + 1))).length ≤ 24 := by
          unfold colss
          rw [List.length_map]
          exact hc.ll
        have h3 := Nat.mul_le_mul (show n + 1 ≤ 501 by omega) h2
        dsimp only at h1 ⊢
        omega
      refine ⟨(s, ((x, y), (u, v), n + 1)), ⟨a, la, ca, sh, S, _, rfl, hc.mono e02, ⟨_, _, ⟨q3, rfl, upd_same⟩, ⟨q1, rfl, g3 _ _ (g2 _ _ upd_same)⟩, ⟨q2, rfl, g3 _ _ upd_same⟩⟩, wok⟩, fun vr H4 e4 hvr => ⟨vr, _, rfl, hvr, ?_, fun v' H5 e5 hv' => ?_⟩⟩
      · rw [tri_len]
        show 3 * (chgs s ((x, y), (u, v), n + 1)).length ≤ 1000000
        omega
      · have e05 := e02.trans e4
        obtain ⟨p', rfl, hp', h'⟩ := hv'
        refine same _ _ hst _ H5 (e05.trans e5) ⟨p', rfl, fresh_back e05 hp', ?_⟩
        rw [h', List.length_map]
        rfl
/-! ### where -/
theorem field_bad (a b : Pt) : ((!fieldB a b) = true) ↔ (Wqatdz.isPlace a = false ∨ Wqatdz.isPlace b = false ∨ b.1 < a.1 ∨ b.2 < a.2 ∨ (1024 : Int) < (b.1 - a.1 + 1) * (b.2 - a.2 + 1)) := by
  unfold fieldB
  rw [placeB_is, placeB_is]
  generalize Wqatdz.isPlace a = b1
  generalize Wqatdz.isPlace b = b2
  generalize hm : (b.1 - a.1 + 1) * (b.2 - a.2 + 1) = m
  by_cases h1 : b.1 < a.1 <;> by_cases h2 : b.2 < a.2 <;> by_cases h3 : 1024 < m
  all_goals
    have d1 : decide (1 ≤ b.1 - a.1 + 1) = !decide (b.1 < a.1) := by rw [Bool.eq_iff_iff]; simp only [decide_eq_true_iff, Bool.not_eq_true', decide_eq_false_iff_not]; omega
    have d2 : decide (1 ≤ b.2 - a.2 + 1) = !decide (b.2 < a.2) := by rw [Bool.eq_iff_iff]; simp only [decide_eq_true_iff, Bool.not_eq_true', decide_eq_false_iff_not]; omega
    have d3 : decide (m ≤ 1024) = !decide (1024 < m) := by rw [Bool.eq_iff_iff]; simp only [decide_eq_true_iff, Bool.not_eq_true', decide_eq_false_iff_not]; omega
    rw [d1, d2, d3]
    cases b1 <;> cases b2 <;> simp [h1, h2, h3]
theorem ofField_look (s : Wqatdz.State) (a b : Pt) (t : List Nat) (f : List (Nat × Nat) → Wqatdz.Ans) : Wqatdz.ofField s a b t f = match lookOf s a b t with
    | .error n => Wqatdz.says n
    | .ok u => f u := by
  rw [ofField_is]
  unfold lookOf
  by_cases c : (!fieldB a b) = true
  · rw [if_pos c, if_pos ((field_bad a b).mp c)]
    rfl
  · rw [if_neg c, if_neg (fun z => c ((field_bad a b).mpr z))]
    cases readPairs t with
    | none => rfl
    | some u =>
      dsimp only
      split <;> rfl
theorem look_ok {s : Wqatdz.State} {a b : Pt} {t : List Nat} {u : List (Nat × Nat)} (h : lookOf s a b t = .ok u) : FieldOk a b := by
  unfold lookOf at h
  split at h
  · cases h
  · rename_i c
    exact fieldB_ok (by simpa using c)
theorem wheres_sorted (s : Wqatdz.State) (a b : Pt) (u : List (Nat × Nat)) : ((spotsOf s (placesOver (walksOver a b)) u).map fun i => (placesOver (walksOver a b)).getD i (0, 0)).mergeSort rowLe = BnC.wheres s.coasts s.lights u a b := by
  rw [spots_places]
  exact sorted_field ((places_perm a b).filter _)
abbrev s_Chart_where : Stmt := inClass (top 74) 6
abbrev N_Chart_where : List Str := ["self", "x", "y", "u", "v", "told", "walks", "spots", "refusal", "places", "left", "spot"]
theorem sc_Chart_where : FnScope N_Chart_where ["self", "x", "y", "u", "v", "told"] (defScope s_Chart_where) := ⟨rfl, rfl, rfl, by decide +kernel, rfl, by decide +kernel, by decide +kernel⟩
def sp_Chart_where (_K : PySem.W.Frag) (ad : String → Addr) : Sp := spCh ad (fun vs H (c : Int × Int × Int × Int × List Nat) => (∃ v, vs = [.int c.1, .int c.2.1, .int c.2.2.1, .int c.2.2.2.1, v] ∧ IsL H v (natL c.2.2.2.2)) ∧ c.2.2.2.2.length ≤ 30000) fun c => .where_ c.1 c.2.1 c.2.2.1 c.2.2.2.1 c.2.2.2.2
theorem ok_Chart_where (T : Tx K mg ad) (D_by_rows : Df P w K mg base "by_rows" 1 ["place"] sp_by_rows) (D_places_over : Df P w K mg base "places_over" 2 ["walks"] sp_places_over) (DM_Chart_look_over : Dm P w K mg base (ad "Chart") "look_over" 8 ["self", "corner", "opposite", "told"] (sp_Chart_look_over K ad))
    {f : Addr} {fd : FuncData} (F : Fun K "where" "Chart.where" s_Chart_where f fd) : FnOk P w K mg base CX0 9 f fd ["self", "x", "y", "u", "v", "told"] (sp_Chart_where K ad) := by
  obtain ⟨f_by, fd_by, M_by_rows, kk_by, B_by_rows, F_by_rows⟩ := id D_by_rows
  refine F.ok sc_Chart_where (fun vs H Q E h => ?_) (fun cdv A outer s H vs Q E hr h => ?_)
  · obtain ⟨a, la, ca, sh, S, s, c, rest, rfl, _, ⟨⟨v, rfl, _⟩, _⟩, _⟩ := h
    rfl
  · refine ⟨_, (pss_cons (ps_asg (pe_dm DM_Chart_look_over (hr.mono (by decide)) (pv 0) (pa_cons (pe_tup (pa_cons (pv 1) (pa_cons (pv 2) pa_nil))) (pa_cons (pe_tup (pa_cons (pv 3) (pa_cons (pv 4) pa_nil))) (pa_cons (pv 5) pa_nil)))) (pg_tup rfl (pgs_cons (pg_name (i := 6) sc_Chart_where.nd rfl (Or.inl rfl)) (pgs_cons (pg_name (i := 7) sc_Chart_where.nd rfl (Or.inl rfl)) (pgs_cons (pg_name (i := 8) sc_Chart_where.nd rfl (Or.inl rfl)) pgs_nil)))))
    (pss_cons (ps_if (pt_cmpR op_notN (pv 8) pe_non (nomark _)) 
        (pss_one (ps_ret (pe_lst (pa_cons (pv 8) pa_nil)))) pss_nil)
    (pss_cons (ps_set (i := 9) sc_Chart_where.nd rfl (Or.inr rfl) (pe_df D_places_over (hr.mono (by decide)) (by rfl) (pa_cons (pv 6) pa_nil)))
    (pss_cons (ps_set (i := 10) sc_Chart_where.nd rfl (Or.inl rfl) (pe_callBK (cr_sortRows F_by_rows B_by_rows (hr.mono (by decide))) (by rfl) T.b_sorted (by decide +kernel) (pa_cons (pe_lc (own := [("spot", 11)]) (te := (tOp (rIxL K) (tVar 9) (tVar 11))) rfl sc_Chart_where.nd (pi_list (pv 7)) (blkOk_by (N := N_Chart_where) (sc := defScope s_Chart_where) (by decide +kernel)) (by intro _ _ _ _ _; exact (pg_name (i := 11) sc_Chart_where.nd rfl (Or.inl rfl))) (by intro _ _ _ _ _; exact pts_nil) (by intro _ _ _ _ _; exact (pe_ix ix_list (pv 9) (pv 11) (fun _ _ => rfl)))) pa_nil) (pk_cons (pe_glob (v := V.ref f_by) (by rfl) M_by_rows rfl) pk_nil)))
    (pss_cons (ps_if (pt_cmpR op_eq (pe_callB call_len_seq (by rfl) T.b_len PySem.boot_len (pa_cons (pv 10) pa_nil)) pe_int (nomark _)) 
        (pss_one (ps_ret (pe_lst (pa_cons pe_int pa_nil)))) pss_nil)
    (pss_one (ps_ret (pe_lst (pa_cons (pe_callB call_len_seq (by rfl) T.b_len PySem.boot_len (pa_cons (pv 10) pa_nil)) (pa_cons (pe_ix ix_tup (pe_ix ix_list (pv 10) pe_int (fun _ _ => rfl)) pe_int (fun _ _ => rfl)) (pa_cons (pe_ix ix_tup (pe_ix ix_list (pv 10) pe_int (fun _ _ => rfl)) pe_int (fun _ _ => rfl)) (pa_cons (pe_ix ix_tup (pe_ix ix_list (pv 10) (pe_un un_neg pe_int) (fun _ _ => rfl)) pe_int (fun _ _ => rfl)) (pa_cons (pe_ix ix_tup (pe_ix ix_list (pv 10) (pe_un un_neg pe_int) (fun _ _ => rfl)) pe_int (fun _ _ => rfl)) pa_nil))))))))))))), ?_⟩
    obtain ⟨a, la, ca, sh, S, s, ⟨x, y, u, v, t⟩, rest, rfl, hc, ⟨⟨vt, rfl, ht⟩, hlen⟩, k⟩ := h
    dsimp only at k ht hlen
    have hst : Wqatdz.step s (.where_ x y u v t) = (s, Wqatdz.ofField s (x, y) (u, v) t fun w => let l := BnC.wheres s.coasts s.lights w (x, y) (u, v)
      Wqatdz.tells (Wqatdz.int l.length) (match l.head?, l.getLast? with
        | some a, some b => [a.1, a.2, b.1, b.2]
        | _, _ => [])) := rfl
    rw [ofField_look] at hst
    have same : ∀ (m : Int) (l : List Int), (Wqatdz.step s (.where_ x y u v t)) = (s, ⟨m, l⟩) → ∀ v' H', Ex H H' → NewL H H' v' ((m :: l).map V.int) → Q v' H' := fun m l hn v' H' e hv => by
      rw [hn] at k
      exact k _ _ la ca sh (hc.mono e) (Left.of e) hv
    obtain ⟨dx, hme⟩ := hc.me
    -- walks, spots, refusal = self.look_over((x, y), (u, v), told)
    refine ⟨_, rfl, a, dx, _, rfl, hme, cF_none (by decide +kernel) (by decide +kernel), _, rfl, _, rfl, (by show 2 ≤ sizeLine; decide), fun p1 n1 => ⟨_, rfl, _, rfl, (by show 2 ≤ sizeLine; decide), fun p2 n2 => ?_⟩⟩
    have g1 := Ex.new (o := .tup [V.int x, V.int y]) n1
    have g2 := Ex.new (o := .tup [V.int u, V.int v]) n2
    have e00 := g1.trans g2
    refine ⟨_, rfl, (s, (x, y), (u, v), t), ⟨⟨a, la, ca, sh, S, _, _, _, rfl, hc.mono e00, ⟨p1, rfl, g2 _ _ upd_same⟩, ⟨p2, rfl, upd_same⟩, ht.mono e00⟩, hlen⟩, fun vl H1 e1 hvl => ?_⟩
    have hvl : LookIs s (x, y) (u, v) H1 vl (lookOf s (x, y) (u, v) t) := hvl
    have e01 := e00.trans e1
    cases hl : lookOf s (x, y) (u, v) t with
    | error n =>
      rw [hl] at hvl hst
      obtain ⟨w1, w2, pv, rfl, hpv⟩ := hvl
      refine ⟨pv, _, rfl, st_of hpv, rfl, _, _, rfl, _, _, rfl, _, _, rfl, rfl, ?_⟩
      dsimp only
      refine q_when (b := true) (et_test (ev_op (ev_var rfl) ev_c fun H2 e2 Q' q' => ⟨rfl, q' _ (Ex.refl _)⟩)) (fun _ H5 e5 => ?_) fun z => absurd z (by decide)
      exact s_num (n := n) (ev_var rfl) (e01.trans e5) fun v' H3 e3 hv => same n [] hst v' H3 e3 hv
    | ok w =>
      rw [hl] at hvl hst
      have fo := look_ok hl
      obtain ⟨w1, w2, ⟨pv, rfl, hpv⟩, hw, ⟨ps, rfl, hps⟩⟩ := hvl
      refine ⟨pv, _, rfl, st_of hpv, rfl, _, _, rfl, _, _, rfl, _, _, rfl, rfl, ?_⟩
      dsimp only
      refine q_when (b := false) (et_test (ev_op (ev_var rfl) ev_c fun H2 e2 Q' q' => ⟨rfl, q' _ (Ex.refl _)⟩)) (fun z => absurd z (by decide)) fun _ H2 e2 => ?_
      have e02 := e01.trans e2
      have hol := over_len fo
      -- places = places_over(walks)
      refine ⟨_, rfl, walksOver (x, y) (u, v), ⟨⟨_, rfl, hw.mono e2⟩, by omega⟩, fun vp H3 e3 hvp => ?_⟩
      obtain ⟨pp, vps, rfl, hpp, hvps⟩ := hvp
      dsimp only [gName]
      have hws := wheres_sorted s (x, y) (u, v) w
      have hsi : ∀ i ∈ spotsOf s (placesOver (walksOver (x, y) (u, v))) w, i < (placesOver (walksOver (x, y) (u, v))).length := fun i hi => spots_in hi
      have hsl := spots_len s (placesOver (walksOver (x, y) (u, v))) w
      generalize spotsOf s (placesOver (walksOver (x, y) (u, v))) w = spots at hps hws hsi hsl
      generalize placesOver (walksOver (x, y) (u, v)) = pls at hol hvps hws hsi hsl
      have hps3 := e3 _ _ (e2 _ _ hps)
      -- left = sorted([places[spot] for spot in spots], key=by_rows)
      refine ⟨_, rfl, ps, rfl, ⟨_, sq_of hps3⟩, fun D hD => lc_it (walk_list (K := K) (a := ps) (xs := natL spots)) (fun i H' => Ex H3 H' ∧ ∃ vd, H' D = some (.lst vd) ∧ Reps (IsPt H') vd ((spots.map fun i => pls.getD i (0, 0)).take i)) ⟨Ex.new hD, [], upd_same, Reps.nil⟩ (fun i H' _ h => sq_of (h.1 _ _ hps3)) ?_ ?_⟩
      · rintro i v' H4 H5 hi ⟨e4, vd, h1, h2⟩ ⟨rfl, hxi⟩
        obtain ⟨m, hm, rfl⟩ := natL_back hxi
        have hml := hsi m (List.mem_of_getElem? hm)
        obtain ⟨pt, hpt⟩ : ∃ pt, pls[m]? = some pt := ⟨_, List.getElem?_eq_getElem hml⟩
        obtain ⟨vq, hvq, hq⟩ := hvps.at hpt
        have hat : (spots.map fun i => pls.getD i (0, 0))[i]? = some pt := by
          rw [List.getElem?_map, hm]
          show some (pls.getD m (0, 0)) = some pt
          rw [List.getD_eq_getElem?_getD, hpt]
          rfl
        refine ⟨rfl, ?_⟩
        dsimp only [tYes]
        rw [if_pos rfl]
        refine ⟨_, rfl, _, rfl, pp, _, _, _, rfl, rfl, sq_of (e4 _ _ hpp), atI_nat hvq, vd, h1, ?_, Ex.mut e4 hD, _, upd_same, ?_⟩
        · rw [h2.1]
          have h3 := List.length_take_le' i (spots.map fun i => pls.getD i (0, 0))
          rw [List.length_map] at h3
          exact Nat.lt_of_le_of_lt (show _ ≤ 1024 by omega) (by decide)
        · rw [take_next hat]
          exact Reps.add (h2.imp fun v x z => IsT.off z h1) (IsT.off (hq.mono e4) h1)
      · rintro H4 ⟨e4, vd, h1, h2⟩
        rw [natL_len, List.take_of_length_le (by rw [List.length_map]; exact Nat.le_refl _)] at h2
        refine ⟨D, vd, _, rfl, rfl, h1, h2, fun H5 p5 ys e5 np5 hp5 hys => ?_⟩
        rw [hws] at hys
        dsimp only [gName]
        have e05 := e02.trans (e3.trans (e4.trans e5))
        dsimp only at hst
        generalize BnC.wheres s.coasts s.lights w (x, y) (u, v) = ll at hys hst
        refine q_when (b := decide (ll.length = 0)) (et_test (ev_is (ev_op (len_lv (ev_var rfl) hp5 hys.1) ev_c (rv_eq rfl)) ?_)) (fun q H6 e6 => ?_) fun q H6 e6 => ?_
        · rw [int_eq]
          congr 1
          rw [decide_eq_decide]
          omega
        · have q := List.length_eq_zero_iff.mp (of_decide_eq_true q)
          rw [q] at hst
          exact s_num (n := 0) ev_c (e05.trans e6) fun v' H7 e7 hv => same 0 [] hst v' H7 e7 hv
        · have q := of_decide_eq_false q
          obtain ⟨pa, hpa⟩ : ∃ pa, ll[0]? = some pa := ⟨_, List.getElem?_eq_getElem (by omega)⟩
          obtain ⟨pb, hpb⟩ : ∃ pb, ll.getLast? = some pb := ⟨_, List.getLast?_eq_some_getLast (fun z => q (by rw [z]; rfl))⟩
          obtain ⟨va, hva, ⟨ta, rfl, hta⟩⟩ := hys.at hpa
          obtain ⟨vb, hvb, ⟨tb, rfl, htb⟩⟩ := hys.last hpb
          have hh : ll.head? = some pa := by rw [List.head?_eq_getElem?]; exact hpa
          rw [hh, hpb] at hst
          have hp6 := e6 _ _ hp5
          have hta := e6 _ _ hta
          have htb := e6 _ _ htb
          refine s_retL (xs := [.int (ll.length : Nat), .int pa.1, .int pa.2, .int pb.1, .int pb.2]) (el_lst (ea_cons (len_lv (ev_var rfl) hp6 hys.1) (ea_cons (ev_op (ev_op (ev_var rfl) ev_c (rv_il hp6 (atI_nat (j := 0) hva))) ev_c (rv_it hta rfl)) (ea_cons (ev_op (ev_op (ev_var rfl) ev_c (rv_il hp6 (atI_nat (j := 0) hva))) ev_c (rv_it hta rfl))
            (ea_cons (ev_op (ev_op (ev_var rfl) (ev_un ev_c ru_neg) (rv_il hp6 (atI_last hvb))) ev_c (rv_it htb rfl)) (ea_cons (ev_op (ev_op (ev_var rfl) (ev_un ev_c ru_neg) (rv_il hp6 (atI_last hvb))) ev_c (rv_it htb rfl)) ea_nil))))) (by simp)) fun p7 H7 hp7 e7 h7 => ?_
          exact same _ _ hst _ H7 (e05.trans (e6.trans e7)) ⟨p7, rfl, fresh_back (e05.trans e6) hp7, h7⟩
end
end Bc

namespace Bc
open PySem PySem.Spec PyProof.Rows L2 Evl
local macro_rules | `(tactic| walk_at "ev") => `(tactic| repeat' (first
  | with_reducible exact ev_c
  | with_reducible exact rv_I0
  | with_reducible exact ru_neg
  | with_reducible exact ea_nil
  | with_reducible refine' ev_var ?_
  | with_reducible refine' ev_chain ?_ ?_ ?_ ?_ ?_
  | with_reducible refine' ev_op ?_ ?_ ?_
  | with_reducible refine' ev_un ?_ ?_
  | with_reducible refine' ev_andV ?_ (fun _ => ?_)
  | with_reducible refine' ev_orV ?_ (fun _ => ?_)
  | with_reducible refine' ev_notV ?_
  | with_reducible refine' et_test ?_
  | with_reducible refine' et_B ?_
  | with_reducible refine' et_and ?_ (fun _ => ?_)
  | with_reducible refine' et_or ?_ (fun _ => ?_)
  | with_reducible refine' et_not ?_
  | with_reducible refine' ea_cons ?_ ?_
  | with_reducible refine' rv_it (by assumption) ?_
  | with_reducible refine' rv_mul ?_
  | with_reducible refine' rv_eq ?_
  | with_reducible refine' rv_ne ?_
  | exact rfl
  | ((with_reducible show CMul _ _); (try dsimp only at *); first | exact Or.inl ⟨by omega, by omega⟩ | exact Or.inr ⟨by omega, by omega⟩)))
section
variable {P : Program} {w : World} {K : PySem.W.Frag} {mg : Str → Option Value} {base : Heap} {ad : String → Addr}
/-! ### tell -/
theorem cnt_is (s : Wqatdz.State) (ps : List Pt) (l : BnC.Light) : Wqatdz.counts s ps l = cnt (ps.map (BnC.seenFrom s.coasts l)) := rfl
theorem cols_spots (s : Wqatdz.State) (ps : List Pt) (l : BnC.Light) (sp : List Nat) (h : ∀ i ∈ sp, i < ps.length) : (sp.map fun i => (cols s.coasts l ps).getD i 0) = (sp.map fun i => ps.getD i (0, 0)).map (BnC.seenFrom s.coasts l) := by
  rw [List.map_map]
  refine List.map_congr_left fun i hi => ?_
  unfold cols
  have := h i hi
  show (ps.map (BnC.seenFrom s.coasts l)).getD i 0 = BnC.seenFrom s.coasts l (ps.getD i (0, 0))
  rw [List.getD_eq_getElem?_getD, List.getD_eq_getElem?_getD, List.getElem?_map, List.getElem?_eq_getElem this]
  rfl
/-- a light's counts, by the spots and by the places -/
theorem counts_spots (s : Wqatdz.State) (a b : Pt) (u : List (Nat × Nat)) (l : BnC.Light) :
    cnt ((spotsOf s (placesOver (walksOver a b)) u).map fun i => (cols s.coasts l (placesOver (walksOver a b))).getD i 0) = Wqatdz.counts s (BnC.wheres s.coasts s.lights u a b) l := by
  rw [cols_spots s _ l _ fun i hi => spots_in hi, spots_places, cnt_is]
  exact cnt_perm (((places_perm a b).filter _).map _)
theorem wheres_nil (s : Wqatdz.State) (a b : Pt) (u : List (Nat × Nat)) : (spotsOf s (placesOver (walksOver a b)) u).length = (BnC.wheres s.coasts s.lights u a b).length := by
  have h1 : ((spotsOf s (placesOver (walksOver a b)) u).map fun i => (placesOver (walksOver a b)).getD i (0, 0)).length = (BnC.wheres s.coasts s.lights u a b).length := by
    rw [spots_places]
    exact ((places_perm a b).filter _).length_eq
  rw [List.length_map] at h1
  exact h1
theorem least_lt {rows : List (List Nat)} (h : rows ≠ []) : least rows < rows.length := by
  unfold least
  have go : ∀ (l : List (List Nat × Nat)) (b : Nat), (∀ x ∈ l, x.2 < rows.length) → b < rows.length → l.foldl (fun (b : Nat) (x : List Nat × Nat) => if mx x.1 < mx (rows.getD b []) then x.2 else b) b < rows.length := by
    intro l
    induction l with
    | nil => intro b _ hb; exact hb
    | cons x l ih =>
      intro b hx hb
      rw [List.foldl_cons]
      refine ih _ (fun y hy => hx y (List.mem_cons_of_mem _ hy)) ?_
      split
      · exact hx x (List.mem_cons_self ..)
      · exact hb
  refine go _ 0 (fun x hx => ?_) (List.length_pos_iff.mpr h)
  obtain ⟨y, i⟩ := x
  have := List.mem_zipIdx hx
  omega
abbrev s_Chart_tell : Stmt := inClass (top 74) 8
abbrev N_Chart_tell : List Str := ["self", "x", "y", "u", "v", "told", "walks", "spots", "refusal", "counted", "best", "light"]
theorem sc_Chart_tell : FnScope N_Chart_tell ["self", "x", "y", "u", "v", "told"] (defScope s_Chart_tell) := ⟨rfl, rfl, rfl, by decide +kernel, rfl, by decide +kernel, by decide +kernel⟩
def sp_Chart_tell (_K : PySem.W.Frag) (ad : String → Addr) : Sp := spCh ad (fun vs H (c : Int × Int × Int × Int × List Nat) => (∃ v, vs = [.int c.1, .int c.2.1, .int c.2.2.1, .int c.2.2.2.1, v] ∧ IsL H v (natL c.2.2.2.2)) ∧ c.2.2.2.2.length ≤ 30000) fun c => .tell c.1 c.2.1 c.2.2.1 c.2.2.2.1 c.2.2.2.2
theorem ok_Chart_tell (T : Tx K mg ad) (C : Cl_Chart K (ad "Chart")) (DM_Chart_look_over : Dm P w K mg base (ad "Chart") "look_over" 8 ["self", "corner", "opposite", "told"] (sp_Chart_look_over K ad)) (DM_Light_colours_over : Dm P w K mg base (ad "Light") "colours_over" 6 ["self", "walks"] (sp_Light_colours_over K ad))
    (D_count_colours : Df P w K mg base "count_colours" 1 ["colours", "spots"] sp_count_colours) (D_number_of_least_greatest : Df P w K mg base "number_of_least_greatest" 1 ["counted"] sp_number_of_least_greatest)
    {f : Addr} {fd : FuncData} (F : Fun K "tell" "Chart.tell" s_Chart_tell f fd) : FnOk P w K mg base CX0 9 f fd ["self", "x", "y", "u", "v", "told"] (sp_Chart_tell K ad) := by
  refine F.ok sc_Chart_tell (fun vs H Q E h => ?_) (fun cdv A outer s H vs Q E hr h => ?_)
  · obtain ⟨a, la, ca, sh, S, s, c, rest, rfl, _, ⟨⟨v, rfl, _⟩, _⟩, _⟩ := h
    rfl
  · refine ⟨_, (pss_cons (ps_asg (pe_dm DM_Chart_look_over (hr.mono (by decide)) (pv 0) (pa_cons (pe_tup (pa_cons (pv 1) (pa_cons (pv 2) pa_nil))) (pa_cons (pe_tup (pa_cons (pv 3) (pa_cons (pv 4) pa_nil))) (pa_cons (pv 5) pa_nil)))) (pg_tup rfl (pgs_cons (pg_name (i := 6) sc_Chart_tell.nd rfl (Or.inr rfl)) (pgs_cons (pg_name (i := 7) sc_Chart_tell.nd rfl (Or.inr rfl)) (pgs_cons (pg_name (i := 8) sc_Chart_tell.nd rfl (Or.inl rfl)) pgs_nil)))))
    (pss_cons (ps_if (pt_cmpR op_notN (pv 8) pe_non (nomark _)) 
        (pss_one (ps_ret (pe_lst (pa_cons (pv 8) pa_nil)))) pss_nil)
    (pss_cons (ps_if (PW.pt (pw_or (pt_cmpR op_eq (pe_callB call_len_seq (by rfl) T.b_len PySem.boot_len (pa_cons (pv 7) pa_nil)) pe_int (nomark _)) (pw_or1 (pt_cmpR op_eq (pe_callB call_len_seq (by rfl) T.b_len PySem.boot_len (pa_cons (pe_fld (pv 0) rfl) pa_nil)) pe_int (nomark _))))) 
        (pss_one (ps_ret (pe_lst (pa_cons (pe_un un_neg pe_int) pa_nil)))) pss_nil)
    (pss_cons (ps_setLc (own := [("light", 11)]) (te := (tCall sp_count_colours [] E0 (tCons (tMeth (ad "Light") "colours_over" (sp_Light_colours_over K ad) [] E0 (tVar 11) (tCons (tVar 6) tNil)) (tCons (tVar 7) tNil)))) (i := 9) rfl sc_Chart_tell.nd rfl rfl (sw_true rfl rfl rfl (by decide +kernel)) (pi_list (pe_fld (pv 0) rfl)) (blkOk_by (N := N_Chart_tell) (sc := defScope s_Chart_tell) (by decide +kernel)) (by intro _ _ _ _ _; exact (pg_name (i := 11) sc_Chart_tell.nd rfl (Or.inl rfl))) (by intro _ _ _ _ _; exact pts_nil) (by intro _ _ _ _ _; exact (pe_df D_count_colours (hr.mono (by decide)) (by rfl) (pa_cons (pe_dm DM_Light_colours_over (hr.mono (by decide)) (pv 11) (pa_cons (pv 6) pa_nil)) (pa_cons (pv 7) pa_nil)))))
    (pss_cons (ps_set (i := 10) sc_Chart_tell.nd rfl (Or.inl rfl) (pe_df D_number_of_least_greatest (hr.mono (by decide)) (by rfl) (pa_cons (pv 9) pa_nil)))
    (pss_one (ps_ret (pe_op op_cat (pe_lst (pa_cons (pv 10) pa_nil)) (pe_ix ix_list (pv 9) (pv 10) (fun _ _ => rfl)))))))))), ?_⟩
    obtain ⟨a, la, ca, sh, S, s, ⟨x, y, u, v, t⟩, rest, rfl, hc, ⟨⟨vt, rfl, ht⟩, hlen⟩, k⟩ := h
    dsimp only at k ht hlen
    have hst : Wqatdz.step s (.tell x y u v t) = (s, Wqatdz.ofField s (x, y) (u, v) t fun w => let l := BnC.wheres s.coasts s.lights w (x, y) (u, v)
      if l = [] then Wqatdz.NO else match Wqatdz.bestOf s l with
      | none => Wqatdz.NO
      | some b => Wqatdz.tells (Wqatdz.int b.1) (b.2.map Wqatdz.int)) := rfl
    rw [ofField_look] at hst
    have same : ∀ (m : Int) (l : List Int), (Wqatdz.step s (.tell x y u v t)) = (s, ⟨m, l⟩) → ∀ v' H', Ex H H' → NewL H H' v' ((m :: l).map V.int) → Q v' H' := fun m l hn v' H' e hv => by
      rw [hn] at k
      exact k _ _ la ca sh (hc.mono e) (Left.of e) hv
    obtain ⟨dx, hme⟩ := hc.me
    obtain ⟨lv, h3, h4⟩ := hc.ls
    have hll := hc.ll
    -- walks, spots, refusal = self.look_over((x, y), (u, v), told)
    refine ⟨_, rfl, a, dx, _, rfl, hme, cF_none (by decide +kernel) (by decide +kernel), _, rfl, _, rfl, (by show 2 ≤ sizeLine; decide), fun p1 n1 => ⟨_, rfl, _, rfl, (by show 2 ≤ sizeLine; decide), fun p2 n2 => ?_⟩⟩
    have g1 := Ex.new (o := .tup [V.int x, V.int y]) n1
    have g2 := Ex.new (o := .tup [V.int u, V.int v]) n2
    have e00 := g1.trans g2
    refine ⟨_, rfl, (s, (x, y), (u, v), t), ⟨⟨a, la, ca, sh, S, _, _, _, rfl, hc.mono e00, ⟨p1, rfl, g2 _ _ upd_same⟩, ⟨p2, rfl, upd_same⟩, ht.mono e00⟩, hlen⟩, fun vl H1 e1 hvl => ?_⟩
    have hvl : LookIs s (x, y) (u, v) H1 vl (lookOf s (x, y) (u, v) t) := hvl
    have e01 := e00.trans e1
    cases hl : lookOf s (x, y) (u, v) t with
    | error n =>
      rw [hl] at hvl hst
      obtain ⟨w1, w2, pv, rfl, hpv⟩ := hvl
      refine ⟨pv, _, rfl, st_of hpv, rfl, _, _, rfl, _, _, rfl, _, _, rfl, rfl, ?_⟩
      dsimp only
      refine q_when (b := true) (et_test (ev_op (ev_var rfl) ev_c fun H2 e2 Q' q' => ⟨rfl, q' _ (Ex.refl _)⟩)) (fun _ H5 e5 => ?_) fun z => absurd z (by decide)
      exact s_num (n := n) (ev_var rfl) (e01.trans e5) fun v' H3 e3 hv => same n [] hst v' H3 e3 hv
    | ok w =>
      rw [hl] at hvl hst
      have fo := look_ok hl
      obtain ⟨w1, w2, ⟨pv, rfl, hpv⟩, hw, ⟨ps, rfl, hps⟩⟩ := hvl
      refine ⟨pv, _, rfl, st_of hpv, rfl, _, _, rfl, _, _, rfl, _, _, rfl, rfl, ?_⟩
      dsimp only
      refine q_when (b := false) (et_test (ev_op (ev_var rfl) ev_c fun H2 e2 Q' q' => ⟨rfl, q' _ (Ex.refl _)⟩)) (fun z => absurd z (by decide)) fun _ H2 e2 => ?_
      have e02 := e01.trans e2
      have hol := over_len fo
      have hcs := counts_spots s (x, y) (u, v) w
      have hwn := wheres_nil s (x, y) (u, v) w
      have hsi : ∀ i ∈ spotsOf s (placesOver (walksOver (x, y) (u, v))) w, i < (placesOver (walksOver (x, y) (u, v))).length := fun i hi => spots_in hi
      dsimp only at hst
      generalize BnC.wheres s.coasts s.lights w (x, y) (u, v) = ll at hcs hwn hst
      generalize spotsOf s (placesOver (walksOver (x, y) (u, v))) w = spots at hps hcs hwn hsi
      have hps2 := e2 _ _ hps
      rw [best_is] at hst
      dsimp only at hst
      -- if len(spots) == 0 or len(self.lights) == 0
      refine q_when (b := decide (spots.length = 0) || decide (s.lights.length = 0)) (et_or (et_test (ev_is (ev_op (len_lv (ev_var rfl) hps2 (natL_len spots)) ev_c (rv_eq rfl)) ?_)) fun _ => et_test (ev_is (ev_op (len_lv (ev_lights C (hc.mono e02) rfl) (e02 _ _ h3) h4.n1) ev_c (rv_eq rfl)) ?_)) (fun q H3 e3 => ?_) fun q H3 e3 => ?_
      · rw [int_eq]
        congr 1
        rw [decide_eq_decide]
        omega
      · rw [int_eq]
        congr 1
        rw [decide_eq_decide]
        omega
      · have hno : Wqatdz.step s (.tell x y u v t) = (s, Wqatdz.says (-3)) := by
          rw [hst]
          by_cases z : ll = []
          · rw [if_pos z]
            rfl
          · rw [if_neg z]
            have hs0 : s.lights = [] := by
              simp only [Bool.or_eq_true, decide_eq_true_iff] at q
              rcases q with q | q
              · exact absurd (List.length_eq_zero_iff.mp (by omega)) z
              · exact List.length_eq_zero_iff.mp q
            rw [hs0]
            rfl
        exact s_num (n := -3) (ev_un ev_c ru_neg) (e02.trans e3) fun v' H4 e4 hv => same (-3) [] hno v' H4 e4 hv
      · simp only [Bool.or_eq_false_iff, decide_eq_false_iff_not] at q
        rw [if_neg (fun z => q.1 (by rw [hwn, z]; rfl))] at hst
        have e03 := e02.trans e3
        -- counted = [count_colours(light.colours_over(walks), spots) for light in self.lights]
        have hrl : (s.lights.map (Wqatdz.counts s ll)).length = s.lights.length := by rw [List.length_map]
        have hps3 := e3 _ _ hps2
        refine ⟨_, rfl, a, _, dx, _, _, rfl, e03 _ _ hme, C.cl, C.n_lights, cF_lights, la, rfl, ⟨_, sq_of (e03 _ _ h3)⟩, fun D hD => lc_it (walk_list (K := K) (a := la) (xs := lv)) (fun i H' => Ex H3 H' ∧ ∃ vd, H' D = some (.lst vd) ∧ Reps (fun v r => IsL (dl H' [D]) v (natL r)) vd ((s.lights.map (Wqatdz.counts s ll)).take i)) ⟨Ex.new hD, [], upd_same, Reps.nil⟩ (fun i H' _ h => sq_of (h.1 _ _ (e03 _ _ h3))) ?_ ?_⟩
        · rintro i v' H4 H5 hi ⟨e4, vd, h1, h2⟩ ⟨rfl, hxi⟩
          have lt : i < s.lights.length := by rw [← h4.n1]; exact hi
          obtain ⟨l, hli⟩ : ∃ l, s.lights[i]? = some l := ⟨_, List.getElem?_eq_getElem lt⟩
          obtain ⟨vl, hvl, hll'⟩ := hc.light h3 hli
          rw [hvl] at hxi
          cases hxi
          obtain ⟨ql, ⟨⟨pl, dxl, vpp, vh, vc, rfl, hpl', hrest⟩, okl⟩, _⟩ := id hll'
          have hat : (s.lights.map (Wqatdz.counts s ll))[i]? = some (Wqatdz.counts s ll l) := by
            rw [List.getElem?_map, hli]
            rfl
          have e04 := e03.trans e4
          refine ⟨rfl, ?_⟩
          dsimp only [tYes]
          rw [if_pos rfl]
          refine ⟨_, rfl, pl, dxl, _, rfl, e04 _ _ hpl', lF_none (by decide +kernel) (by decide +kernel) (by decide +kernel) (by decide +kernel) (by decide +kernel), _, rfl, l, s.coasts, walksOver (x, y) (u, v), ⟨_, _, rfl, hll'.mono e04, hw.mono (e2.trans (e3.trans e4))⟩, by omega, fun v5 H6 e6 h6 f6 => ?_⟩
          have hcl : (cols s.coasts l (placesOver (walksOver (x, y) (u, v)))).length = (placesOver (walksOver (x, y) (u, v))).length := by
            unfold cols
            rw [List.length_map]
          refine ⟨_, rfl, cols s.coasts l (placesOver (walksOver (x, y) (u, v))), spots, ⟨_, _, rfl, h6, ⟨ps, rfl, e6 _ _ (e4 _ _ hps3)⟩⟩, fun i hi => by rw [hcl]; exact hsi i hi, fun c hcc => ?_, fun v7 H7 e7 h7 => ?_⟩
          · unfold cols at hcc
            obtain ⟨p, _, rfl⟩ := List.mem_map.mp hcc
            exact seen_le okl s.coasts p
          · rw [hcs l] at h7
            have e67 := e6.trans e7
            have h17 := e67 _ _ h1
            refine ⟨vd, h17, ?_, Ex.mut (e4.trans e67) hD, _, upd_same, ?_⟩
            · rw [h2.1]
              have h8 := List.length_take_le' i (s.lights.map (Wqatdz.counts s ll))
              exact Nat.lt_of_le_of_lt (show _ ≤ 24 by omega) (by decide)
            · rw [take_next hat]
              have kp : Kept H7 (upd H7 D (.lst (vd ++ [v7]))) [D] := fun b o nb z => by rw [upd_ne (fun y => nb (by simp [y]))]; exact z
              refine Reps.add (h2.imp fun v x z => (z.mono (Kept.of e67).dl).mono kp.dl) ?_
              obtain ⟨p7, rfl, n7, hp7⟩ := h7
              have nD : p7 ≠ D := fun z => by rw [z, e6 _ _ h1] at n7; cases n7
              exact ⟨p7, rfl, dl_at (by rw [upd_ne nD]; exact hp7) (by simpa using nD)⟩
        · rintro H4 ⟨e4, vd, h1, h2⟩
          rw [h4.n1, List.take_of_length_le (by rw [hrl]; exact Nat.le_refl _)] at h2
          dsimp only [gName]
          have h2 : Reps (fun v r => IsL H4 v (natL r)) vd (s.lights.map (Wqatdz.counts s ll)) := h2.imp fun v x z => z.mono dl_sub
          have hne : ∀ r ∈ s.lights.map (Wqatdz.counts s ll), r ≠ [] := fun r hr z => by
            obtain ⟨l, _, rfl⟩ := List.mem_map.mp hr
            rw [cnt_is] at z
            have := cnt_len (ll.map (BnC.seenFrom s.coasts l))
            rw [z] at this
            cases this
          have hrn : s.lights.map (Wqatdz.counts s ll) ≠ [] := fun z => by
            have := congrArg List.length z
            rw [hrl] at this
            exact q.2 this
          have hlt := least_lt hrn
          have h5len : ∀ r ∈ s.lights.map (Wqatdz.counts s ll), r.length = 5 := fun r hr => by
            obtain ⟨l, _, rfl⟩ := List.mem_map.mp hr
            rw [cnt_is]
            exact cnt_len _
          generalize s.lights.map (Wqatdz.counts s ll) = rows at h2 hne hrn hlt hst h5len
          obtain ⟨r, hr⟩ : ∃ r, rows[least rows]? = some r := ⟨_, List.getElem?_eq_getElem hlt⟩
          rw [hr] at hst
          obtain ⟨vr, hvr, pr, rfl, hpr⟩ := h2.at hr
          -- best = number_of_least_greatest(counted)
          refine ⟨_, rfl, rows, ⟨⟨_, rfl, D, vd, rfl, h1, h2⟩, hne⟩, fun vb H5 e5 hvb => ?_⟩
          have hvb : vb = .int (least rows : Nat) := hvb
          subst hvb
          dsimp only [gName]
          have e05 := e03.trans (e4.trans e5)
          -- return [best] + counted[best]
          refine ⟨_, rfl, (by show 1 ≤ sizeLine; decide), fun q1 m1 => ⟨_, rfl, _, rfl, D, _, _, _, rfl, rfl, sq_of (Ex.new m1 _ _ (e5 _ _ h1)), atI_nat hvr, ?_⟩⟩
          refine ⟨q1, pr, _, _, rfl, rfl, upd_same, Ex.new m1 _ _ (e5 _ _ hpr), ?_, fun q2 m2 => ?_⟩
          · rw [natL_len, h5len r (List.mem_of_getElem? hr)]
            exact Nat.le_trans (show 1 + 5 ≤ 6 by decide) (by decide)
          · have e06 := e05.trans (Ex.new (o := .lst [V.int (least rows : Nat)]) m1)
            refine same _ _ hst _ _ (e06.trans (Ex.new m2)) ⟨q2, rfl, fresh_back e06 m2, ?_⟩
            rw [upd_same, List.map_cons, List.map_map]
            rfl
end
end Bc

namespace Bc
open PySem PySem.Spec PyProof.Rows L2 Evl
local macro_rules | `(tactic| walk_at "ev") => `(tactic| repeat' (first
  | with_reducible exact ev_c
  | with_reducible exact rv_I0
  | with_reducible exact ru_neg
  | with_reducible exact ea_nil
  | with_reducible refine' ev_var ?_
  | with_reducible refine' ev_chain ?_ ?_ ?_ ?_ ?_
  | with_reducible refine' ev_op ?_ ?_ ?_
  | with_reducible refine' ev_un ?_ ?_
  | with_reducible refine' ev_andV ?_ (fun _ => ?_)
  | with_reducible refine' ev_orV ?_ (fun _ => ?_)
  | with_reducible refine' ev_notV ?_
  | with_reducible refine' et_test ?_
  | with_reducible refine' et_B ?_
  | with_reducible refine' et_and ?_ (fun _ => ?_)
  | with_reducible refine' et_or ?_ (fun _ => ?_)
  | with_reducible refine' et_not ?_
  | with_reducible refine' ea_cons ?_ ?_
  | with_reducible refine' rv_it (by assumption) ?_
  | with_reducible refine' rv_mul ?_
  | with_reducible refine' rv_eq ?_
  | with_reducible refine' rv_ne ?_
  | exact rfl
  | ((with_reducible show CMul _ _); (try dsimp only at *); first | exact Or.inl ⟨by omega, by omega⟩ | exact Or.inr ⟨by omega, by omega⟩)))
section
variable {P : Program} {w : World} {K : PySem.W.Frag} {mg : Str → Option Value} {base : Heap} {ad : String → Addr}
/-! ### the calls in their list -/
theorem at_mid (p : List Int) (n : Int) (r : List Int) : atI ((p ++ n :: r).map V.int) (p.length : Int) = some (.int n) := by
  refine atI_nat ?_
  rw [List.getElem?_map, List.getElem?_append_right (Nat.le_refl _), Nat.sub_self]
  rfl
theorem cut_mid (p x r : List Int) : cutV ((p ++ (x ++ r)).map V.int) (some ((p.length : Nat) : Int)) (some ((p.length + x.length : Nat) : Int)) = x.map V.int := by
  unfold cutV
  rw [HT.sIx_nat, HT.sIx_nat, List.length_map, List.length_append, List.length_append, Nat.min_eq_left (by omega), Nat.min_eq_left (by omega), ← List.map_drop, List.drop_left, ← List.map_take, Nat.add_sub_cancel_left, List.take_left]
def IsRows (H : Hp) (v : V) (xs : List (List Int)) : Prop := ∃ p vs, v = .ref p ∧ H p = some (.lst vs) ∧ Reps (fun v x => IsL H v (x.map V.int)) vs xs
theorem IsRows.mono {H H' : Hp} {v : V} {xs : List (List Int)} (h : IsRows H v xs) (e : Ex H H') : IsRows H' v xs := by
  obtain ⟨p, vs, rfl, hp, hr⟩ := h
  exact ⟨p, vs, rfl, e _ _ hp, hr.imp fun v x q => IsL.mono q e⟩
theorem putRows_snoc (xs : List (List Int)) (x : List Int) : PyFlat.putRows (xs ++ [x]) = PyFlat.putRows xs ++ PyFlat.putRow x := by
  induction xs with
  | nil => exact List.append_nil _
  | cons y ys ih =>
    show PyFlat.putRow y ++ PyFlat.putRows (ys ++ [x]) = PyFlat.putRow y ++ PyFlat.putRows ys ++ PyFlat.putRow x
    rw [ih, List.append_assoc]
abbrev s_read_lists : Stmt := top 79
abbrev N_read_lists : List Str := ["calls", "count", "start", "lists", "number", "end"]
theorem sc_read_lists : FnScope N_read_lists ["calls", "count", "start"] (defScope s_read_lists) := ⟨rfl, rfl, rfl, by decide +kernel, rfl, by decide +kernel, by decide +kernel⟩
def sp_read_lists (K : PySem.W.Frag) : Sp := fun vs H Q _ => ∃ (ac : Addr) (p : List Int) (xs : List (List Int)) (r : List Int), vs = [.ref ac, .int (xs.length : Nat), .int (p.length : Nat)] ∧ SqL K H ac ((p ++ (PyFlat.putRows xs ++ r)).map V.int) ∧ xs.length ≤ 1000 ∧
  ∀ v H', Ex H H' → (∃ x, IsT H' v [x, .int ((p.length + (PyFlat.putRows xs).length : Nat) : Int)] ∧ IsRows H' x xs) → Q v H'
theorem ok_read_lists (T : Tx K mg ad) {f : Addr} {fd : FuncData} (F : Fun K "read_lists" "read_lists" s_read_lists f fd) : FnOk P w K mg base CX0 1 f fd ["calls", "count", "start"] (sp_read_lists K) := by
  refine F.ok sc_read_lists (fun vs H Q E h => ?_) (fun cdv A outer s H vs Q E hr h => ?_)
  · obtain ⟨ac, p, xs, r, rfl, _⟩ := h
    rfl
  · refine ⟨_, (pss_cons (ps_set (i := 3) sc_read_lists.nd rfl (Or.inl rfl) (pe_lst pa_nil))
    (pss_cons (ps_for PassesOwn.never rfl (pi_range1 (by rfl) T.b_range (pa_cons (pv 1) pa_nil)) (pg_name (i := 4) sc_read_lists.nd rfl (Or.inl rfl)) 
        (pss_cons (ps_set (i := 5) sc_read_lists.nd rfl (Or.inl rfl) (pe_op op_add (pe_op op_add (pv 2) pe_int) (pe_ix ix_list (pv 0) (pv 2) (fun _ _ => rfl))))
        (pss_cons (ps_expr (pe_bm PySem.F.plainAttrs_list PySem.F.slot_list_append PySem.F.type_list_append mt_append (pv 3) (pa_cons (pe_slice sl_list (pv 0) (po_some (pe_op op_add (pv 2) pe_int)) (po_some (pv 5))) pa_nil)))
        (pss_one (ps_set (i := 2) sc_read_lists.nd rfl (Or.inl rfl) (pv 5))))))
    (pss_one (ps_ret (pe_tup (pa_cons (pv 3) (pa_cons (pv 2) pa_nil))))))), ?_⟩
    obtain ⟨ac, p, xs, r, rfl, hac, hlen, k⟩ := h
    refine q_asgL (el_lst ea_nil (by simp)) fun pl H1 npl e1 hpl => ?_
    refine ⟨_, rfl, _, rfl, by omega, by omega, for_it (walk_range (lo := 0) (n := xs.length)) (fun i σ H' => ∃ (vs : List V) (y4 y5 : Option V), σ = [some (.ref ac), some (.int (xs.length : Nat)), some (.int ((p.length + (PyFlat.putRows (xs.take i)).length : Nat) : Int)), some (.ref pl), y4, y5] ∧ (∀ b o, H b = some o → H' b = some o) ∧ H' pl = some (.lst vs) ∧ Reps (fun v x => ∃ q, v = .ref q ∧ q ≠ pl ∧ H' q = some (.lst (x.map V.int))) vs (xs.take i))
      ⟨[], none, none, rfl, e1, hpl, Reps.nil⟩ (fun _ _ _ _ _ => trivial) ?_ ?_⟩
    · rintro i v σ H2 H3 hi ⟨vs, y4, y5, rfl, h1, h2, h3⟩ ⟨rfl, rfl⟩
      dsimp only [gName]
      have hx : xs[i]? = some xs[i] := by simp [hi]
      generalize xs[i] = x at hx
      have hsp : PyFlat.putRows xs = PyFlat.putRows (xs.take i) ++ (PyFlat.putRow x ++ PyFlat.putRows (xs.drop (i + 1))) := by
        have : ∀ a b : List (List Int), PyFlat.putRows (a ++ b) = PyFlat.putRows a ++ PyFlat.putRows b := fun a b => by
          induction a with
          | nil => rfl
          | cons y ys ih =>
            show PyFlat.putRow y ++ PyFlat.putRows (ys ++ b) = PyFlat.putRow y ++ PyFlat.putRows ys ++ PyFlat.putRows b
            rw [ih, List.append_assoc]
        have hx2 : xs = xs.take i ++ x :: xs.drop (i + 1) := by rw [← drop_at hx, List.take_append_drop]
        exact (congrArg PyFlat.putRows hx2).trans (this _ _)
      have eH : Ex H H3 := h1
      have hac3 := ex_l eH hac
      generalize hq : p ++ PyFlat.putRows (xs.take i) = q
      have hql : p.length + (PyFlat.putRows (xs.take i)).length = q.length := by rw [← hq, List.length_append]
      have hall : p ++ (PyFlat.putRows xs ++ r) = q ++ ((x.length : Int) :: (x ++ (PyFlat.putRows (xs.drop (i + 1)) ++ r))) := by
        rw [hsp, ← hq]
        simp only [PyFlat.putRow, List.append_assoc, List.cons_append]
      have hall2 : p ++ (PyFlat.putRows xs ++ r) = (q ++ [(x.length : Int)]) ++ (x ++ (PyFlat.putRows (xs.drop (i + 1)) ++ r)) := by
        rw [hall]
        simp only [List.nil_append, List.cons_append, List.append_assoc]
      rw [hql]
      have cat : ∀ {σ : L2.St} {H' : Hp}, σ[0]? = some (some (.ref ac)) → σ[2]? = some (some (.int (q.length : Nat))) → Ex H H' → Ev (tOp (rIxL K) (tVar 0) (tVar 2)) σ H' (.int (x.length : Nat)) := fun a b e => ev_op (ev_var a) (ev_var b) (rv_ixL (ex_l e hac) (by rw [hall]; exact at_mid _ _ _))
      refine q_asg (v := .int ((q.length + 1 + x.length : Nat) : Int)) (ev_is (ev_op (ev_op (ev_var rfl) ev_c rv_I0) (cat rfl rfl eH) rv_I0) (congrArg V.int (by omega))) fun H4 e4 => ?_
      have e04 : Ex H H4 := eH.trans e4
      have hcut : cutV ((p ++ (PyFlat.putRows xs ++ r)).map V.int) (some (((q.length : Nat) : Int) + 1)) (some ((q.length + 1 + x.length : Nat) : Int)) = x.map V.int := by
        rw [hall2]
        have := cut_mid (q ++ [(x.length : Int)]) x (PyFlat.putRows (xs.drop (i + 1)) ++ r)
        rw [List.length_append, List.length_singleton] at this
        have e : (((q.length : Nat) : Int) + 1) = ((q.length + 1 : Nat) : Int) := by omega
        rw [e]
        exact this
      refine q_appL (l := pl) (xs := vs) (ys := x.map V.int) (e4 _ _ h2) (ev_var rfl) (hcut ▸ el_sl (ev_var rfl) (eo_some (ev_op (ev_var rfl) ev_c rv_I0)) (eo_some (ev_var rfl)) (ex_l e04 hac)) (by rw [h3.1, List.length_take]; omega) fun pn H5 hpn e5 h5 => ?_
      have nn : pn ≠ pl := fun z => by rw [z, e4 _ _ h2] at hpn; cases hpn
      have old : ∀ b o, b ≠ pl → H3 b = some o → upd H5 pl (.lst (vs ++ [V.ref pn])) b = some o := fun b o nb z => by
        rw [upd_ne nb]
        exact e5 _ _ (e4 _ _ z)
      refine s_asg (v := .int ((q.length + 1 + x.length : Nat) : Int)) (ev_var rfl) fun H6 e6 => ⟨_, some (.int (0 + (i : Nat))), some (.int ((q.length + 1 + x.length : Nat) : Int)), ?_, fun b o z => e6 _ _ (old b o (ne_of_none z npl) (h1 _ _ z)), e6 _ _ upd_same, ?_⟩
      · rw [List.take_add_one, hx]
        show _ = [_, _, some (V.int ((p.length + (PyFlat.putRows (xs.take i ++ [x])).length : Nat) : Int)), _, _, _]
        rw [putRows_snoc, List.length_append]
        have : p.length + ((PyFlat.putRows (xs.take i)).length + (PyFlat.putRow x).length) = q.length + 1 + x.length := by
          show p.length + ((PyFlat.putRows (xs.take i)).length + (x.length + 1)) = _
          omega
        rw [this]
        rfl
      · rw [List.take_add_one, hx]
        refine Reps.add (h3.imp fun v x q => ?_) ⟨pn, rfl, nn, e6 _ _ ?_⟩
        · obtain ⟨q, rfl, nq, hq⟩ := q
          exact ⟨q, rfl, nq, e6 _ _ (old _ _ nq hq)⟩
        · rw [upd_ne nn]
          exact h5
    · rintro σ H2 ⟨vs, y4, y5, rfl, h1, h2, h3⟩
      dsimp only
      rw [List.take_length] at h3 ⊢
      refine s_retU (xs := [.ref pl, .int ((p.length + (PyFlat.putRows xs).length : Nat) : Int)]) (eu_tup (ea_cons (ev_var rfl) (ea_cons (ev_var rfl) ea_nil)) (by simp)) fun pt H3 hpt e3 h4 => k _ _ (fun b o z => e3 _ _ (h1 _ _ z)) ⟨_, ⟨pt, rfl, h4⟩, pl, vs, rfl, e3 _ _ h2, h3.imp fun v x ⟨q, a, _, b⟩ => ⟨q, a, e3 _ _ b⟩⟩
end
end Bc

namespace Bc
open PySem PySem.Spec PyProof.Rows L2 Evl
local macro_rules | `(tactic| walk_at "ev") => `(tactic| repeat' (first
  | with_reducible exact ev_c
  | with_reducible exact rv_I0
  | with_reducible exact ru_neg
  | with_reducible exact ea_nil
  | with_reducible refine' ev_var ?_
  | with_reducible refine' ev_chain ?_ ?_ ?_ ?_ ?_
  | with_reducible refine' ev_op ?_ ?_ ?_
  | with_reducible refine' ev_un ?_ ?_
  | with_reducible refine' ev_andV ?_ (fun _ => ?_)
  | with_reducible refine' ev_orV ?_ (fun _ => ?_)
  | with_reducible refine' ev_notV ?_
  | with_reducible refine' et_test ?_
  | with_reducible refine' et_B ?_
  | with_reducible refine' et_and ?_ (fun _ => ?_)
  | with_reducible refine' et_or ?_ (fun _ => ?_)
  | with_reducible refine' et_not ?_
  | with_reducible refine' ea_cons ?_ ?_
  | with_reducible refine' rv_it (by assumption) ?_
  | with_reducible refine' rv_mul ?_
  | with_reducible refine' rv_eq ?_
  | with_reducible refine' rv_ne ?_
  | exact rfl
  | ((with_reducible show CMul _ _); (try dsimp only at *); first | exact Or.inl ⟨by omega, by omega⟩ | exact Or.inr ⟨by omega, by omega⟩)))
section
variable {P : Program} {w : World} {K : PySem.W.Frag} {mg : Str → Option Value} {base : Heap} {ad : String → Addr}
/-! ### one call -/
def sp_answer_call (ad : String → Addr) : Sp := fun vs H Q _ => ∃ (a la ca : Addr) (sh S : List Addr) (s : Wqatdz.State) (p : Int) (ns : List Int) (xs : List (List Int)) (nv lv : V),
  vs = [.ref a, .int p, nv, lv] ∧ ChartAt ad H a la ca sh S s ∧ IsL H nv (ns.map V.int) ∧ IsRows H lv xs ∧ WqatdzNeutral.asked1 ((p :: ns) :: xs) = true ∧ (∀ x ∈ xs, x.length ≤ 30000) ∧
  ∀ v H' la' ca' sh', ChartAt ad H' a la' ca' sh' S (WqatdzNeutral.step s ((p :: ns) :: xs)).1 → Left H H' a (la :: ca :: sh) (la' :: ca' :: sh') → NewL H H' v ((WqatdzNeutral.step s ((p :: ns) :: xs)).2.map V.int) → Q v H'
/-- a method's answer given back -/
theorem s_play {α : Type} {pre : List V → Hp → α → Prop} {call : α → Wqatdz.Call} {m : Str} {σ : L2.St} {H : Hp} {D : Ends} {to : TE} {ta : TA} {a la ca : Addr} {sh S : List Addr} {s : Wqatdz.State} (c : α) {rest : List V}
    (hc : ChartAt ad H a la ca sh S s) (ho : Ev to σ H (.ref a)) (hm : (cF la ca).lookup m = none) (ha : EvA ta σ H rest) (hp : ∀ H1, Ex H H1 → pre rest H1 c)
    (k : ∀ v H' la' ca' sh', ChartAt ad H' a la' ca' sh' S (Wqatdz.step s (call c)).1 → Left H H' a (la :: ca :: sh) (la' :: ca' :: sh') → NewL H H' v (ansL (Wqatdz.step s (call c)).2) → D.rt v H') : tRet (tMeth (ad "Chart") m (spCh ad pre call) [] E0 to ta) D σ H := by
  refine ho H (Ex.refl H) _ fun H1 e1 => ?_
  obtain ⟨dx, hme⟩ := hc.me
  refine ⟨a, dx, _, rfl, e1 _ _ hme, hm, ha H1 e1 _ fun H2 e2 => ?_⟩
  have e02 := e1.trans e2
  refine ⟨a, la, ca, sh, S, s, c, rest ++ [], rfl, hc.mono e02, by rw [List.append_nil]; exact hp _ e02, fun v H' la' ca' sh' h1 h2 h3 => k v H' la' ca' sh' h1 ⟨fun b o x y z => h2.kp b o x y (e02 _ _ z), fun b hb => (h2.nw b hb).imp id fun z => fresh_back e02 z⟩ ?_⟩
  obtain ⟨p, rfl, hp, hq⟩ := h3
  exact ⟨p, rfl, fresh_back e02 hp, hq⟩
/-- which call it isn't, is -/
theorem no_ {σ : L2.St} {H : Hp} {D : Ends} {tu tz : TS} {p m : Int} (h : σ[1]? = some (some (.int p))) (n : p ≠ m) (k : ∀ H1, Ex H H1 → tz D σ H1) : tSeq (tIfS (tTest (tOp rEq (tVar 1) (tC (.int m)))) tu tNext) tz D σ H :=
  q_when (b := decide (p = m)) (et_test (ev_is (ev_op (ev_var h) ev_c (rv_eq rfl)) (congrArg V.bl (int_eq _ _)))) (fun z => absurd (of_decide_eq_true z) n) fun _ H1 e1 => k H1 e1
theorem yes_ {σ : L2.St} {H : Hp} {D : Ends} {tu tz : TS} {p : Int} (h : σ[1]? = some (some (.int p))) (k : ∀ H1, Ex H H1 → tu { D with nx := tz D } σ H1) : tSeq (tIfS (tTest (tOp rEq (tVar 1) (tC (.int p)))) tu tNext) tz D σ H :=
  q_when (b := decide (p = p)) (et_test (ev_is (ev_op (ev_var h) ev_c (rv_eq rfl)) (congrArg V.bl (int_eq _ _)))) (fun _ H1 e1 => k H1 e1) fun z => absurd rfl (of_decide_eq_false z)
theorem by_back {b : List Int} (hb : ∀ z ∈ b, 0 ≤ z ∧ z < 256) : (WqatdzNeutral.bytes b).map byV = b.map V.int := by
  have hb2 := bytes_back hb
  rw [← hb2, List.map_map]
  rw [hb2]
  rfl
theorem nat_back {t : List Int} (ht : ∀ z ∈ t, 0 ≤ z ∧ z < 2 ^ 32) : natL (WqatdzNeutral.nats t) = t.map V.int := by
  have h2 := nats_back ht
  unfold natL
  conv => rhs; rw [← h2, List.map_map]
  rfl
theorem nat_len (t : List Int) : (WqatdzNeutral.nats t).length = t.length := by
  unfold WqatdzNeutral.nats
  rw [List.length_map]
abbrev s_answer_call : Stmt := top 78
abbrev N_answer_call : List Str := ["chart", "call", "numbers", "lists"]
theorem sc_answer_call : FnScope N_answer_call ["chart", "call", "numbers", "lists"] (defScope s_answer_call) := ⟨rfl, rfl, rfl, by decide +kernel, rfl, by decide +kernel, by decide +kernel⟩
theorem ok_answer_call (T : Tx K mg ad) (DM_Chart_light : Dm P w K mg base (ad "Chart") "light" 7 ["self", "x", "y", "reach", "text", "numbers"] (sp_Chart_light K ad)) (DM_Chart_coast : Dm P w K mg base (ad "Chart") "coast" 6 ["self", "x", "y", "u", "v"] (sp_Chart_coast K ad)) (DM_Chart_seen : Dm P w K mg base (ad "Chart") "seen" 8 ["self", "x", "y"] (sp_Chart_seen K ad)) (DM_Chart_at : Dm P w K mg base (ad "Chart") "at" 8 ["self", "moment", "x", "y"] (sp_Chart_at K ad)) (DM_Chart_rhythm : Dm P w K mg base (ad "Chart") "rhythm" 7 ["self", "number", "x", "y"] (sp_Chart_rhythm K ad)) (DM_Chart_where : Dm P w K mg base (ad "Chart") "where" 9 ["self", "x", "y", "u", "v", "told"] (sp_Chart_where K ad)) (DM_Chart_track : Dm P w K mg base (ad "Chart") "track" 7 ["self", "x", "y", "u", "v", "n"] (sp_Chart_track K ad)) (DM_Chart_tell : Dm P w K mg base (ad "Chart") "tell" 9 ["self", "x", "y", "u", "v", "told"] (sp_Chart_tell K ad)) (DM_Chart_begin_anew : Dm P w K mg base (ad "Chart") "begin_anew" 1 ["self"] (sp_Chart_begin_anew K ad))
    {f : Addr} {fd : FuncData} (F : Fun K "answer_call" "answer_call" s_answer_call f fd) : FnOk P w K mg base CX0 10 f fd ["chart", "call", "numbers", "lists"] (sp_answer_call ad) := by
  refine F.ok sc_answer_call (fun vs H Q E h => ?_) (fun cdv A outer s H vs Q E hr h => ?_)
  · obtain ⟨a, la, ca, sh, S, s, p, ns, xs, nv, lv, rfl, _⟩ := h
    rfl
  refine ⟨_, (pss_cons (ps_if (pt_cmpR op_eq (pv 1) (pe_gint (by rfl) T.g_LIGHT_CALL) (nomark _)) 
        (pss_one (ps_ret (pe_dm DM_Chart_light (hr.mono (by decide)) (pv 0) (pa_cons (pe_ix ix_list (pv 2) pe_int (fun _ _ => rfl)) (pa_cons (pe_ix ix_list (pv 2) pe_int (fun _ _ => rfl)) (pa_cons (pe_ix ix_list (pv 2) pe_int (fun _ _ => rfl)) (pa_cons (pe_ix ix_list (pv 3) pe_int (fun _ _ => rfl)) (pa_cons (pe_ix ix_list (pv 3) pe_int (fun _ _ => rfl)) pa_nil)))))))) pss_nil)
    (pss_cons (ps_if (pt_cmpR op_eq (pv 1) (pe_gint (by rfl) T.g_COAST_CALL) (nomark _)) 
        (pss_one (ps_ret (pe_dm DM_Chart_coast (hr.mono (by decide)) (pv 0) (pa_cons (pe_ix ix_list (pv 2) pe_int (fun _ _ => rfl)) (pa_cons (pe_ix ix_list (pv 2) pe_int (fun _ _ => rfl)) (pa_cons (pe_ix ix_list (pv 2) pe_int (fun _ _ => rfl)) (pa_cons (pe_ix ix_list (pv 2) pe_int (fun _ _ => rfl)) pa_nil))))))) pss_nil)
    (pss_cons (ps_if (pt_cmpR op_eq (pv 1) (pe_gint (by rfl) T.g_SEEN_CALL) (nomark _)) 
        (pss_one (ps_ret (pe_dm DM_Chart_seen (hr.mono (by decide)) (pv 0) (pa_cons (pe_ix ix_list (pv 2) pe_int (fun _ _ => rfl)) (pa_cons (pe_ix ix_list (pv 2) pe_int (fun _ _ => rfl)) pa_nil))))) pss_nil)
    (pss_cons (ps_if (pt_cmpR op_eq (pv 1) (pe_gint (by rfl) T.g_AT_CALL) (nomark _)) 
        (pss_one (ps_ret (pe_dm DM_Chart_at (hr.mono (by decide)) (pv 0) (pa_cons (pe_ix ix_list (pv 2) pe_int (fun _ _ => rfl)) (pa_cons (pe_ix ix_list (pv 2) pe_int (fun _ _ => rfl)) (pa_cons (pe_ix ix_list (pv 2) pe_int (fun _ _ => rfl)) pa_nil)))))) pss_nil)
    (pss_cons (ps_if (pt_cmpR op_eq (pv 1) (pe_gint (by rfl) T.g_RHYTHM_CALL) (nomark _)) 
        (pss_one (ps_ret (pe_dm DM_Chart_rhythm (hr.mono (by decide)) (pv 0) (pa_cons (pe_ix ix_list (pv 2) pe_int (fun _ _ => rfl)) (pa_cons (pe_ix ix_list (pv 2) pe_int (fun _ _ => rfl)) (pa_cons (pe_ix ix_list (pv 2) pe_int (fun _ _ => rfl)) pa_nil)))))) pss_nil)
    (pss_cons (ps_if (pt_cmpR op_eq (pv 1) (pe_gint (by rfl) T.g_WHERE_CALL) (nomark _)) 
        (pss_one (ps_ret (pe_dm DM_Chart_where (hr.mono (by decide)) (pv 0) (pa_cons (pe_ix ix_list (pv 2) pe_int (fun _ _ => rfl)) (pa_cons (pe_ix ix_list (pv 2) pe_int (fun _ _ => rfl)) (pa_cons (pe_ix ix_list (pv 2) pe_int (fun _ _ => rfl)) (pa_cons (pe_ix ix_list (pv 2) pe_int (fun _ _ => rfl)) (pa_cons (pe_ix ix_list (pv 3) pe_int (fun _ _ => rfl)) pa_nil)))))))) pss_nil)
    (pss_cons (ps_if (pt_cmpR op_eq (pv 1) (pe_gint (by rfl) T.g_TRACK_CALL) (nomark _)) 
        (pss_one (ps_ret (pe_dm DM_Chart_track (hr.mono (by decide)) (pv 0) (pa_cons (pe_ix ix_list (pv 2) pe_int (fun _ _ => rfl)) (pa_cons (pe_ix ix_list (pv 2) pe_int (fun _ _ => rfl)) (pa_cons (pe_ix ix_list (pv 2) pe_int (fun _ _ => rfl)) (pa_cons (pe_ix ix_list (pv 2) pe_int (fun _ _ => rfl)) (pa_cons (pe_ix ix_list (pv 2) pe_int (fun _ _ => rfl)) pa_nil)))))))) pss_nil)
    (pss_cons (ps_if (pt_cmpR op_eq (pv 1) (pe_gint (by rfl) T.g_TELL_CALL) (nomark _)) 
        (pss_one (ps_ret (pe_dm DM_Chart_tell (hr.mono (by decide)) (pv 0) (pa_cons (pe_ix ix_list (pv 2) pe_int (fun _ _ => rfl)) (pa_cons (pe_ix ix_list (pv 2) pe_int (fun _ _ => rfl)) (pa_cons (pe_ix ix_list (pv 2) pe_int (fun _ _ => rfl)) (pa_cons (pe_ix ix_list (pv 2) pe_int (fun _ _ => rfl)) (pa_cons (pe_ix ix_list (pv 3) pe_int (fun _ _ => rfl)) pa_nil)))))))) pss_nil)
    (pss_one (ps_ret (pe_dm0 DM_Chart_begin_anew (hr.mono (by decide)) (pv 0)))))))))))), ?_⟩
  obtain ⟨a, la, ca, sh, S, s, p, ns, xs, nv, lv, rfl, hc, ⟨pn, rfl, hn⟩, ⟨pl, vl, rfl, hl, hvl⟩, hask, hx, k⟩ := h
  have num : ∀ {σ : L2.St} {H' : Hp} {i : Int} {n : Int}, σ[2]? = some (some (.ref pn)) → Ex H H' → atI (ns.map V.int) i = some (.int n) → Ev (tOp (rIxL K) (tVar 2) (tC (.int i))) σ H' (.int n) := fun h e q => ev_op (ev_var h) ev_c (rv_il (e _ _ hn) q)
  have row : ∀ {σ : L2.St} {H' : Hp} {i : Int} {v : V}, σ[3]? = some (some (.ref pl)) → Ex H H' → atI vl i = some v → Ev (tOp (rIxL K) (tVar 3) (tC (.int i))) σ H' v := fun h e q => ev_op (ev_var h) ev_c (rv_il (e _ _ hl) q)
  have fin : ∀ {H1 : Hp}, Ex H H1 → ∀ x, WqatdzNeutral.callOf ((p :: ns) :: xs) = some x → ∀ v H' la' ca' sh', ChartAt ad H' a la' ca' sh' S (Wqatdz.step s x).1 → Left H1 H' a (la :: ca :: sh) (la' :: ca' :: sh') → NewL H1 H' v (ansL (Wqatdz.step s x).2) → Q v H' := by
    intro H1 e1 x hx v H' la' ca' sh' h1 h2 h3
    have hs : WqatdzNeutral.step s ((p :: ns) :: xs) = ((Wqatdz.step s x).1, (Wqatdz.step s x).2.ret :: (Wqatdz.step s x).2.nums) := by
      unfold WqatdzNeutral.step
      rw [hx]
    rw [hs] at k
    refine k v H' la' ca' sh' h1 ⟨fun b o x y z => h2.kp b o x y (e1 _ _ z), fun b hb => (h2.nw b hb).imp id fun z => fresh_back e1 z⟩ ?_
    obtain ⟨p, rfl, hp, hq⟩ := h3
    exact ⟨p, rfl, fresh_back e1 hp, hq⟩
  have two : ∀ {y z : List Int}, xs = [y, z] → ∃ vy vz, atI vl 0 = some vy ∧ atI vl 1 = some vz ∧ IsL H vy (y.map V.int) ∧ IsL H vz (z.map V.int) := by
    intro y z e
    subst e
    obtain ⟨vy, g1, g2⟩ := hvl.at (i := 0) rfl
    obtain ⟨vz, g3, g4⟩ := hvl.at (i := 1) rfl
    exact ⟨vy, vz, atI_nat (j := 0) g1, atI_nat (j := 1) g3, g2, g4⟩
  have one : ∀ {y : List Int}, xs = [y] → ∃ vy, atI vl 0 = some vy ∧ IsL H vy (y.map V.int) := by
    intro y e
    subst e
    obtain ⟨vy, g1, g2⟩ := hvl.at (i := 0) rfl
    exact ⟨vy, atI_nat (j := 0) g1, g2⟩
  have hform := form_of hask
  generalize hcc : (p :: ns) :: xs = cc at hform
  cases hform with
  | light x y r b sl hb =>
    cases hcc
    obtain ⟨vy, vz, g1, g2, h1, h2⟩ := two rfl
    refine yes_ rfl fun H1 e1 => ?_
    have ee := e1
    exact s_play (call := fun c : Int × Int × Nat × List UInt8 × List Int => .light c.1 c.2.1 c.2.2.1 c.2.2.2.1 c.2.2.2.2) (x, y, r, WqatdzNeutral.bytes b, sl) (hc.mono ee) (ev_var rfl) (cF_none (by decide +kernel) (by decide +kernel)) (ea_cons (num rfl ee rfl) (ea_cons (num rfl ee rfl) (ea_cons (num rfl ee rfl) (ea_cons (row rfl ee g1) (ea_cons (row rfl ee g2) ea_nil))))) (fun H2 e2 => ⟨⟨vy, vz, rfl, by unfold IsBy; rw [by_back hb]; exact h1.mono (ee.trans e2), h2.mono (ee.trans e2)⟩, hx _ (by simp)⟩) (fin ee _ rfl)
  | coast x y u v =>
    cases hcc
    refine no_ rfl (by decide) fun H1 e1 => ?_
    refine yes_ rfl fun H2 e2 => ?_
    have ee := (e1).trans e2
    exact s_play (call := fun c : Int × Int × Int × Int => .coast c.1 c.2.1 c.2.2.1 c.2.2.2) (x, y, u, v) (hc.mono ee) (ev_var rfl) (cF_none (by decide +kernel) (by decide +kernel)) (ea_cons (num rfl ee rfl) (ea_cons (num rfl ee rfl) (ea_cons (num rfl ee rfl) (ea_cons (num rfl ee rfl) ea_nil)))) (fun H2 e2 => rfl) (fin ee _ rfl)
  | seen x y =>
    cases hcc
    refine no_ rfl (by decide) fun H1 e1 => ?_
    refine no_ rfl (by decide) fun H2 e2 => ?_
    refine yes_ rfl fun H3 e3 => ?_
    have ee := ((e1).trans e2).trans e3
    exact s_play (call := fun c : Int × Int => .seen c.1 c.2) (x, y) (hc.mono ee) (ev_var rfl) (cF_none (by decide +kernel) (by decide +kernel)) (ea_cons (num rfl ee rfl) (ea_cons (num rfl ee rfl) ea_nil)) (fun H2 e2 => rfl) (fin ee _ rfl)
  | at_ z x y =>
    cases hcc
    refine no_ rfl (by decide) fun H1 e1 => ?_
    refine no_ rfl (by decide) fun H2 e2 => ?_
    refine no_ rfl (by decide) fun H3 e3 => ?_
    refine yes_ rfl fun H4 e4 => ?_
    have ee := (((e1).trans e2).trans e3).trans e4
    exact s_play (call := fun c : Nat × Int × Int => .at_ c.1 c.2.1 c.2.2) (z, x, y) (hc.mono ee) (ev_var rfl) (cF_none (by decide +kernel) (by decide +kernel)) (ea_cons (num rfl ee rfl) (ea_cons (num rfl ee rfl) (ea_cons (num rfl ee rfl) ea_nil))) (fun H2 e2 => rfl) (fin ee _ rfl)
  | rhythm i x y =>
    cases hcc
    refine no_ rfl (by decide) fun H1 e1 => ?_
    refine no_ rfl (by decide) fun H2 e2 => ?_
    refine no_ rfl (by decide) fun H3 e3 => ?_
    refine no_ rfl (by decide) fun H4 e4 => ?_
    refine yes_ rfl fun H5 e5 => ?_
    have ee := ((((e1).trans e2).trans e3).trans e4).trans e5
    exact s_play (call := fun c : Nat × Int × Int => .rhythm c.1 c.2.1 c.2.2) (i, x, y) (hc.mono ee) (ev_var rfl) (cF_none (by decide +kernel) (by decide +kernel)) (ea_cons (num rfl ee rfl) (ea_cons (num rfl ee rfl) (ea_cons (num rfl ee rfl) ea_nil))) (fun H2 e2 => rfl) (fin ee _ rfl)
  | where_ x y u v t ht =>
    cases hcc
    obtain ⟨vy, g1, h1⟩ := one rfl
    refine no_ rfl (by decide) fun H1 e1 => ?_
    refine no_ rfl (by decide) fun H2 e2 => ?_
    refine no_ rfl (by decide) fun H3 e3 => ?_
    refine no_ rfl (by decide) fun H4 e4 => ?_
    refine no_ rfl (by decide) fun H5 e5 => ?_
    refine yes_ rfl fun H6 e6 => ?_
    have ee := (((((e1).trans e2).trans e3).trans e4).trans e5).trans e6
    exact s_play (call := fun c : Int × Int × Int × Int × List Nat => .where_ c.1 c.2.1 c.2.2.1 c.2.2.2.1 c.2.2.2.2) (x, y, u, v, WqatdzNeutral.nats t) (hc.mono ee) (ev_var rfl) (cF_none (by decide +kernel) (by decide +kernel)) (ea_cons (num rfl ee rfl) (ea_cons (num rfl ee rfl) (ea_cons (num rfl ee rfl) (ea_cons (num rfl ee rfl) (ea_cons (row rfl ee g1) ea_nil))))) (fun H2 e2 => ⟨⟨vy, rfl, by rw [nat_back ht]; exact h1.mono (ee.trans e2)⟩, by rw [nat_len]; exact hx _ (by simp)⟩) (fin ee _ rfl)
  | track x y u v n =>
    cases hcc
    refine no_ rfl (by decide) fun H1 e1 => ?_
    refine no_ rfl (by decide) fun H2 e2 => ?_
    refine no_ rfl (by decide) fun H3 e3 => ?_
    refine no_ rfl (by decide) fun H4 e4 => ?_
    refine no_ rfl (by decide) fun H5 e5 => ?_
    refine no_ rfl (by decide) fun H6 e6 => ?_
    refine yes_ rfl fun H7 e7 => ?_
    have ee := ((((((e1).trans e2).trans e3).trans e4).trans e5).trans e6).trans e7
    exact s_play (call := fun c : Int × Int × Int × Int × Nat => .track c.1 c.2.1 c.2.2.1 c.2.2.2.1 c.2.2.2.2) (x, y, u, v, n) (hc.mono ee) (ev_var rfl) (cF_none (by decide +kernel) (by decide +kernel)) (ea_cons (num rfl ee rfl) (ea_cons (num rfl ee rfl) (ea_cons (num rfl ee rfl) (ea_cons (num rfl ee rfl) (ea_cons (num rfl ee rfl) ea_nil))))) (fun H2 e2 => rfl) (fin ee _ rfl)
  | tell x y u v t ht =>
    cases hcc
    obtain ⟨vy, g1, h1⟩ := one rfl
    refine no_ rfl (by decide) fun H1 e1 => ?_
    refine no_ rfl (by decide) fun H2 e2 => ?_
    refine no_ rfl (by decide) fun H3 e3 => ?_
    refine no_ rfl (by decide) fun H4 e4 => ?_
    refine no_ rfl (by decide) fun H5 e5 => ?_
    refine no_ rfl (by decide) fun H6 e6 => ?_
    refine no_ rfl (by decide) fun H7 e7 => ?_
    refine yes_ rfl fun H8 e8 => ?_
    have ee := (((((((e1).trans e2).trans e3).trans e4).trans e5).trans e6).trans e7).trans e8
    exact s_play (call := fun c : Int × Int × Int × Int × List Nat => .tell c.1 c.2.1 c.2.2.1 c.2.2.2.1 c.2.2.2.2) (x, y, u, v, WqatdzNeutral.nats t) (hc.mono ee) (ev_var rfl) (cF_none (by decide +kernel) (by decide +kernel)) (ea_cons (num rfl ee rfl) (ea_cons (num rfl ee rfl) (ea_cons (num rfl ee rfl) (ea_cons (num rfl ee rfl) (ea_cons (row rfl ee g1) ea_nil))))) (fun H2 e2 => ⟨⟨vy, rfl, by rw [nat_back ht]; exact h1.mono (ee.trans e2)⟩, by rw [nat_len]; exact hx _ (by simp)⟩) (fin ee _ rfl)
  | clear =>
    cases hcc
    refine no_ rfl (by decide) fun H1 e1 => ?_
    refine no_ rfl (by decide) fun H2 e2 => ?_
    refine no_ rfl (by decide) fun H3 e3 => ?_
    refine no_ rfl (by decide) fun H4 e4 => ?_
    refine no_ rfl (by decide) fun H5 e5 => ?_
    refine no_ rfl (by decide) fun H6 e6 => ?_
    refine no_ rfl (by decide) fun H7 e7 => ?_
    refine no_ rfl (by decide) fun H8 e8 => ?_
    have ee := (((((((e1).trans e2).trans e3).trans e4).trans e5).trans e6).trans e7).trans e8
    exact s_play (call := fun _ : Unit => .clear) () (hc.mono ee) (ev_var rfl) (cF_none (by decide +kernel) (by decide +kernel)) ea_nil (fun H2 e2 => rfl) (fin ee _ rfl)
end
end Bc

namespace Bc
open PySem PySem.Spec PyProof.Rows L2 Evl
local macro_rules | `(tactic| walk_at "ev") => `(tactic| repeat' (first
  | with_reducible exact ev_c
  | with_reducible exact rv_I0
  | with_reducible exact ru_neg
  | with_reducible exact ea_nil
  | with_reducible refine' ev_var ?_
  | with_reducible refine' ev_chain ?_ ?_ ?_ ?_ ?_
  | with_reducible refine' ev_op ?_ ?_ ?_
  | with_reducible refine' ev_un ?_ ?_
  | with_reducible refine' ev_andV ?_ (fun _ => ?_)
  | with_reducible refine' ev_orV ?_ (fun _ => ?_)
  | with_reducible refine' ev_notV ?_
  | with_reducible refine' et_test ?_
  | with_reducible refine' et_B ?_
  | with_reducible refine' et_and ?_ (fun _ => ?_)
  | with_reducible refine' et_or ?_ (fun _ => ?_)
  | with_reducible refine' et_not ?_
  | with_reducible refine' ea_cons ?_ ?_
  | with_reducible refine' rv_it (by assumption) ?_
  | with_reducible refine' rv_mul ?_
  | with_reducible refine' rv_eq ?_
  | with_reducible refine' rv_ne ?_
  | exact rfl
  | ((with_reducible show CMul _ _); (try dsimp only at *); first | exact Or.inl ⟨by omega, by omega⟩ | exact Or.inr ⟨by omega, by omega⟩)))
section
variable {P : Program} {w : World} {K : PySem.W.Frag} {mg : Str → Option Value} {base : Heap} {ad : String → Addr}
/-! ### all the calls -/
theorem Mu_in {la ca b : Addr} {sh S : List Addr} : b ∈ Mu la ca sh S ↔ b ∈ la :: ca :: sh ∨ b ∈ S := by
  unfold Mu
  simp only [List.mem_cons, List.mem_append]
  constructor
  · rintro (z | z | z | z)
    · exact .inl (.inl z)
    · exact .inl (.inr (.inl z))
    · exact .inl (.inr (.inr z))
    · exact .inr z
  · rintro ((z | z | z) | z)
    · exact .inl z
    · exact .inr (.inl z)
    · exact .inr (.inr (.inl z))
    · exact .inr (.inr (.inr z))
theorem ChartAt.apart {H : Hp} {a la ca b : Addr} {sh S : List Addr} {s : Wqatdz.State} (h : ChartAt ad H a la ca sh S s) (hb : b ∈ S) : b ∉ la :: ca :: sh := fun z => by
  have e : Mu la ca sh S = (la :: ca :: sh) ++ S := rfl
  have := h.nd
  rw [e] at this
  exact (List.nodup_append.mp this).2.2 b z b hb rfl
/-- one more list to be left alone -/
theorem ChartAt.put {H H2 : Hp} {a la ca pt : Addr} {sh : List Addr} {s : Wqatdz.State} {xs : List V} (h : ChartAt ad H a la ca sh [] s) (n : H pt = none) (na : a ≠ pt) (e : Ex H H2) (hp : H2 pt = some (.lst xs)) : ChartAt ad H2 a la ca sh [pt] s := by
  have nM : pt ∉ Mu la ca sh [] := h.fresh n
  have k : Ex (dl H (Mu la ca sh [])) (dl H2 (Mu la ca sh [pt])) := fun b o hb => by
    have h1 := dl_sub _ _ hb
    refine dl_at (e _ _ h1) fun z => ?_
    rcases Mu_in.mp z with z | z
    · exact dl_ne hb (Mu_in.mpr (.inl z))
    · rw [List.mem_singleton.mp z, n] at h1
      cases h1
  obtain ⟨⟨dx, h1⟩, h2, h3, h4, ⟨lv, h5, h6⟩, ⟨cv, h7, h8⟩, h9, h10⟩ := h
  refine ⟨⟨dx, e _ _ h1⟩, ?_, fun b hb => ?_, by simpa using na, ⟨lv, e _ _ h5, h6.n1, h6.n2, fun i l hl => ?_⟩, ⟨cv, e _ _ h7, h8.imp fun v x q => q.mono k⟩, h9, h10⟩
  · have : (pt :: Mu la ca sh []).Nodup := List.nodup_cons.mpr ⟨nM, h2⟩
    refine (List.Perm.nodup_iff ?_).mp this
    show (pt :: ((la :: ca :: sh) ++ [])).Perm ((la :: ca :: sh) ++ [pt])
    rw [List.append_nil]
    exact (List.perm_append_comm (l₁ := [pt]) (l₂ := la :: ca :: sh))
  · rw [List.eq_of_mem_singleton hb]
    exact ⟨_, hp, fun xs z => by cases z⟩
  · obtain ⟨v, q, sv, g1, g2, g3, g4, g5⟩ := h6.at_ i l hl
    exact ⟨v, q, sv, g1, g2, g3.mono k, e _ _ g4, g5.imp fun v x z => z.mono k⟩
/-- what is to be left alone may change -/
theorem ChartAt.told {H : Hp} {a la ca pt : Addr} {sh : List Addr} {s : Wqatdz.State} {xs ys : List V} (h : ChartAt ad H a la ca sh [pt] s) (_ : H pt = some (.lst xs)) : ChartAt ad (upd H pt (.lst ys)) a la ca sh [pt] s := by
  have na : a ≠ pt := by simpa using h.na
  have nM := h.apart (List.mem_singleton.mpr rfl : pt ∈ [pt])
  have ne : ∀ {b : Addr}, b ∈ la :: ca :: sh → b ≠ pt := fun hb z => nM (z ▸ hb)
  have pM : pt ∈ Mu la ca sh [pt] := Mu_in.mpr (.inr (List.mem_singleton.mpr rfl))
  have kp : Kept H (upd H pt (.lst ys)) (Mu la ca sh [pt]) := fun b o nb z => by
    rw [upd_ne (mem_ne pM nb)]
    exact z
  obtain ⟨⟨dx, h1⟩, h2, h3, h4, ⟨lv, h5, h6⟩, ⟨cv, h7, h8⟩, h9, h10⟩ := h
  refine ⟨⟨dx, by rw [upd_ne na]; exact h1⟩, h2, fun b hb => ?_, h4, ⟨lv, by rw [upd_ne (ne (by simp))]; exact h5, h6.keep kp fun q hq o z => by rw [upd_ne (ne (by simp [hq]))]; exact z⟩, ⟨cv, by rw [upd_ne (ne (by simp))]; exact h7, h8.imp fun v x q => q.mono kp.dl⟩, h9, h10⟩
  rw [List.mem_singleton.mp hb]
  exact ⟨_, upd_same, fun xs z => by cases z⟩
theorem shape_at {p : Int} {n k : Nat} (h : PyWqatdz.shape p = some (n, k)) : atI [V.int 3, V.int 4, V.int 2, V.int 3, V.int 3, V.int 4, V.int 5, V.int 4, V.int 0] p = some (.int (n : Nat)) ∧ atI [V.int 2, V.int 0, V.int 0, V.int 0, V.int 0, V.int 1, V.int 0, V.int 1, V.int 0] p = some (.int (k : Nat)) ∧ k ≤ 2 := by
  unfold PyWqatdz.shape at h
  repeat (split at h; · (rename_i e; subst e; cases h; exact ⟨rfl, rfl, by decide⟩))
  cases h
abbrev s_answers : Stmt := top 80
abbrev N_answers : List Str := ["calls", "chart", "told", "start", "call", "behind", "numbers", "lists", "answer"]
theorem sc_answers : FnScope N_answers ["calls"] (defScope s_answers) := ⟨rfl, rfl, rfl, by decide +kernel, rfl, by decide +kernel, by decide +kernel⟩
def sp_answers (K : PySem.W.Frag) : Sp := fun vs H Q _ => ∃ (ac : Addr) (l : List Int), vs = [.ref ac] ∧ SqL K H ac (l.map V.int) ∧ PyWqatdz.answers_asked l = true ∧ l.length ≤ 30000 ∧ ∀ H' p, H' p = some (.lst ((PyWqatdz.answers l).map V.int)) → Q (.ref p) H'
theorem ok_answers (T : Tx K mg ad) (MK_Chart : Dk P w K mg base "Chart" (ad "Chart") 1 ["self"] (sp_Chart_init K ad)) (D_read_lists : Df P w K mg base "read_lists" 1 ["calls", "count", "start"] (sp_read_lists K))
    (D_answer_call : Df P w K mg base "answer_call" 10 ["chart", "call", "numbers", "lists"] (sp_answer_call ad))
    {f : Addr} {fd : FuncData} (F : Fun K "answers" "answers" s_answers f fd) : FnOk P w K mg base CX0 11 f fd ["calls"] (sp_answers K) := by
  refine F.ok sc_answers (fun vs H Q E h => ?_) (fun cdv A outer s H vs Q E hr h => ?_)
  · obtain ⟨ac, l, rfl, _⟩ := h
    rfl
  · refine ⟨_, (pss_cons (ps_set (i := 1) sc_answers.nd rfl (Or.inl rfl) (pe_mk0 MK_Chart (hr.mono (by decide)) (by rfl)))
    (pss_cons (ps_set (i := 2) sc_answers.nd rfl (Or.inl rfl) (pe_lst pa_nil))
    (pss_cons (ps_set (i := 3) sc_answers.nd rfl (Or.inl rfl) pe_int)
    (pss_cons (ps_while PassesOwn.never (pt_cmpR op_lt (pv 3) (pe_callB call_len_seq (by rfl) T.b_len PySem.boot_len (pa_cons (pv 0) pa_nil)) (nomark _)) 
        (pss_cons (ps_set (i := 4) sc_answers.nd rfl (Or.inl rfl) (pe_ix ix_list (pv 0) (pv 3) (fun _ _ => rfl)))
        (pss_cons (ps_set (i := 5) sc_answers.nd rfl (Or.inl rfl) (pe_op op_add (pe_op op_add (pv 3) pe_int) (pe_ix ix_tup (pe_gtup (by rfl) T.g_NUMBERS_OF_CALL) (pv 4) (fun _ _ => rfl))))
        (pss_cons (ps_set (i := 6) sc_answers.nd rfl (Or.inl rfl) (pe_slice sl_list (pv 0) (po_some (pe_op op_add (pv 3) pe_int)) (po_some (pv 5))))
        (pss_cons (ps_asg (pe_df D_read_lists (hr.mono (by decide)) (by rfl) (pa_cons (pv 0) (pa_cons (pe_ix ix_tup (pe_gtup (by rfl) T.g_LISTS_OF_CALL) (pv 4) (fun _ _ => rfl)) (pa_cons (pv 5) pa_nil)))) (pg_tup rfl (pgs_cons (pg_name (i := 7) sc_answers.nd rfl (Or.inl rfl)) (pgs_cons (pg_name (i := 3) sc_answers.nd rfl (Or.inl rfl)) pgs_nil))))
        (pss_cons (ps_set (i := 8) sc_answers.nd rfl (Or.inl rfl) (pe_df D_answer_call (hr.mono (by decide)) (by rfl) (pa_cons (pv 1) (pa_cons (pv 4) (pa_cons (pv 6) (pa_cons (pv 7) pa_nil))))))
        (pss_cons (ps_expr (pe_bm PySem.F.plainAttrs_list PySem.F.slot_list_append PySem.F.type_list_append mt_append (pv 2) (pa_cons (pe_callB call_len_seq (by rfl) T.b_len PySem.boot_len (pa_cons (pv 8) pa_nil)) pa_nil)))
        (pss_one (ps_expr (pe_bm PySem.F.plainAttrs_list PySem.F.slot_list_extend PySem.F.type_list_extend mt_extend (pv 2) (pa_cons (pv 8) pa_nil)))))))))))
    (pss_one (ps_ret (pv 2))))))), ?_⟩
    obtain ⟨ac, l, rfl, hac, hask, hl3, k⟩ := h
    have hN : ∀ H : Hp, SqT K H (ad "NUMBERS_OF_CALL") [V.int 3, V.int 4, V.int 2, V.int 3, V.int 3, V.int 4, V.int 5, V.int 4, V.int 0] := T.s_NUMBERS_OF_CALL
    have hL : ∀ H : Hp, SqT K H (ad "LISTS_OF_CALL") [V.int 2, V.int 0, V.int 0, V.int 0, V.int 0, V.int 1, V.int 0, V.int 1, V.int 0] := T.s_LISTS_OF_CALL
    obtain ⟨raw, hd⟩ := handed hask
    -- chart = Chart()
    refine fun a dxa na nda nad => ?_
    refine ⟨a, dxa, rfl, upd_same, fun H1 la ca hc nla nca kp1 => ⟨rfl, ?_⟩⟩
    have e1 : Ex H H1 := fun b o z => kp1 b o (by rw [upd_ne (ne_of_none z na), upd_ne (ne_of_none z nda)]; exact z) (ne_of_none z na)
    have bk : ∀ {q : Addr}, upd (upd H dxa (.own a)) a (.ins (ad "Chart") dxa []) q = none → H q = none := fun {q} z => by
      by_cases z1 : q = a
      · rw [z1]; exact na
      · by_cases z2 : q = dxa
        · rw [z2]; exact nda
        · rw [upd_ne z1, upd_ne z2] at z
          exact z
    have nla := bk nla
    have nca := bk nca
    dsimp only [gName]
    refine q_asgL (el_lst ea_nil (by simp)) fun pt H2 npt e2 hpt => ?_
    have npt0 : H pt = none := fresh_back e1 npt
    have hM0 : ∀ m ∈ la :: ca :: ([] : List Addr), H m = none := fun m hm => by
      rcases List.eq_or_mem_of_mem_cons hm with z | hm
      · rw [z]; exact nla
      · rw [List.mem_singleton.mp hm]; exact nca
    have npa : pt ≠ a := fun z => by
      obtain ⟨dx, hme⟩ := hc.me
      rw [z, hme] at npt
      cases npt
    have hc2 := hc.put npt npa.symm e2 hpt
    refine q_asg ev_c fun H3 e3 => ?_
    have tgo : ∀ (pre : List (List (List Int))) (c : List (List Int)) (post : List (List (List Int))), raw = pre ++ c :: post → (PyFlat.told (PyFlat.played WqatdzNeutral.step WqatdzNeutral.start (pre ++ [c]))).length ≤ 10000000 := fun pre c post e => by
      have := hd.len
      rw [hd.ans, e, show pre ++ c :: post = (pre ++ [c]) ++ post by simp, played_app, told_app, List.length_append] at this
      omega
    refine ⟨fun m σ H' => ∃ (pre post : List (List (List Int))) (la ca : Addr) (sh : List Addr) (y4 y5 y6 y7 y8 : Option V), raw = pre ++ post ∧ σ = [some (.ref ac), some (.ref a), some (.ref pt), some (.int ((PyFlat.put pre).length : Nat)), y4, y5, y6, y7, y8] ∧ m = post.length ∧ (∀ b o, H b = some o → H' b = some o) ∧
        ChartAt ad H' a la ca sh [pt] (stateOf WqatdzNeutral.start pre) ∧ (∀ m ∈ la :: ca :: sh, H m = none) ∧ H' pt = some (.lst ((PyFlat.told (PyFlat.played WqatdzNeutral.step WqatdzNeutral.start pre)).map V.int)), ⟨raw.length, [], raw, la, ca, [], none, none, none, none, none, rfl, rfl, rfl, e1.trans (e2.trans e3), hc2.mono e3, hM0, e3 _ _ hpt⟩, ?_⟩
    · rintro m σ H4 ⟨pre, post, la, ca, sh, y4, y5, y6, y7, y8, hraw, rfl, rfl, h1, hc4, hM, h5⟩
      have hput : l = PyFlat.put pre ++ PyFlat.put post := by rw [hd.put, hraw, put_app]
      have eH : Ex H H4 := h1
      refine (et_test (ev_op (ev_var rfl) (ev_is (ev_len (ev_var rfl) (ex_l eH hac)) (by rw [List.length_map])) rv_I0) : EvT _ _ _ (decide (((PyFlat.put pre).length : Int) < (l.length : Int)))) H4 (Ex.refl H4) _ fun H5 e5 => ?_
      cases post with
      | nil =>
        rw [if_neg (by rw [decide_eq_true_iff, hput, List.length_append]; show ¬ _ < ((_ + 0 : Nat) : Int); omega)]
        dsimp only
        refine s_ret (v := .ref pt) (ev_var rfl) fun H6 e6 => k _ _ ?_
        rw [hd.ans, hraw, List.append_nil]
        exact e6 _ _ (e5 _ _ h5)
      | cons c post =>
        obtain ⟨p, ns, xs, rfl, hsh⟩ := hd.shp c (by rw [hraw]; simp)
        have hasked := hd.ask ((p :: ns) :: xs) (by rw [hraw]; simp)
        have hp1 : PyFlat.put (((p :: ns) :: xs) :: post) = p :: (ns ++ (PyFlat.putRows xs ++ PyFlat.put post)) := by
          show (p :: ns) ++ PyFlat.putRows xs ++ PyFlat.put post = _
          simp
        rw [hp1] at hput
        obtain ⟨hs1, hs2, hk2⟩ := shape_at hsh
        rw [if_pos (by rw [decide_eq_true_iff, hput, List.length_append, List.length_cons]; omega)]
        generalize hq : PyFlat.put pre = q at hput
        refine ⟨fun σ' H' => ∃ (la ca : Addr) (sh : List Addr) (y4 y5 y6 y7 y8 : Option V), σ' = [some (.ref ac), some (.ref a), some (.ref pt), some (.int ((PyFlat.put (pre ++ [(p :: ns) :: xs])).length : Nat)), y4, y5, y6, y7, y8] ∧ (∀ b o, H b = some o → H' b = some o) ∧
          ChartAt ad H' a la ca sh [pt] (stateOf WqatdzNeutral.start (pre ++ [(p :: ns) :: xs])) ∧ (∀ m ∈ la :: ca :: sh, H m = none) ∧ H' pt = some (.lst ((PyFlat.told (PyFlat.played WqatdzNeutral.step WqatdzNeutral.start (pre ++ [(p :: ns) :: xs]))).map V.int)), ?_, ?_⟩
        · rintro σ' H' ⟨la, ca, sh, y4, y5, y6, y7, y8, rfl, g1, g2, g3, g4⟩
          exact ⟨post.length, by simp, pre ++ [(p :: ns) :: xs], post, la, ca, sh, y4, y5, y6, y7, y8, by rw [hraw]; simp, rfl, rfl, g1, g2, g3, g4⟩
        · have e05 : Ex H H5 := eH.trans e5
          -- call = calls[start]
          refine q_asg (v := .int p) (ev_op (ev_var rfl) (ev_var rfl) (rv_ixL (ex_l e05 hac) (by rw [hput]; exact at_mid _ _ _))) fun H6 e6 => ?_
          -- behind = start + 1 + NUMBERS_OF_CALL[call]
          refine q_asg (v := .int ((q.length + 1 + ns.length : Nat) : Int)) (ev_is (ev_op (ev_op (ev_var rfl) ev_c rv_I0) (ev_op ev_c (ev_var rfl) (rv_ixT (hN _) hs1)) rv_I0) (congrArg V.int (by omega))) fun H7 e7 => ?_
          have e07 := e05.trans (e6.trans e7)
          have hcut : cutV (l.map V.int) (some (((q.length : Nat) : Int) + 1)) (some ((q.length + 1 + ns.length : Nat) : Int)) = ns.map V.int := by
            have h8 : l = (q ++ [p]) ++ (ns ++ (PyFlat.putRows xs ++ PyFlat.put post)) := by rw [hput]; simp
            rw [h8]
            have := cut_mid (q ++ [p]) ns (PyFlat.putRows xs ++ PyFlat.put post)
            rw [List.length_append, List.length_singleton] at this
            have e : (((q.length : Nat) : Int) + 1) = ((q.length + 1 : Nat) : Int) := by omega
            rw [e]
            exact this
          -- numbers = calls[start + 1:behind]
          refine q_asgL (xs := ns.map V.int) (hcut ▸ el_sl (ev_var rfl) (eo_some (ev_op (ev_var rfl) ev_c rv_I0)) (eo_some (ev_var rfl)) (ex_l e07 hac)) fun pn H8 hpn e8 h8 => ?_
          have e08 := e07.trans e8
          -- lists, start = read_lists(calls, LISTS_OF_CALL[call], behind)
          have hl9 : l = (q ++ (p :: ns)) ++ (PyFlat.putRows xs ++ PyFlat.put post) := by rw [hput]; simp
          have hql : (q ++ (p :: ns)).length = q.length + 1 + ns.length := by simp; omega
          refine ⟨_, rfl, _, rfl, _, _, _, _, rfl, rfl, hL _, hs2, _, rfl, ac, q ++ (p :: ns), xs, PyFlat.put post, by rw [hql]; rfl, hl9 ▸ ex_l e08 hac, by omega, fun v H9 e9 hv => ?_⟩
          obtain ⟨x, ⟨pv', rfl, hpv⟩, hrows⟩ := hv
          refine ⟨pv', _, rfl, st_of hpv, rfl, _, _, rfl, _, _, rfl, rfl, ?_⟩
          dsimp only
          have e59 := e6.trans (e7.trans (e8.trans e9))
          have e49 := e5.trans e59
          have hc9 := hc4.mono e49
          have hxl : ∀ x ∈ xs, x.length ≤ 30000 := fun x hx => by
            have := row_le hx
            have h9 := congrArg List.length hl9
            simp at h9
            omega
          -- answer = answer_call(chart, call, numbers, lists)
          refine ⟨_, rfl, _, rfl, _, rfl, _, rfl, a, la, ca, sh, [pt], _, p, ns, xs, _, _, rfl, hc9, ⟨pn, rfl, e9 _ _ h8⟩, hrows, hasked, hxl, fun v H10 la' ca' sh' hc10 lf10 hv => ?_⟩
          obtain ⟨po, rfl, npo, hpo⟩ := hv
          dsimp only [gName]
          have g10 : ∀ b o, H b = some o → H10 b = some o := fun b o z => by
            have z4 := e49 _ _ (h1 _ _ z)
            refine lf10.kp b o ?_ (fun w => by rw [hM b w] at z; cases z) z4
            exact fun w => by rw [w, na] at z; cases z
          have npa4 : pt ≠ a := fun z => hc4.na (by rw [← z]; exact List.mem_singleton.mpr rfl)
          have npM : pt ∉ la :: ca :: sh := hc4.apart (List.mem_singleton.mpr rfl)
          have hpt10 : H10 pt = some (.lst ((PyFlat.told (PyFlat.played WqatdzNeutral.step WqatdzNeutral.start pre)).map V.int)) := lf10.kp _ _ npa4 npM (e49 _ _ h5)
          have hM' : ∀ m ∈ la' :: ca' :: sh', H m = none := fun m hm => by
            rcases lf10.nw m hm with w | w
            · exact hM m w
            · exact fresh_back (eH.trans e49) w
          have npo2 : po ≠ pt := fun z => by rw [z, e49 _ _ h5] at npo; cases npo
          have tg := tgo pre _ post hraw
          rw [played_app, told_app, List.length_append] at tg
          have tl : PyFlat.played WqatdzNeutral.step (stateOf WqatdzNeutral.start pre) [(p :: ns) :: xs] = [(WqatdzNeutral.step (stateOf WqatdzNeutral.start pre) ((p :: ns) :: xs)).2] := rfl
          rw [tl] at tg
          generalize hans : (WqatdzNeutral.step (stateOf WqatdzNeutral.start pre) ((p :: ns) :: xs)).2 = ans at hpo tl tg
          have tg2 : (PyFlat.told [ans]).length = ans.length + 1 := by simp [PyFlat.told]
          rw [tg2] at tg
          generalize hsofar : PyFlat.told (PyFlat.played WqatdzNeutral.step WqatdzNeutral.start pre) = sofar at hpt10 tg
          -- told.append(len(answer)); told.extend(answer)
          refine ⟨_, rfl, .inl ⟨rfl, _, sq_of hpt10⟩, _, rfl, po, _, rfl, .inl (sq_of hpo), pt, _, _, rfl, rfl, hpt10, ?_, ?_⟩
          · rw [List.length_map]
            exact Nat.lt_of_lt_of_le (by omega) (show 10000001 ≤ sizeLine by decide)
          · have hpo2 : upd H10 pt (.lst (sofar.map V.int ++ [V.int ((ans.map V.int).length : Nat)])) po = some (.lst (ans.map V.int)) := by rw [upd_ne npo2]; exact hpo
            dsimp only
            refine ⟨_, rfl, .inl ⟨rfl, _, sq_of upd_same⟩, _, rfl, pt, po, _, _, rfl, rfl, upd_same, hpo2, ?_, ?_⟩
            · simp only [List.length_append, List.length_map, List.length_singleton]
              exact Nat.le_trans (by omega) (show 10000001 ≤ sizeLine by decide)
            · have fin : ∀ b o, b ≠ pt → H10 b = some o → upd (upd H10 pt (.lst (sofar.map V.int ++ [V.int ((ans.map V.int).length : Nat)]))) pt (.lst (sofar.map V.int ++ [V.int ((ans.map V.int).length : Nat)] ++ ans.map V.int)) b = some o := fun b o nb z => by
                rw [upd_ne nb, upd_ne nb]
                exact z
              refine ⟨la', ca', sh', some (.int p), some (.int ((q.length + 1 + ns.length : Nat) : Int)), some (.ref pn), some x, some (.ref po), ?_, fun b o z => fin b o (ne_of_none z npt0) (g10 _ _ z), ?_, hM', ?_⟩
              · have : (PyFlat.put (pre ++ [(p :: ns) :: xs])).length = (q ++ (p :: ns)).length + (PyFlat.putRows xs).length := by
                  rw [put_app, hq]
                  show (q ++ ((p :: ns) ++ PyFlat.putRows xs ++ [])).length = _
                  simp
                  omega
                rw [this]
                rfl
              · rw [state_snoc]
                exact (hc10.told hpt10).told upd_same
              · rw [upd_same, played_app, told_app, hsofar, tl]
                simp [PyFlat.told]
end
end Bc

namespace Bc
open PySem PySem.Spec PyProof.Rows L2 Evl
theorem all_mk {P : Program} {w : World} {K : PySem.W.Frag} {h : Heap} {mg : Str → Option Value} {fa : Addr} (X : K.In h) (G : h.Ns mainGlobals mg) (hfa : mg "answers" = some (.ref fa))
    {C_Light : Addr}
    {C_Chart : Addr}
    {f_is_place : Addr} {od_is_place an_is_place : Option Addr} {sl_is_place : Array (Option Value)} {oc_is_place kV_is_place dc_is_place pm_is_place cd_is_place ct_is_place : Value}
    {f_by_rows : Addr} {od_by_rows an_by_rows : Option Addr} {sl_by_rows : Array (Option Value)} {oc_by_rows kV_by_rows dc_by_rows pm_by_rows cd_by_rows ct_by_rows : Value}
    {f_way_between : Addr} {od_way_between an_way_between : Option Addr} {sl_way_between : Array (Option Value)} {oc_way_between kV_way_between dc_way_between pm_way_between cd_way_between ct_way_between : Value}
    {f_square_of_length : Addr} {od_square_of_length an_square_of_length : Option Addr} {sl_square_of_length : Array (Option Value)} {oc_square_of_length kV_square_of_length dc_square_of_length pm_square_of_length cd_square_of_length ct_square_of_length : Value}
    {f_turn_between : Addr} {od_turn_between an_turn_between : Option Addr} {sl_turn_between : Array (Option Value)} {oc_turn_between kV_turn_between dc_turn_between pm_turn_between cd_turn_between ct_turn_between : Value}
    {f_is_direction : Addr} {od_is_direction an_is_direction : Option Addr} {sl_is_direction : Array (Option Value)} {oc_is_direction kV_is_direction dc_is_direction pm_is_direction cd_is_direction ct_is_direction : Value}
    {f_half_of_turn : Addr} {od_half_of_turn an_half_of_turn : Option Addr} {sl_half_of_turn : Array (Option Value)} {oc_half_of_turn kV_half_of_turn dc_half_of_turn pm_half_of_turn cd_half_of_turn ct_half_of_turn : Value}
    {f_is_before : Addr} {od_is_before an_is_before : Option Addr} {sl_is_before : Array (Option Value)} {oc_is_before kV_is_before dc_is_before pm_is_before cd_is_before ct_is_before : Value}
    {f_is_next_sector : Addr} {od_is_next_sector an_is_next_sector : Option Addr} {sl_is_next_sector : Array (Option Value)} {oc_is_next_sector kV_is_next_sector dc_is_next_sector pm_is_next_sector cd_is_next_sector ct_is_next_sector : Value}
    {f_read_sectors : Addr} {od_read_sectors an_read_sectors : Option Addr} {sl_read_sectors : Array (Option Value)} {oc_read_sectors kV_read_sectors dc_read_sectors pm_read_sectors cd_read_sectors ct_read_sectors : Value}
    {f_colour_towards : Addr} {od_colour_towards an_colour_towards : Option Addr} {sl_colour_towards : Array (Option Value)} {oc_colour_towards kV_colour_towards dc_colour_towards pm_colour_towards cd_colour_towards ct_colour_towards : Value}
    {f_is_field : Addr} {od_is_field an_is_field : Option Addr} {sl_is_field : Array (Option Value)} {oc_is_field kV_is_field dc_is_field pm_is_field cd_is_field ct_is_field : Value}
    {f_is_track : Addr} {od_is_track an_is_track : Option Addr} {sl_is_track : Array (Option Value)} {oc_is_track kV_is_track dc_is_track pm_is_track cd_is_track ct_is_track : Value}
    {f_read_pairs : Addr} {od_read_pairs an_read_pairs : Option Addr} {sl_read_pairs : Array (Option Value)} {oc_read_pairs kV_read_pairs dc_read_pairs pm_read_pairs cd_read_pairs ct_read_pairs : Value}
    {f_border_along : Addr} {od_border_along an_border_along : Option Addr} {sl_border_along : Array (Option Value)} {oc_border_along kV_border_along dc_border_along pm_border_along cd_border_along ct_border_along : Value}
    {f_shadow_in_line : Addr} {od_shadow_in_line an_shadow_in_line : Option Addr} {sl_shadow_in_line : Array (Option Value)} {oc_shadow_in_line kV_shadow_in_line dc_shadow_in_line pm_shadow_in_line cd_shadow_in_line ct_shadow_in_line : Value}
    {f_shadow_of : Addr} {od_shadow_of an_shadow_of : Option Addr} {sl_shadow_of : Array (Option Value)} {oc_shadow_of kV_shadow_of dc_shadow_of pm_shadow_of cd_shadow_of ct_shadow_of : Value}
    {f_numbers_within : Addr} {od_numbers_within an_numbers_within : Option Addr} {sl_numbers_within : Array (Option Value)} {oc_numbers_within kV_numbers_within dc_numbers_within pm_numbers_within cd_numbers_within ct_numbers_within : Value}
    {f_hidden_on : Addr} {od_hidden_on an_hidden_on : Option Addr} {sl_hidden_on : Array (Option Value)} {oc_hidden_on kV_hidden_on dc_hidden_on pm_hidden_on cd_hidden_on ct_hidden_on : Value}
    {f_split_text : Addr} {od_split_text an_split_text : Option Addr} {sl_split_text : Array (Option Value)} {oc_split_text kV_split_text dc_split_text pm_split_text cd_split_text ct_split_text : Value}
    {f_read_tenths : Addr} {od_read_tenths an_read_tenths : Option Addr} {sl_read_tenths : Array (Option Value)} {oc_read_tenths kV_read_tenths dc_read_tenths pm_read_tenths cd_read_tenths ct_read_tenths : Value}
    {f_read_phase : Addr} {od_read_phase an_read_phase : Option Addr} {sl_read_phase : Array (Option Value)} {oc_read_phase kV_read_phase dc_read_phase pm_read_phase cd_read_phase ct_read_phase : Value}
    {f_read_rhythm : Addr} {od_read_rhythm an_read_rhythm : Option Addr} {sl_read_rhythm : Array (Option Value)} {oc_read_rhythm kV_read_rhythm dc_read_rhythm pm_read_rhythm cd_read_rhythm ct_read_rhythm : Value}
    {f_is_white_and_dark : Addr} {od_is_white_and_dark an_is_white_and_dark : Option Addr} {sl_is_white_and_dark : Array (Option Value)} {oc_is_white_and_dark kV_is_white_and_dark dc_is_white_and_dark pm_is_white_and_dark cd_is_white_and_dark ct_is_white_and_dark : Value}
    {f_colour_byte_at : Addr} {od_colour_byte_at an_colour_byte_at : Option Addr} {sl_colour_byte_at : Array (Option Value)} {oc_colour_byte_at kV_colour_byte_at dc_colour_byte_at pm_colour_byte_at cd_colour_byte_at ct_colour_byte_at : Value}
    {f_write_rhythm : Addr} {od_write_rhythm an_write_rhythm : Option Addr} {sl_write_rhythm : Array (Option Value)} {oc_write_rhythm kV_write_rhythm dc_write_rhythm pm_write_rhythm cd_write_rhythm ct_write_rhythm : Value}
    {f_places_on : Addr} {od_places_on an_places_on : Option Addr} {sl_places_on : Array (Option Value)} {oc_places_on kV_places_on dc_places_on pm_places_on cd_places_on ct_places_on : Value}
    {f_places_over : Addr} {od_places_over an_places_over : Option Addr} {sl_places_over : Array (Option Value)} {oc_places_over kV_places_over dc_places_over pm_places_over cd_places_over ct_places_over : Value}
    {f_walks_over : Addr} {od_walks_over an_walks_over : Option Addr} {sl_walks_over : Array (Option Value)} {oc_walks_over kV_walks_over dc_walks_over pm_walks_over cd_walks_over ct_walks_over : Value}
    {f_Light_init : Addr} {od_Light_init an_Light_init : Option Addr} {sl_Light_init : Array (Option Value)} {oc_Light_init kV_Light_init dc_Light_init pm_Light_init cd_Light_init ct_Light_init : Value}
    {f_Light_hide_behind : Addr} {od_Light_hide_behind an_Light_hide_behind : Option Addr} {sl_Light_hide_behind : Array (Option Value)} {oc_Light_hide_behind kV_Light_hide_behind dc_Light_hide_behind pm_Light_hide_behind cd_Light_hide_behind ct_Light_hide_behind : Value}
    {f_Light_colour_shown : Addr} {od_Light_colour_shown an_Light_colour_shown : Option Addr} {sl_Light_colour_shown : Array (Option Value)} {oc_Light_colour_shown kV_Light_colour_shown dc_Light_colour_shown pm_Light_colour_shown cd_Light_colour_shown ct_Light_colour_shown : Value}
    {f_Light_colours_on : Addr} {od_Light_colours_on an_Light_colours_on : Option Addr} {sl_Light_colours_on : Array (Option Value)} {oc_Light_colours_on kV_Light_colours_on dc_Light_colours_on pm_Light_colours_on cd_Light_colours_on ct_Light_colours_on : Value}
    {f_Light_colours_over : Addr} {od_Light_colours_over an_Light_colours_over : Option Addr} {sl_Light_colours_over : Array (Option Value)} {oc_Light_colours_over kV_Light_colours_over dc_Light_colours_over pm_Light_colours_over cd_Light_colours_over ct_Light_colours_over : Value}
    {f_Light_colour_seen : Addr} {od_Light_colour_seen an_Light_colour_seen : Option Addr} {sl_Light_colour_seen : Array (Option Value)} {oc_Light_colour_seen kV_Light_colour_seen dc_Light_colour_seen pm_Light_colour_seen cd_Light_colour_seen ct_Light_colour_seen : Value}
    {f_Light_is_on : Addr} {od_Light_is_on an_Light_is_on : Option Addr} {sl_Light_is_on : Array (Option Value)} {oc_Light_is_on kV_Light_is_on dc_Light_is_on pm_Light_is_on cd_Light_is_on ct_Light_is_on : Value}
    {f_Chart_init : Addr} {od_Chart_init an_Chart_init : Option Addr} {sl_Chart_init : Array (Option Value)} {oc_Chart_init kV_Chart_init dc_Chart_init pm_Chart_init cd_Chart_init ct_Chart_init : Value}
    {f_Chart_light : Addr} {od_Chart_light an_Chart_light : Option Addr} {sl_Chart_light : Array (Option Value)} {oc_Chart_light kV_Chart_light dc_Chart_light pm_Chart_light cd_Chart_light ct_Chart_light : Value}
    {f_Chart_coast : Addr} {od_Chart_coast an_Chart_coast : Option Addr} {sl_Chart_coast : Array (Option Value)} {oc_Chart_coast kV_Chart_coast dc_Chart_coast pm_Chart_coast cd_Chart_coast ct_Chart_coast : Value}
    {f_Chart_seen : Addr} {od_Chart_seen an_Chart_seen : Option Addr} {sl_Chart_seen : Array (Option Value)} {oc_Chart_seen kV_Chart_seen dc_Chart_seen pm_Chart_seen cd_Chart_seen ct_Chart_seen : Value}
    {f_Chart_at : Addr} {od_Chart_at an_Chart_at : Option Addr} {sl_Chart_at : Array (Option Value)} {oc_Chart_at kV_Chart_at dc_Chart_at pm_Chart_at cd_Chart_at ct_Chart_at : Value}
    {f_Chart_rhythm : Addr} {od_Chart_rhythm an_Chart_rhythm : Option Addr} {sl_Chart_rhythm : Array (Option Value)} {oc_Chart_rhythm kV_Chart_rhythm dc_Chart_rhythm pm_Chart_rhythm cd_Chart_rhythm ct_Chart_rhythm : Value}
    {f_Chart_where : Addr} {od_Chart_where an_Chart_where : Option Addr} {sl_Chart_where : Array (Option Value)} {oc_Chart_where kV_Chart_where dc_Chart_where pm_Chart_where cd_Chart_where ct_Chart_where : Value}
    {f_Chart_track : Addr} {od_Chart_track an_Chart_track : Option Addr} {sl_Chart_track : Array (Option Value)} {oc_Chart_track kV_Chart_track dc_Chart_track pm_Chart_track cd_Chart_track ct_Chart_track : Value}
    {f_Chart_tell : Addr} {od_Chart_tell an_Chart_tell : Option Addr} {sl_Chart_tell : Array (Option Value)} {oc_Chart_tell kV_Chart_tell dc_Chart_tell pm_Chart_tell cd_Chart_tell ct_Chart_tell : Value}
    {f_Chart_begin_anew : Addr} {od_Chart_begin_anew an_Chart_begin_anew : Option Addr} {sl_Chart_begin_anew : Array (Option Value)} {oc_Chart_begin_anew kV_Chart_begin_anew dc_Chart_begin_anew pm_Chart_begin_anew cd_Chart_begin_anew ct_Chart_begin_anew : Value}
    {f_Chart_lights_seen : Addr} {od_Chart_lights_seen an_Chart_lights_seen : Option Addr} {sl_Chart_lights_seen : Array (Option Value)} {oc_Chart_lights_seen kV_Chart_lights_seen dc_Chart_lights_seen pm_Chart_lights_seen cd_Chart_lights_seen ct_Chart_lights_seen : Value}
    {f_Chart_look_over : Addr} {od_Chart_look_over an_Chart_look_over : Option Addr} {sl_Chart_look_over : Array (Option Value)} {oc_Chart_look_over kV_Chart_look_over dc_Chart_look_over pm_Chart_look_over cd_Chart_look_over ct_Chart_look_over : Value}
    {f_Chart_spots_left : Addr} {od_Chart_spots_left an_Chart_spots_left : Option Addr} {sl_Chart_spots_left : Array (Option Value)} {oc_Chart_spots_left kV_Chart_spots_left dc_Chart_spots_left pm_Chart_spots_left cd_Chart_spots_left ct_Chart_spots_left : Value}
    {f_Chart_changes_on : Addr} {od_Chart_changes_on an_Chart_changes_on : Option Addr} {sl_Chart_changes_on : Array (Option Value)} {oc_Chart_changes_on kV_Chart_changes_on dc_Chart_changes_on pm_Chart_changes_on cd_Chart_changes_on ct_Chart_changes_on : Value}
    {f_tell_rows : Addr} {od_tell_rows an_tell_rows : Option Addr} {sl_tell_rows : Array (Option Value)} {oc_tell_rows kV_tell_rows dc_tell_rows pm_tell_rows cd_tell_rows ct_tell_rows : Value}
    {f_count_colours : Addr} {od_count_colours an_count_colours : Option Addr} {sl_count_colours : Array (Option Value)} {oc_count_colours kV_count_colours dc_count_colours pm_count_colours cd_count_colours ct_count_colours : Value}
    {f_number_of_least_greatest : Addr} {od_number_of_least_greatest an_number_of_least_greatest : Option Addr} {sl_number_of_least_greatest : Array (Option Value)} {oc_number_of_least_greatest kV_number_of_least_greatest dc_number_of_least_greatest pm_number_of_least_greatest cd_number_of_least_greatest ct_number_of_least_greatest : Value}
    {f_answer_call : Addr} {od_answer_call an_answer_call : Option Addr} {sl_answer_call : Array (Option Value)} {oc_answer_call kV_answer_call dc_answer_call pm_answer_call cd_answer_call ct_answer_call : Value}
    {f_read_lists : Addr} {od_read_lists an_read_lists : Option Addr} {sl_read_lists : Array (Option Value)} {oc_read_lists kV_read_lists dc_read_lists pm_read_lists cd_read_lists ct_read_lists : Value}
    {f_answers : Addr} {od_answers an_answers : Option Addr} {sl_answers : Array (Option Value)} {oc_answers kV_answers dc_answers pm_answers cd_answers ct_answers : Value}
    {t_FARTHEST : Tok}
    {t_NOTHING : Tok}
    {t_LAST_COLOUR : Tok}
    {t_MOST_SECTORS : Tok}
    {t_NUMBERS_OF_SECTOR : Tok}
    {t_LONGEST_DIRECTION : Tok}
    {t_MOST_PLACES : Tok}
    {t_MOST_PAIRS : Tok}
    {t_NUMBERS_OF_PAIR : Tok}
    {t_MOST_STEPS : Tok}
    {t_LONGEST_STEP : Tok}
    {t_BLANK : Tok}
    {t_NOUGHT : Tok}
    {t_NINE : Tok}
    {t_DARK : Tok}
    {t_WHITE : Tok}
    {a_COLOUR_BYTES : Addr} {d_COLOUR_BYTES : Option Addr} {n_COLOUR_BYTES : Nat} {v_COLOUR_BYTES : Array (Option Value)} {t_COLOUR_BYTES_0 t_COLOUR_BYTES_1 t_COLOUR_BYTES_2 t_COLOUR_BYTES_3 t_COLOUR_BYTES_4 : Tok}
    {t_MOST_DIGITS : Tok}
    {t_MOST_TENTHS : Tok}
    {t_MOST_PHASES : Tok}
    {t_MOST_TOGETHER : Tok}
    {t_LONGEST_REACH : Tok}
    {t_MOST_BYTES : Tok}
    {t_MOST_LIGHTS : Tok}
    {t_MOST_COASTS : Tok}
    {t_LAST_MOMENT : Tok}
    {t_LIGHT_CALL : Tok}
    {t_COAST_CALL : Tok}
    {t_SEEN_CALL : Tok}
    {t_AT_CALL : Tok}
    {t_RHYTHM_CALL : Tok}
    {t_WHERE_CALL : Tok}
    {t_TRACK_CALL : Tok}
    {t_TELL_CALL : Tok}
    {a_NUMBERS_OF_CALL : Addr} {d_NUMBERS_OF_CALL : Option Addr} {n_NUMBERS_OF_CALL : Nat} {v_NUMBERS_OF_CALL : Array (Option Value)} {t_NUMBERS_OF_CALL_0 t_NUMBERS_OF_CALL_1 t_NUMBERS_OF_CALL_2 t_NUMBERS_OF_CALL_3 t_NUMBERS_OF_CALL_4 t_NUMBERS_OF_CALL_5 t_NUMBERS_OF_CALL_6 t_NUMBERS_OF_CALL_7 t_NUMBERS_OF_CALL_8 : Tok}
    {a_LISTS_OF_CALL : Addr} {d_LISTS_OF_CALL : Option Addr} {n_LISTS_OF_CALL : Nat} {v_LISTS_OF_CALL : Array (Option Value)} {t_LISTS_OF_CALL_0 t_LISTS_OF_CALL_1 t_LISTS_OF_CALL_2 t_LISTS_OF_CALL_3 t_LISTS_OF_CALL_4 t_LISTS_OF_CALL_5 t_LISTS_OF_CALL_6 t_LISTS_OF_CALL_7 t_LISTS_OF_CALL_8 : Tok}
    (ac_Light : PySem.W.nsIn K mainGlobals "Light" = some (some (.ref C_Light)))
    (ac_Chart : PySem.W.nsIn K mainGlobals "Chart" = some (some (.ref C_Chart)))
    (a_is_place : PySem.W.nsIn K mainGlobals "is_place" = some (some (.ref f_is_place)))
    (l_is_place : K.lookup f_is_place = some ⟨oc_is_place, od_is_place, .func (PySem.W.fnOf "is_place" "is_place" (defArgs s_is_place) (defBody s_is_place) (defScope s_is_place) .none kV_is_place dc_is_place pm_is_place an_is_place cd_is_place ct_is_place), sl_is_place⟩)
    (c_is_place : PySem.W.codeIn K cd_is_place "is_place" = true)
    (k_is_place : PySem.W.keepIn K (.ref f_is_place) = true)
    (a_by_rows : PySem.W.nsIn K mainGlobals "by_rows" = some (some (.ref f_by_rows)))
    (l_by_rows : K.lookup f_by_rows = some ⟨oc_by_rows, od_by_rows, .func (PySem.W.fnOf "by_rows" "by_rows" (defArgs s_by_rows) (defBody s_by_rows) (defScope s_by_rows) .none kV_by_rows dc_by_rows pm_by_rows an_by_rows cd_by_rows ct_by_rows), sl_by_rows⟩)
    (c_by_rows : PySem.W.codeIn K cd_by_rows "by_rows" = true)
    (k_by_rows : PySem.W.keepIn K (.ref f_by_rows) = true)
    (a_way_between : PySem.W.nsIn K mainGlobals "way_between" = some (some (.ref f_way_between)))
    (l_way_between : K.lookup f_way_between = some ⟨oc_way_between, od_way_between, .func (PySem.W.fnOf "way_between" "way_between" (defArgs s_way_between) (defBody s_way_between) (defScope s_way_between) .none kV_way_between dc_way_between pm_way_between an_way_between cd_way_between ct_way_between), sl_way_between⟩)
    (c_way_between : PySem.W.codeIn K cd_way_between "way_between" = true)
    (k_way_between : PySem.W.keepIn K (.ref f_way_between) = true)
    (a_square_of_length : PySem.W.nsIn K mainGlobals "square_of_length" = some (some (.ref f_square_of_length)))
    (l_square_of_length : K.lookup f_square_of_length = some ⟨oc_square_of_length, od_square_of_length, .func (PySem.W.fnOf "square_of_length" "square_of_length" (defArgs s_square_of_length) (defBody s_square_of_length) (defScope s_square_of_length) .none kV_square_of_length dc_square_of_length pm_square_of_length an_square_of_length cd_square_of_length ct_square_of_length), sl_square_of_length⟩)
    (c_square_of_length : PySem.W.codeIn K cd_square_of_length "square_of_length" = true)
    (k_square_of_length : PySem.W.keepIn K (.ref f_square_of_length) = true)
    (a_turn_between : PySem.W.nsIn K mainGlobals "turn_between" = some (some (.ref f_turn_between)))
    (l_turn_between : K.lookup f_turn_between = some ⟨oc_turn_between, od_turn_between, .func (PySem.W.fnOf "turn_between" "turn_between" (defArgs s_turn_between) (defBody s_turn_between) (defScope s_turn_between) .none kV_turn_between dc_turn_between pm_turn_between an_turn_between cd_turn_between ct_turn_between), sl_turn_between⟩)
    (c_turn_between : PySem.W.codeIn K cd_turn_between "turn_between" = true)
    (k_turn_between : PySem.W.keepIn K (.ref f_turn_between) = true)
    (a_is_direction : PySem.W.nsIn K mainGlobals "is_direction" = some (some (.ref f_is_direction)))
    (l_is_direction : K.lookup f_is_direction = some ⟨oc_is_direction, od_is_direction, .func (PySem.W.fnOf "is_direction" "is_direction" (defArgs s_is_direction) (defBody s_is_direction) (defScope s_is_direction) .none kV_is_direction dc_is_direction pm_is_direction an_is_direction cd_is_direction ct_is_direction), sl_is_direction⟩)
    (c_is_direction : PySem.W.codeIn K cd_is_direction "is_direction" = true)
    (k_is_direction : PySem.W.keepIn K (.ref f_is_direction) = true)
    (a_half_of_turn : PySem.W.nsIn K mainGlobals "half_of_turn" = some (some (.ref f_half_of_turn)))
    (l_half_of_turn : K.lookup f_half_of_turn = some ⟨oc_half_of_turn, od_half_of_turn, .func (PySem.W.fnOf "half_of_turn" "half_of_turn" (defArgs s_half_of_turn) (defBody s_half_of_turn) (defScope s_half_of_turn) .none kV_half_of_turn dc_half_of_turn pm_half_of_turn an_half_of_turn cd_half_of_turn ct_half_of_turn), sl_half_of_turn⟩)
    (c_half_of_turn : PySem.W.codeIn K cd_half_of_turn "half_of_turn" = true)
    (k_half_of_turn : PySem.W.keepIn K (.ref f_half_of_turn) = true)
    (a_is_before : PySem.W.nsIn K mainGlobals "is_before" = some (some (.ref f_is_before)))
    (l_is_before : K.lookup f_is_before = some ⟨oc_is_before, od_is_before, .func (PySem.W.fnOf "is_before" "is_before" (defArgs s_is_before) (defBody s_is_before) (defScope s_is_before) .none kV_is_before dc_is_before pm_is_before an_is_before cd_is_before ct_is_before), sl_is_before⟩)
    (c_is_before : PySem.W.codeIn K cd_is_before "is_before" = true)
    (k_is_before : PySem.W.keepIn K (.ref f_is_before) = true)
    (a_is_next_sector : PySem.W.nsIn K mainGlobals "is_next_sector" = some (some (.ref f_is_next_sector)))
    (l_is_next_sector : K.lookup f_is_next_sector = some ⟨oc_is_next_sector, od_is_next_sector, .func (PySem.W.fnOf "is_next_sector" "is_next_sector" (defArgs s_is_next_sector) (defBody s_is_next_sector) (defScope s_is_next_sector) .none kV_is_next_sector dc_is_next_sector pm_is_next_sector an_is_next_sector cd_is_next_sector ct_is_next_sector), sl_is_next_sector⟩)
    (c_is_next_sector : PySem.W.codeIn K cd_is_next_sector "is_next_sector" = true)
    (k_is_next_sector : PySem.W.keepIn K (.ref f_is_next_sector) = true)
    (a_read_sectors : PySem.W.nsIn K mainGlobals "read_sectors" = some (some (.ref f_read_sectors)))
    (l_read_sectors : K.lookup f_read_sectors = some ⟨oc_read_sectors, od_read_sectors, .func (PySem.W.fnOf "read_sectors" "read_sectors" (defArgs s_read_sectors) (defBody s_read_sectors) (defScope s_read_sectors) .none kV_read_sectors dc_read_sectors pm_read_sectors an_read_sectors cd_read_sectors ct_read_sectors), sl_read_sectors⟩)
    (c_read_sectors : PySem.W.codeIn K cd_read_sectors "read_sectors" = true)
    (k_read_sectors : PySem.W.keepIn K (.ref f_read_sectors) = true)
    (a_colour_towards : PySem.W.nsIn K mainGlobals "colour_towards" = some (some (.ref f_colour_towards)))
    (l_colour_towards : K.lookup f_colour_towards = some ⟨oc_colour_towards, od_colour_towards, .func (PySem.W.fnOf "colour_towards" "colour_towards" (defArgs s_colour_towards) (defBody s_colour_towards) (defScope s_colour_towards) .none kV_colour_towards dc_colour_towards pm_colour_towards an_colour_towards cd_colour_towards ct_colour_towards), sl_colour_towards⟩)
    (c_colour_towards : PySem.W.codeIn K cd_colour_towards "colour_towards" = true)
    (k_colour_towards : PySem.W.keepIn K (.ref f_colour_towards) = true)
    (a_is_field : PySem.W.nsIn K mainGlobals "is_field" = some (some (.ref f_is_field)))
    (l_is_field : K.lookup f_is_field = some ⟨oc_is_field, od_is_field, .func (PySem.W.fnOf "is_field" "is_field" (defArgs s_is_field) (defBody s_is_field) (defScope s_is_field) .none kV_is_field dc_is_field pm_is_field an_is_field cd_is_field ct_is_field), sl_is_field⟩)
    (c_is_field : PySem.W.codeIn K cd_is_field "is_field" = true)
    (k_is_field : PySem.W.keepIn K (.ref f_is_field) = true)
    (a_is_track : PySem.W.nsIn K mainGlobals "is_track" = some (some (.ref f_is_track)))
    (l_is_track : K.lookup f_is_track = some ⟨oc_is_track, od_is_track, .func (PySem.W.fnOf "is_track" "is_track" (defArgs s_is_track) (defBody s_is_track) (defScope s_is_track) .none kV_is_track dc_is_track pm_is_track an_is_track cd_is_track ct_is_track), sl_is_track⟩)
    (c_is_track : PySem.W.codeIn K cd_is_track "is_track" = true)
    (k_is_track : PySem.W.keepIn K (.ref f_is_track) = true)
    (a_read_pairs : PySem.W.nsIn K mainGlobals "read_pairs" = some (some (.ref f_read_pairs)))
    (l_read_pairs : K.lookup f_read_pairs = some ⟨oc_read_pairs, od_read_pairs, .func (PySem.W.fnOf "read_pairs" "read_pairs" (defArgs s_read_pairs) (defBody s_read_pairs) (defScope s_read_pairs) .none kV_read_pairs dc_read_pairs pm_read_pairs an_read_pairs cd_read_pairs ct_read_pairs), sl_read_pairs⟩)
    (c_read_pairs : PySem.W.codeIn K cd_read_pairs "read_pairs" = true)
    (k_read_pairs : PySem.W.keepIn K (.ref f_read_pairs) = true)
    (a_border_along : PySem.W.nsIn K mainGlobals "border_along" = some (some (.ref f_border_along)))
    (l_border_along : K.lookup f_border_along = some ⟨oc_border_along, od_border_along, .func (PySem.W.fnOf "border_along" "border_along" (defArgs s_border_along) (defBody s_border_along) (defScope s_border_along) .none kV_border_along dc_border_along pm_border_along an_border_along cd_border_along ct_border_along), sl_border_along⟩)
    (c_border_along : PySem.W.codeIn K cd_border_along "border_along" = true)
    (k_border_along : PySem.W.keepIn K (.ref f_border_along) = true)
    (a_shadow_in_line : PySem.W.nsIn K mainGlobals "shadow_in_line" = some (some (.ref f_shadow_in_line)))
    (l_shadow_in_line : K.lookup f_shadow_in_line = some ⟨oc_shadow_in_line, od_shadow_in_line, .func (PySem.W.fnOf "shadow_in_line" "shadow_in_line" (defArgs s_shadow_in_line) (defBody s_shadow_in_line) (defScope s_shadow_in_line) .none kV_shadow_in_line dc_shadow_in_line pm_shadow_in_line an_shadow_in_line cd_shadow_in_line ct_shadow_in_line), sl_shadow_in_line⟩)
    (c_shadow_in_line : PySem.W.codeIn K cd_shadow_in_line "shadow_in_line" = true)
    (k_shadow_in_line : PySem.W.keepIn K (.ref f_shadow_in_line) = true)
    (a_shadow_of : PySem.W.nsIn K mainGlobals "shadow_of" = some (some (.ref f_shadow_of)))
    (l_shadow_of : K.lookup f_shadow_of = some ⟨oc_shadow_of, od_shadow_of, .func (PySem.W.fnOf "shadow_of" "shadow_of" (defArgs s_shadow_of) (defBody s_shadow_of) (defScope s_shadow_of) .none kV_shadow_of dc_shadow_of pm_shadow_of an_shadow_of cd_shadow_of ct_shadow_of), sl_shadow_of⟩)
    (c_shadow_of : PySem.W.codeIn K cd_shadow_of "shadow_of" = true)
    (k_shadow_of : PySem.W.keepIn K (.ref f_shadow_of) = true)
    (a_numbers_within : PySem.W.nsIn K mainGlobals "numbers_within" = some (some (.ref f_numbers_within)))
    (l_numbers_within : K.lookup f_numbers_within = some ⟨oc_numbers_within, od_numbers_within, .func (PySem.W.fnOf "numbers_within" "numbers_within" (defArgs s_numbers_within) (defBody s_numbers_within) (defScope s_numbers_within) .none kV_numbers_within dc_numbers_within pm_numbers_within an_numbers_within cd_numbers_within ct_numbers_within), sl_numbers_within⟩)
    (c_numbers_within : PySem.W.codeIn K cd_numbers_within "numbers_within" = true)
    (k_numbers_within : PySem.W.keepIn K (.ref f_numbers_within) = true)
    (a_hidden_on : PySem.W.nsIn K mainGlobals "hidden_on" = some (some (.ref f_hidden_on)))
    (l_hidden_on : K.lookup f_hidden_on = some ⟨oc_hidden_on, od_hidden_on, .func (PySem.W.fnOf "hidden_on" "hidden_on" (defArgs s_hidden_on) (defBody s_hidden_on) (defScope s_hidden_on) .none kV_hidden_on dc_hidden_on pm_hidden_on an_hidden_on cd_hidden_on ct_hidden_on), sl_hidden_on⟩)
    (c_hidden_on : PySem.W.codeIn K cd_hidden_on "hidden_on" = true)
    (k_hidden_on : PySem.W.keepIn K (.ref f_hidden_on) = true)
    (a_split_text : PySem.W.nsIn K mainGlobals "split_text" = some (some (.ref f_split_text)))
    (l_split_text : K.lookup f_split_text = some ⟨oc_split_text, od_split_text, .func (PySem.W.fnOf "split_text" "split_text" (defArgs s_split_text) (defBody s_split_text) (defScope s_split_text) .none kV_split_text dc_split_text pm_split_text an_split_text cd_split_text ct_split_text), sl_split_text⟩)
    (c_split_text : PySem.W.codeIn K cd_split_text "split_text" = true)
    (k_split_text : PySem.W.keepIn K (.ref f_split_text) = true)
    (a_read_tenths : PySem.W.nsIn K mainGlobals "read_tenths" = some (some (.ref f_read_tenths)))
    (l_read_tenths : K.lookup f_read_tenths = some ⟨oc_read_tenths, od_read_tenths, .func (PySem.W.fnOf "read_tenths" "read_tenths" (defArgs s_read_tenths) (defBody s_read_tenths) (defScope s_read_tenths) .none kV_read_tenths dc_read_tenths pm_read_tenths an_read_tenths cd_read_tenths ct_read_tenths), sl_read_tenths⟩)
    (c_read_tenths : PySem.W.codeIn K cd_read_tenths "read_tenths" = true)
    (k_read_tenths : PySem.W.keepIn K (.ref f_read_tenths) = true)
    (a_read_phase : PySem.W.nsIn K mainGlobals "read_phase" = some (some (.ref f_read_phase)))
    (l_read_phase : K.lookup f_read_phase = some ⟨oc_read_phase, od_read_phase, .func (PySem.W.fnOf "read_phase" "read_phase" (defArgs s_read_phase) (defBody s_read_phase) (defScope s_read_phase) .none kV_read_phase dc_read_phase pm_read_phase an_read_phase cd_read_phase ct_read_phase), sl_read_phase⟩)
    (c_read_phase : PySem.W.codeIn K cd_read_phase "read_phase" = true)
    (k_read_phase : PySem.W.keepIn K (.ref f_read_phase) = true)
    (a_read_rhythm : PySem.W.nsIn K mainGlobals "read_rhythm" = some (some (.ref f_read_rhythm)))
    (l_read_rhythm : K.lookup f_read_rhythm = some ⟨oc_read_rhythm, od_read_rhythm, .func (PySem.W.fnOf "read_rhythm" "read_rhythm" (defArgs s_read_rhythm) (defBody s_read_rhythm) (defScope s_read_rhythm) .none kV_read_rhythm dc_read_rhythm pm_read_rhythm an_read_rhythm cd_read_rhythm ct_read_rhythm), sl_read_rhythm⟩)
    (c_read_rhythm : PySem.W.codeIn K cd_read_rhythm "read_rhythm" = true)
    (k_read_rhythm : PySem.W.keepIn K (.ref f_read_rhythm) = true)
    (a_is_white_and_dark : PySem.W.nsIn K mainGlobals "is_white_and_dark" = some (some (.ref f_is_white_and_dark)))
    (l_is_white_and_dark : K.lookup f_is_white_and_dark = some ⟨oc_is_white_and_dark, od_is_white_and_dark, .func (PySem.W.fnOf "is_white_and_dark" "is_white_and_dark" (defArgs s_is_white_and_dark) (defBody s_is_white_and_dark) (defScope s_is_white_and_dark) .none kV_is_white_and_dark dc_is_white_and_dark pm_is_white_and_dark an_is_white_and_dark cd_is_white_and_dark ct_is_white_and_dark), sl_is_white_and_dark⟩)
    (c_is_white_and_dark : PySem.W.codeIn K cd_is_white_and_dark "is_white_and_dark" = true)
    (k_is_white_and_dark : PySem.W.keepIn K (.ref f_is_white_and_dark) = true)
    (a_colour_byte_at : PySem.W.nsIn K mainGlobals "colour_byte_at" = some (some (.ref f_colour_byte_at)))
    (l_colour_byte_at : K.lookup f_colour_byte_at = some ⟨oc_colour_byte_at, od_colour_byte_at, .func (PySem.W.fnOf "colour_byte_at" "colour_byte_at" (defArgs s_colour_byte_at) (defBody s_colour_byte_at) (defScope s_colour_byte_at) .none kV_colour_byte_at dc_colour_byte_at pm_colour_byte_at an_colour_byte_at cd_colour_byte_at ct_colour_byte_at), sl_colour_byte_at⟩)
    (c_colour_byte_at : PySem.W.codeIn K cd_colour_byte_at "colour_byte_at" = true)
    (k_colour_byte_at : PySem.W.keepIn K (.ref f_colour_byte_at) = true)
    (a_write_rhythm : PySem.W.nsIn K mainGlobals "write_rhythm" = some (some (.ref f_write_rhythm)))
    (l_write_rhythm : K.lookup f_write_rhythm = some ⟨oc_write_rhythm, od_write_rhythm, .func (PySem.W.fnOf "write_rhythm" "write_rhythm" (defArgs s_write_rhythm) (defBody s_write_rhythm) (defScope s_write_rhythm) .none kV_write_rhythm dc_write_rhythm pm_write_rhythm an_write_rhythm cd_write_rhythm ct_write_rhythm), sl_write_rhythm⟩)
    (c_write_rhythm : PySem.W.codeIn K cd_write_rhythm "write_rhythm" = true)
    (k_write_rhythm : PySem.W.keepIn K (.ref f_write_rhythm) = true)
    (a_places_on : PySem.W.nsIn K mainGlobals "places_on" = some (some (.ref f_places_on)))
    (l_places_on : K.lookup f_places_on = some ⟨oc_places_on, od_places_on, .func (PySem.W.fnOf "places_on" "places_on" (defArgs s_places_on) (defBody s_places_on) (defScope s_places_on) .none kV_places_on dc_places_on pm_places_on an_places_on cd_places_on ct_places_on), sl_places_on⟩)
    (c_places_on : PySem.W.codeIn K cd_places_on "places_on" = true)
    (k_places_on : PySem.W.keepIn K (.ref f_places_on) = true)
    (a_places_over : PySem.W.nsIn K mainGlobals "places_over" = some (some (.ref f_places_over)))
    (l_places_over : K.lookup f_places_over = some ⟨oc_places_over, od_places_over, .func (PySem.W.fnOf "places_over" "places_over" (defArgs s_places_over) (defBody s_places_over) (defScope s_places_over) .none kV_places_over dc_places_over pm_places_over an_places_over cd_places_over ct_places_over), sl_places_over⟩)
    (c_places_over : PySem.W.codeIn K cd_places_over "places_over" = true)
    (k_places_over : PySem.W.keepIn K (.ref f_places_over) = true)
    (a_walks_over : PySem.W.nsIn K mainGlobals "walks_over" = some (some (.ref f_walks_over)))
    (l_walks_over : K.lookup f_walks_over = some ⟨oc_walks_over, od_walks_over, .func (PySem.W.fnOf "walks_over" "walks_over" (defArgs s_walks_over) (defBody s_walks_over) (defScope s_walks_over) .none kV_walks_over dc_walks_over pm_walks_over an_walks_over cd_walks_over ct_walks_over), sl_walks_over⟩)
    (c_walks_over : PySem.W.codeIn K cd_walks_over "walks_over" = true)
    (k_walks_over : PySem.W.keepIn K (.ref f_walks_over) = true)
    (a_Light_init : PySem.W.findIn K (.ref C_Light) "__init__" = some (some (.ref f_Light_init)))
    (i_Light_init : PySem.W.isFn K (.ref f_Light_init) = true)
    (l_Light_init : K.lookup f_Light_init = some ⟨oc_Light_init, od_Light_init, .func (PySem.W.fnOf "__init__" "Light.__init__" (defArgs s_Light_init) (defBody s_Light_init) (defScope s_Light_init) .none kV_Light_init dc_Light_init pm_Light_init an_Light_init cd_Light_init ct_Light_init), sl_Light_init⟩)
    (c_Light_init : PySem.W.codeIn K cd_Light_init "Light.__init__" = true)
    (k_Light_init : PySem.W.keepIn K (.ref f_Light_init) = true)
    (a_Light_hide_behind : PySem.W.findIn K (.ref C_Light) "hide_behind" = some (some (.ref f_Light_hide_behind)))
    (i_Light_hide_behind : PySem.W.isFn K (.ref f_Light_hide_behind) = true)
    (l_Light_hide_behind : K.lookup f_Light_hide_behind = some ⟨oc_Light_hide_behind, od_Light_hide_behind, .func (PySem.W.fnOf "hide_behind" "Light.hide_behind" (defArgs s_Light_hide_behind) (defBody s_Light_hide_behind) (defScope s_Light_hide_behind) .none kV_Light_hide_behind dc_Light_hide_behind pm_Light_hide_behind an_Light_hide_behind cd_Light_hide_behind ct_Light_hide_behind), sl_Light_hide_behind⟩)
    (c_Light_hide_behind : PySem.W.codeIn K cd_Light_hide_behind "Light.hide_behind" = true)
    (k_Light_hide_behind : PySem.W.keepIn K (.ref f_Light_hide_behind) = true)
    (a_Light_colour_shown : PySem.W.findIn K (.ref C_Light) "colour_shown" = some (some (.ref f_Light_colour_shown)))
    (i_Light_colour_shown : PySem.W.isFn K (.ref f_Light_colour_shown) = true)
    (l_Light_colour_shown : K.lookup f_Light_colour_shown = some ⟨oc_Light_colour_shown, od_Light_colour_shown, .func (PySem.W.fnOf "colour_shown" "Light.colour_shown" (defArgs s_Light_colour_shown) (defBody s_Light_colour_shown) (defScope s_Light_colour_shown) .none kV_Light_colour_shown dc_Light_colour_shown pm_Light_colour_shown an_Light_colour_shown cd_Light_colour_shown ct_Light_colour_shown), sl_Light_colour_shown⟩)
    (c_Light_colour_shown : PySem.W.codeIn K cd_Light_colour_shown "Light.colour_shown" = true)
    (k_Light_colour_shown : PySem.W.keepIn K (.ref f_Light_colour_shown) = true)
    (a_Light_colours_on : PySem.W.findIn K (.ref C_Light) "colours_on" = some (some (.ref f_Light_colours_on)))
    (i_Light_colours_on : PySem.W.isFn K (.ref f_Light_colours_on) = true)
    (l_Light_colours_on : K.lookup f_Light_colours_on = some ⟨oc_Light_colours_on, od_Light_colours_on, .func (PySem.W.fnOf "colours_on" "Light.colours_on" (defArgs s_Light_colours_on) (defBody s_Light_colours_on) (defScope s_Light_colours_on) .none kV_Light_colours_on dc_Light_colours_on pm_Light_colours_on an_Light_colours_on cd_Light_colours_on ct_Light_colours_on), sl_Light_colours_on⟩)
    (c_Light_colours_on : PySem.W.codeIn K cd_Light_colours_on "Light.colours_on" = true)
    (k_Light_colours_on : PySem.W.keepIn K (.ref f_Light_colours_on) = true)
    (a_Light_colours_over : PySem.W.findIn K (.ref C_Light) "colours_over" = some (some (.ref f_Light_colours_over)))
    (i_Light_colours_over : PySem.W.isFn K (.ref f_Light_colours_over) = true)
    (l_Light_colours_over : K.lookup f_Light_colours_over = some ⟨oc_Light_colours_over, od_Light_colours_over, .func (PySem.W.fnOf "colours_over" "Light.colours_over" (defArgs s_Light_colours_over) (defBody s_Light_colours_over) (defScope s_Light_colours_over) .none kV_Light_colours_over dc_Light_colours_over pm_Light_colours_over an_Light_colours_over cd_Light_colours_over ct_Light_colours_over), sl_Light_colours_over⟩)
    (c_Light_colours_over : PySem.W.codeIn K cd_Light_colours_over "Light.colours_over" = true)
    (k_Light_colours_over : PySem.W.keepIn K (.ref f_Light_colours_over) = true)
    (a_Light_colour_seen : PySem.W.findIn K (.ref C_Light) "colour_seen" = some (some (.ref f_Light_colour_seen)))
    (i_Light_colour_seen : PySem.W.isFn K (.ref f_Light_colour_seen) = true)
    (l_Light_colour_seen : K.lookup f_Light_colour_seen = some ⟨oc_Light_colour_seen, od_Light_colour_seen, .func (PySem.W.fnOf "colour_seen" "Light.colour_seen" (defArgs s_Light_colour_seen) (defBody s_Light_colour_seen) (defScope s_Light_colour_seen) .none kV_Light_colour_seen dc_Light_colour_seen pm_Light_colour_seen an_Light_colour_seen cd_Light_colour_seen ct_Light_colour_seen), sl_Light_colour_seen⟩)
    (c_Light_colour_seen : PySem.W.codeIn K cd_Light_colour_seen "Light.colour_seen" = true)
    (k_Light_colour_seen : PySem.W.keepIn K (.ref f_Light_colour_seen) = true)
    (a_Light_is_on : PySem.W.findIn K (.ref C_Light) "is_on" = some (some (.ref f_Light_is_on)))
    (i_Light_is_on : PySem.W.isFn K (.ref f_Light_is_on) = true)
    (l_Light_is_on : K.lookup f_Light_is_on = some ⟨oc_Light_is_on, od_Light_is_on, .func (PySem.W.fnOf "is_on" "Light.is_on" (defArgs s_Light_is_on) (defBody s_Light_is_on) (defScope s_Light_is_on) .none kV_Light_is_on dc_Light_is_on pm_Light_is_on an_Light_is_on cd_Light_is_on ct_Light_is_on), sl_Light_is_on⟩)
    (c_Light_is_on : PySem.W.codeIn K cd_Light_is_on "Light.is_on" = true)
    (k_Light_is_on : PySem.W.keepIn K (.ref f_Light_is_on) = true)
    (a_Chart_init : PySem.W.findIn K (.ref C_Chart) "__init__" = some (some (.ref f_Chart_init)))
    (i_Chart_init : PySem.W.isFn K (.ref f_Chart_init) = true)
    (l_Chart_init : K.lookup f_Chart_init = some ⟨oc_Chart_init, od_Chart_init, .func (PySem.W.fnOf "__init__" "Chart.__init__" (defArgs s_Chart_init) (defBody s_Chart_init) (defScope s_Chart_init) .none kV_Chart_init dc_Chart_init pm_Chart_init an_Chart_init cd_Chart_init ct_Chart_init), sl_Chart_init⟩)
    (c_Chart_init : PySem.W.codeIn K cd_Chart_init "Chart.__init__" = true)
    (k_Chart_init : PySem.W.keepIn K (.ref f_Chart_init) = true)
    (a_Chart_light : PySem.W.findIn K (.ref C_Chart) "light" = some (some (.ref f_Chart_light)))
    (i_Chart_light : PySem.W.isFn K (.ref f_Chart_light) = true)
    (l_Chart_light : K.lookup f_Chart_light = some ⟨oc_Chart_light, od_Chart_light, .func (PySem.W.fnOf "light" "Chart.light" (defArgs s_Chart_light) (defBody s_Chart_light) (defScope s_Chart_light) .none kV_Chart_light dc_Chart_light pm_Chart_light an_Chart_light cd_Chart_light ct_Chart_light), sl_Chart_light⟩)
    (c_Chart_light : PySem.W.codeIn K cd_Chart_light "Chart.light" = true)
    (k_Chart_light : PySem.W.keepIn K (.ref f_Chart_light) = true)
    (a_Chart_coast : PySem.W.findIn K (.ref C_Chart) "coast" = some (some (.ref f_Chart_coast)))
    (i_Chart_coast : PySem.W.isFn K (.ref f_Chart_coast) = true)
    (l_Chart_coast : K.lookup f_Chart_coast = some ⟨oc_Chart_coast, od_Chart_coast, .func (PySem.W.fnOf "coast" "Chart.coast" (defArgs s_Chart_coast) (defBody s_Chart_coast) (defScope s_Chart_coast) .none kV_Chart_coast dc_Chart_coast pm_Chart_coast an_Chart_coast cd_Chart_coast ct_Chart_coast), sl_Chart_coast⟩)
    (c_Chart_coast : PySem.W.codeIn K cd_Chart_coast "Chart.coast" = true)
    (k_Chart_coast : PySem.W.keepIn K (.ref f_Chart_coast) = true)
    (a_Chart_seen : PySem.W.findIn K (.ref C_Chart) "seen" = some (some (.ref f_Chart_seen)))
    (i_Chart_seen : PySem.W.isFn K (.ref f_Chart_seen) = true)
    (l_Chart_seen : K.lookup f_Chart_seen = some ⟨oc_Chart_seen, od_Chart_seen, .func (PySem.W.fnOf "seen" "Chart.seen" (defArgs s_Chart_seen) (defBody s_Chart_seen) (defScope s_Chart_seen) .none kV_Chart_seen dc_Chart_seen pm_Chart_seen an_Chart_seen cd_Chart_seen ct_Chart_seen), sl_Chart_seen⟩)
    (c_Chart_seen : PySem.W.codeIn K cd_Chart_seen "Chart.seen" = true)
    (k_Chart_seen : PySem.W.keepIn K (.ref f_Chart_seen) = true)
    (a_Chart_at : PySem.W.findIn K (.ref C_Chart) "at" = some (some (.ref f_Chart_at)))
    (i_Chart_at : PySem.W.isFn K (.ref f_Chart_at) = true)
    (l_Chart_at : K.lookup f_Chart_at = some ⟨oc_Chart_at, od_Chart_at, .func (PySem.W.fnOf "at" "Chart.at" (defArgs s_Chart_at) (defBody s_Chart_at) (defScope s_Chart_at) .none kV_Chart_at dc_Chart_at pm_Chart_at an_Chart_at cd_Chart_at ct_Chart_at), sl_Chart_at⟩)
    (c_Chart_at : PySem.W.codeIn K cd_Chart_at "Chart.at" = true)
    (k_Chart_at : PySem.W.keepIn K (.ref f_Chart_at) = true)
    (a_Chart_rhythm : PySem.W.findIn K (.ref C_Chart) "rhythm" = some (some (.ref f_Chart_rhythm)))
    (i_Chart_rhythm : PySem.W.isFn K (.ref f_Chart_rhythm) = true)
    (l_Chart_rhythm : K.lookup f_Chart_rhythm = some ⟨oc_Chart_rhythm, od_Chart_rhythm, .func (PySem.W.fnOf "rhythm" "Chart.rhythm" (defArgs s_Chart_rhythm) (defBody s_Chart_rhythm) (defScope s_Chart_rhythm) .none kV_Chart_rhythm dc_Chart_rhythm pm_Chart_rhythm an_Chart_rhythm cd_Chart_rhythm ct_Chart_rhythm), sl_Chart_rhythm⟩)
    (c_Chart_rhythm : PySem.W.codeIn K cd_Chart_rhythm "Chart.rhythm" = true)
    (k_Chart_rhythm : PySem.W.keepIn K (.ref f_Chart_rhythm) = true)
    (a_Chart_where : PySem.W.findIn K (.ref C_Chart) "where" = some (some (.ref f_Chart_where)))
    (i_Chart_where : PySem.W.isFn K (.ref f_Chart_where) = true)
    (l_Chart_where : K.lookup f_Chart_where = some ⟨oc_Chart_where, od_Chart_where, .func (PySem.W.fnOf "where" "Chart.where" (defArgs s_Chart_where) (defBody s_Chart_where) (defScope s_Chart_where) .none kV_Chart_where dc_Chart_where pm_Chart_where an_Chart_where cd_Chart_where ct_Chart_where), sl_Chart_where⟩)
    (c_Chart_where : PySem.W.codeIn K cd_Chart_where "Chart.where" = true)
    (k_Chart_where : PySem.W.keepIn K (.ref f_Chart_where) = true)
    (a_Chart_track : PySem.W.findIn K (.ref C_Chart) "track" = some (some (.ref f_Chart_track)))
    (i_Chart_track : PySem.W.isFn K (.ref f_Chart_track) = true)
    (l_Chart_track : K.lookup f_Chart_track = some ⟨oc_Chart_track, od_Chart_track, .func (PySem.W.fnOf "track" "Chart.track" (defArgs s_Chart_track) (defBody s_Chart_track) (defScope s_Chart_track) .none kV_Chart_track dc_Chart_track pm_Chart_track an_Chart_track cd_Chart_track ct_Chart_track), sl_Chart_track⟩)
    (c_Chart_track : PySem.W.codeIn K cd_Chart_track "Chart.track" = true)
    (k_Chart_track : PySem.W.keepIn K (.ref f_Chart_track) = true)
    (a_Chart_tell : PySem.W.findIn K (.ref C_Chart) "tell" = some (some (.ref f_Chart_tell)))
    (i_Chart_tell : PySem.W.isFn K (.ref f_Chart_tell) = true)
    (l_Chart_tell : K.lookup f_Chart_tell = some ⟨oc_Chart_tell, od_Chart_tell, .func (PySem.W.fnOf "tell" "Chart.tell" (defArgs s_Chart_tell) (defBody s_Chart_tell) (defScope s_Chart_tell) .none kV_Chart_tell dc_Chart_tell pm_Chart_tell an_Chart_tell cd_Chart_tell ct_Chart_tell), sl_Chart_tell⟩)
    (c_Chart_tell : PySem.W.codeIn K cd_Chart_tell "Chart.tell" = true)
    (k_Chart_tell : PySem.W.keepIn K (.ref f_Chart_tell) = true)
    (a_Chart_begin_anew : PySem.W.findIn K (.ref C_Chart) "begin_anew" = some (some (.ref f_Chart_begin_anew)))
    (i_Chart_begin_anew : PySem.W.isFn K (.ref f_Chart_begin_anew) = true)
    (l_Chart_begin_anew : K.lookup f_Chart_begin_anew = some ⟨oc_Chart_begin_anew, od_Chart_begin_anew, .func (PySem.W.fnOf "begin_anew" "Chart.begin_anew" (defArgs s_Chart_begin_anew) (defBody s_Chart_begin_anew) (defScope s_Chart_begin_anew) .none kV_Chart_begin_anew dc_Chart_begin_anew pm_Chart_begin_anew an_Chart_begin_anew cd_Chart_begin_anew ct_Chart_begin_anew), sl_Chart_begin_anew⟩)
    (c_Chart_begin_anew : PySem.W.codeIn K cd_Chart_begin_anew "Chart.begin_anew" = true)
    (k_Chart_begin_anew : PySem.W.keepIn K (.ref f_Chart_begin_anew) = true)
    (a_Chart_lights_seen : PySem.W.findIn K (.ref C_Chart) "lights_seen" = some (some (.ref f_Chart_lights_seen)))
    (i_Chart_lights_seen : PySem.W.isFn K (.ref f_Chart_lights_seen) = true)
    (l_Chart_lights_seen : K.lookup f_Chart_lights_seen = some ⟨oc_Chart_lights_seen, od_Chart_lights_seen, .func (PySem.W.fnOf "lights_seen" "Chart.lights_seen" (defArgs s_Chart_lights_seen) (defBody s_Chart_lights_seen) (defScope s_Chart_lights_seen) .none kV_Chart_lights_seen dc_Chart_lights_seen pm_Chart_lights_seen an_Chart_lights_seen cd_Chart_lights_seen ct_Chart_lights_seen), sl_Chart_lights_seen⟩)
    (c_Chart_lights_seen : PySem.W.codeIn K cd_Chart_lights_seen "Chart.lights_seen" = true)
    (k_Chart_lights_seen : PySem.W.keepIn K (.ref f_Chart_lights_seen) = true)
    (a_Chart_look_over : PySem.W.findIn K (.ref C_Chart) "look_over" = some (some (.ref f_Chart_look_over)))
    (i_Chart_look_over : PySem.W.isFn K (.ref f_Chart_look_over) = true)
    (l_Chart_look_over : K.lookup f_Chart_look_over = some ⟨oc_Chart_look_over, od_Chart_look_over, .func (PySem.W.fnOf "look_over" "Chart.look_over" (defArgs s_Chart_look_over) (defBody s_Chart_look_over) (defScope s_Chart_look_over) .none kV_Chart_look_over dc_Chart_look_over pm_Chart_look_over an_Chart_look_over cd_Chart_look_over ct_Chart_look_over), sl_Chart_look_over⟩)
    (c_Chart_look_over : PySem.W.codeIn K cd_Chart_look_over "Chart.look_over" = true)
    (k_Chart_look_over : PySem.W.keepIn K (.ref f_Chart_look_over) = true)
    (a_Chart_spots_left : PySem.W.findIn K (.ref C_Chart) "spots_left" = some (some (.ref f_Chart_spots_left)))
    (i_Chart_spots_left : PySem.W.isFn K (.ref f_Chart_spots_left) = true)
    (l_Chart_spots_left : K.lookup f_Chart_spots_left = some ⟨oc_Chart_spots_left, od_Chart_spots_left, .func (PySem.W.fnOf "spots_left" "Chart.spots_left" (defArgs s_Chart_spots_left) (defBody s_Chart_spots_left) (defScope s_Chart_spots_left) .none kV_Chart_spots_left dc_Chart_spots_left pm_Chart_spots_left an_Chart_spots_left cd_Chart_spots_left ct_Chart_spots_left), sl_Chart_spots_left⟩)
    (c_Chart_spots_left : PySem.W.codeIn K cd_Chart_spots_left "Chart.spots_left" = true)
    (k_Chart_spots_left : PySem.W.keepIn K (.ref f_Chart_spots_left) = true)
    (a_Chart_changes_on : PySem.W.findIn K (.ref C_Chart) "changes_on" = some (some (.ref f_Chart_changes_on)))
    (i_Chart_changes_on : PySem.W.isFn K (.ref f_Chart_changes_on) = true)
    (l_Chart_changes_on : K.lookup f_Chart_changes_on = some ⟨oc_Chart_changes_on, od_Chart_changes_on, .func (PySem.W.fnOf "changes_on" "Chart.changes_on" (defArgs s_Chart_changes_on) (defBody s_Chart_changes_on) (defScope s_Chart_changes_on) .none kV_Chart_changes_on dc_Chart_changes_on pm_Chart_changes_on an_Chart_changes_on cd_Chart_changes_on ct_Chart_changes_on), sl_Chart_changes_on⟩)
    (c_Chart_changes_on : PySem.W.codeIn K cd_Chart_changes_on "Chart.changes_on" = true)
    (k_Chart_changes_on : PySem.W.keepIn K (.ref f_Chart_changes_on) = true)
    (a_tell_rows : PySem.W.nsIn K mainGlobals "tell_rows" = some (some (.ref f_tell_rows)))
    (l_tell_rows : K.lookup f_tell_rows = some ⟨oc_tell_rows, od_tell_rows, .func (PySem.W.fnOf "tell_rows" "tell_rows" (defArgs s_tell_rows) (defBody s_tell_rows) (defScope s_tell_rows) .none kV_tell_rows dc_tell_rows pm_tell_rows an_tell_rows cd_tell_rows ct_tell_rows), sl_tell_rows⟩)
    (c_tell_rows : PySem.W.codeIn K cd_tell_rows "tell_rows" = true)
    (k_tell_rows : PySem.W.keepIn K (.ref f_tell_rows) = true)
    (a_count_colours : PySem.W.nsIn K mainGlobals "count_colours" = some (some (.ref f_count_colours)))
    (l_count_colours : K.lookup f_count_colours = some ⟨oc_count_colours, od_count_colours, .func (PySem.W.fnOf "count_colours" "count_colours" (defArgs s_count_colours) (defBody s_count_colours) (defScope s_count_colours) .none kV_count_colours dc_count_colours pm_count_colours an_count_colours cd_count_colours ct_count_colours), sl_count_colours⟩)
    (c_count_colours : PySem.W.codeIn K cd_count_colours "count_colours" = true)
    (k_count_colours : PySem.W.keepIn K (.ref f_count_colours) = true)
    (a_number_of_least_greatest : PySem.W.nsIn K mainGlobals "number_of_least_greatest" = some (some (.ref f_number_of_least_greatest)))
    (l_number_of_least_greatest : K.lookup f_number_of_least_greatest = some ⟨oc_number_of_least_greatest, od_number_of_least_greatest, .func (PySem.W.fnOf "number_of_least_greatest" "number_of_least_greatest" (defArgs s_number_of_least_greatest) (defBody s_number_of_least_greatest) (defScope s_number_of_least_greatest) .none kV_number_of_least_greatest dc_number_of_least_greatest pm_number_of_least_greatest an_number_of_least_greatest cd_number_of_least_greatest ct_number_of_least_greatest), sl_number_of_least_greatest⟩)
    (c_number_of_least_greatest : PySem.W.codeIn K cd_number_of_least_greatest "number_of_least_greatest" = true)
    (k_number_of_least_greatest : PySem.W.keepIn K (.ref f_number_of_least_greatest) = true)
    (a_answer_call : PySem.W.nsIn K mainGlobals "answer_call" = some (some (.ref f_answer_call)))
    (l_answer_call : K.lookup f_answer_call = some ⟨oc_answer_call, od_answer_call, .func (PySem.W.fnOf "answer_call" "answer_call" (defArgs s_answer_call) (defBody s_answer_call) (defScope s_answer_call) .none kV_answer_call dc_answer_call pm_answer_call an_answer_call cd_answer_call ct_answer_call), sl_answer_call⟩)
    (c_answer_call : PySem.W.codeIn K cd_answer_call "answer_call" = true)
    (k_answer_call : PySem.W.keepIn K (.ref f_answer_call) = true)
    (a_read_lists : PySem.W.nsIn K mainGlobals "read_lists" = some (some (.ref f_read_lists)))
    (l_read_lists : K.lookup f_read_lists = some ⟨oc_read_lists, od_read_lists, .func (PySem.W.fnOf "read_lists" "read_lists" (defArgs s_read_lists) (defBody s_read_lists) (defScope s_read_lists) .none kV_read_lists dc_read_lists pm_read_lists an_read_lists cd_read_lists ct_read_lists), sl_read_lists⟩)
    (c_read_lists : PySem.W.codeIn K cd_read_lists "read_lists" = true)
    (k_read_lists : PySem.W.keepIn K (.ref f_read_lists) = true)
    (a_answers : PySem.W.nsIn K mainGlobals "answers" = some (some (.ref f_answers)))
    (l_answers : K.lookup f_answers = some ⟨oc_answers, od_answers, .func (PySem.W.fnOf "answers" "answers" (defArgs s_answers) (defBody s_answers) (defScope s_answers) .none kV_answers dc_answers pm_answers an_answers cd_answers ct_answers), sl_answers⟩)
    (c_answers : PySem.W.codeIn K cd_answers "answers" = true)
    (k_answers : PySem.W.keepIn K (.ref f_answers) = true)
    (pg_Light : PySem.W.plainGet K C_Light Str.empty = true)
    (hd_Light : PySem.W.hasDictIn K C_Light = true)
    (po_Light : PySem.W.plainOver K C_Light = true)
    (sa_Light : PySem.W.findIn K (.ref C_Light) "__setattr__" = some (some (.builtin "object.__setattr__")))
    (mk_Light : PySem.W.makesIn K C_Light = true)
    (kc_Light : PySem.W.keepIn K (.ref C_Light) = true)
    (n_Light_place : PySem.W.findIn K (.ref C_Light) "place" = some none)
    (n_Light_reach : PySem.W.findIn K (.ref C_Light) "reach" = some none)
    (n_Light_phases : PySem.W.findIn K (.ref C_Light) "phases" = some none)
    (n_Light_sectors : PySem.W.findIn K (.ref C_Light) "sectors" = some none)
    (n_Light_shadows : PySem.W.findIn K (.ref C_Light) "shadows" = some none)
    (pg_Chart : PySem.W.plainGet K C_Chart Str.empty = true)
    (hd_Chart : PySem.W.hasDictIn K C_Chart = true)
    (po_Chart : PySem.W.plainOver K C_Chart = true)
    (sa_Chart : PySem.W.findIn K (.ref C_Chart) "__setattr__" = some (some (.builtin "object.__setattr__")))
    (mk_Chart : PySem.W.makesIn K C_Chart = true)
    (kc_Chart : PySem.W.keepIn K (.ref C_Chart) = true)
    (n_Chart_lights : PySem.W.findIn K (.ref C_Chart) "lights" = some none)
    (n_Chart_coasts : PySem.W.findIn K (.ref C_Chart) "coasts" = some none)
    (g_FARTHEST : PySem.W.nsIn K mainGlobals "FARTHEST" = some (some (.int 10000 t_FARTHEST)))
    (g_NOTHING : PySem.W.nsIn K mainGlobals "NOTHING" = some (some (.int 0 t_NOTHING)))
    (g_LAST_COLOUR : PySem.W.nsIn K mainGlobals "LAST_COLOUR" = some (some (.int 4 t_LAST_COLOUR)))
    (g_MOST_SECTORS : PySem.W.nsIn K mainGlobals "MOST_SECTORS" = some (some (.int 12 t_MOST_SECTORS)))
    (g_NUMBERS_OF_SECTOR : PySem.W.nsIn K mainGlobals "NUMBERS_OF_SECTOR" = some (some (.int 3 t_NUMBERS_OF_SECTOR)))
    (g_LONGEST_DIRECTION : PySem.W.nsIn K mainGlobals "LONGEST_DIRECTION" = some (some (.int 1000 t_LONGEST_DIRECTION)))
    (g_MOST_PLACES : PySem.W.nsIn K mainGlobals "MOST_PLACES" = some (some (.int 1024 t_MOST_PLACES)))
    (g_MOST_PAIRS : PySem.W.nsIn K mainGlobals "MOST_PAIRS" = some (some (.int 24 t_MOST_PAIRS)))
    (g_NUMBERS_OF_PAIR : PySem.W.nsIn K mainGlobals "NUMBERS_OF_PAIR" = some (some (.int 2 t_NUMBERS_OF_PAIR)))
    (g_MOST_STEPS : PySem.W.nsIn K mainGlobals "MOST_STEPS" = some (some (.int 500 t_MOST_STEPS)))
    (g_LONGEST_STEP : PySem.W.nsIn K mainGlobals "LONGEST_STEP" = some (some (.int 1000 t_LONGEST_STEP)))
    (g_BLANK : PySem.W.nsIn K mainGlobals "BLANK" = some (some (.int 32 t_BLANK)))
    (g_NOUGHT : PySem.W.nsIn K mainGlobals "NOUGHT" = some (some (.int 48 t_NOUGHT)))
    (g_NINE : PySem.W.nsIn K mainGlobals "NINE" = some (some (.int 57 t_NINE)))
    (g_DARK : PySem.W.nsIn K mainGlobals "DARK" = some (some (.int 45 t_DARK)))
    (g_WHITE : PySem.W.nsIn K mainGlobals "WHITE" = some (some (.int 87 t_WHITE)))
    (g_COLOUR_BYTES : PySem.W.nsIn K mainGlobals "COLOUR_BYTES" = some (some (.ref a_COLOUR_BYTES)))
    (s_COLOUR_BYTES : K.lookup a_COLOUR_BYTES = some ⟨.type "tuple", d_COLOUR_BYTES, .seq #[.int 45 t_COLOUR_BYTES_0, .int 87 t_COLOUR_BYTES_1, .int 82 t_COLOUR_BYTES_2, .int 71 t_COLOUR_BYTES_3, .int 89 t_COLOUR_BYTES_4] n_COLOUR_BYTES, v_COLOUR_BYTES⟩)
    (g_MOST_DIGITS : PySem.W.nsIn K mainGlobals "MOST_DIGITS" = some (some (.int 3 t_MOST_DIGITS)))
    (g_MOST_TENTHS : PySem.W.nsIn K mainGlobals "MOST_TENTHS" = some (some (.int 600 t_MOST_TENTHS)))
    (g_MOST_PHASES : PySem.W.nsIn K mainGlobals "MOST_PHASES" = some (some (.int 32 t_MOST_PHASES)))
    (g_MOST_TOGETHER : PySem.W.nsIn K mainGlobals "MOST_TOGETHER" = some (some (.int 6000 t_MOST_TOGETHER)))
    (g_LONGEST_REACH : PySem.W.nsIn K mainGlobals "LONGEST_REACH" = some (some (.int 20000 t_LONGEST_REACH)))
    (g_MOST_BYTES : PySem.W.nsIn K mainGlobals "MOST_BYTES" = some (some (.int 1024 t_MOST_BYTES)))
    (g_MOST_LIGHTS : PySem.W.nsIn K mainGlobals "MOST_LIGHTS" = some (some (.int 24 t_MOST_LIGHTS)))
    (g_MOST_COASTS : PySem.W.nsIn K mainGlobals "MOST_COASTS" = some (some (.int 64 t_MOST_COASTS)))
    (g_LAST_MOMENT : PySem.W.nsIn K mainGlobals "LAST_MOMENT" = some (some (.int 1000000 t_LAST_MOMENT)))
    (g_LIGHT_CALL : PySem.W.nsIn K mainGlobals "LIGHT_CALL" = some (some (.int 0 t_LIGHT_CALL)))
    (g_COAST_CALL : PySem.W.nsIn K mainGlobals "COAST_CALL" = some (some (.int 1 t_COAST_CALL)))
    (g_SEEN_CALL : PySem.W.nsIn K mainGlobals "SEEN_CALL" = some (some (.int 2 t_SEEN_CALL)))
    (g_AT_CALL : PySem.W.nsIn K mainGlobals "AT_CALL" = some (some (.int 3 t_AT_CALL)))
    (g_RHYTHM_CALL : PySem.W.nsIn K mainGlobals "RHYTHM_CALL" = some (some (.int 4 t_RHYTHM_CALL)))
    (g_WHERE_CALL : PySem.W.nsIn K mainGlobals "WHERE_CALL" = some (some (.int 5 t_WHERE_CALL)))
    (g_TRACK_CALL : PySem.W.nsIn K mainGlobals "TRACK_CALL" = some (some (.int 6 t_TRACK_CALL)))
    (g_TELL_CALL : PySem.W.nsIn K mainGlobals "TELL_CALL" = some (some (.int 7 t_TELL_CALL)))
    (g_NUMBERS_OF_CALL : PySem.W.nsIn K mainGlobals "NUMBERS_OF_CALL" = some (some (.ref a_NUMBERS_OF_CALL)))
    (s_NUMBERS_OF_CALL : K.lookup a_NUMBERS_OF_CALL = some ⟨.type "tuple", d_NUMBERS_OF_CALL, .seq #[.int 3 t_NUMBERS_OF_CALL_0, .int 4 t_NUMBERS_OF_CALL_1, .int 2 t_NUMBERS_OF_CALL_2, .int 3 t_NUMBERS_OF_CALL_3, .int 3 t_NUMBERS_OF_CALL_4, .int 4 t_NUMBERS_OF_CALL_5, .int 5 t_NUMBERS_OF_CALL_6, .int 4 t_NUMBERS_OF_CALL_7, .int 0 t_NUMBERS_OF_CALL_8] n_NUMBERS_OF_CALL, v_NUMBERS_OF_CALL⟩)
    (g_LISTS_OF_CALL : PySem.W.nsIn K mainGlobals "LISTS_OF_CALL" = some (some (.ref a_LISTS_OF_CALL)))
    (s_LISTS_OF_CALL : K.lookup a_LISTS_OF_CALL = some ⟨.type "tuple", d_LISTS_OF_CALL, .seq #[.int 2 t_LISTS_OF_CALL_0, .int 0 t_LISTS_OF_CALL_1, .int 0 t_LISTS_OF_CALL_2, .int 0 t_LISTS_OF_CALL_3, .int 0 t_LISTS_OF_CALL_4, .int 1 t_LISTS_OF_CALL_5, .int 0 t_LISTS_OF_CALL_6, .int 1 t_LISTS_OF_CALL_7, .int 0 t_LISTS_OF_CALL_8] n_LISTS_OF_CALL, v_LISTS_OF_CALL⟩)
    (b_any : PySem.W.nsIn K mainGlobals "any" = some none)
    (b_enumerate : PySem.W.nsIn K mainGlobals "enumerate" = some none)
    (b_len : PySem.W.nsIn K mainGlobals "len" = some none)
    (b_list : PySem.W.nsIn K mainGlobals "list" = some none)
    (b_max : PySem.W.nsIn K mainGlobals "max" = some none)
    (b_min : PySem.W.nsIn K mainGlobals "min" = some none)
    (b_ord : PySem.W.nsIn K mainGlobals "ord" = some none)
    (b_range : PySem.W.nsIn K mainGlobals "range" = some none)
    (b_sorted : PySem.W.nsIn K mainGlobals "sorted" = some none)
    (b_str : PySem.W.nsIn K mainGlobals "str" = some none)
    (b_sum : PySem.W.nsIn K mainGlobals "sum" = some none)
    (b_zip : PySem.W.nsIn K mainGlobals "zip" = some none) :
    ∃ fd : FuncData, (∀ (s : Shared) (us : List Value), us.length = (["calls"] : List Str).length → BindsTo s fd ⟨us, []⟩ ((["calls"] : List Str).zip us)) ∧ ∀ base : Heap, K.In base → base.Ns mainGlobals mg → FnOk P w K mg base CX0 11 fa fd ["calls"] (sp_answers K) := by
  have e := hfa.symm.trans (PySem.W.mg_of X G a_answers)
  cases e
  have ex : ∃ ad : String → Addr, ad "Light" = C_Light ∧ ad "Chart" = C_Chart ∧ ad "COLOUR_BYTES" = a_COLOUR_BYTES ∧ ad "NUMBERS_OF_CALL" = a_NUMBERS_OF_CALL ∧ ad "LISTS_OF_CALL" = a_LISTS_OF_CALL := ⟨fun x => if x = "Light" then C_Light else if x = "Chart" then C_Chart else if x = "COLOUR_BYTES" then a_COLOUR_BYTES else if x = "NUMBERS_OF_CALL" then a_NUMBERS_OF_CALL else if x = "LISTS_OF_CALL" then a_LISTS_OF_CALL else 0, by simp, by simp, by simp, by simp, by simp⟩
  obtain ⟨ad, rfl, rfl, rfl, rfl, rfl⟩ := ex
  have T : Tx K mg ad := ⟨⟨_, PySem.W.mg_of X G g_FARTHEST⟩, ⟨_, PySem.W.mg_of X G g_NOTHING⟩, ⟨_, PySem.W.mg_of X G g_LAST_COLOUR⟩, ⟨_, PySem.W.mg_of X G g_MOST_SECTORS⟩, ⟨_, PySem.W.mg_of X G g_NUMBERS_OF_SECTOR⟩, ⟨_, PySem.W.mg_of X G g_LONGEST_DIRECTION⟩, ⟨_, PySem.W.mg_of X G g_MOST_PLACES⟩, ⟨_, PySem.W.mg_of X G g_MOST_PAIRS⟩, ⟨_, PySem.W.mg_of X G g_NUMBERS_OF_PAIR⟩, ⟨_, PySem.W.mg_of X G g_MOST_STEPS⟩, ⟨_, PySem.W.mg_of X G g_LONGEST_STEP⟩, ⟨_, PySem.W.mg_of X G g_BLANK⟩, ⟨_, PySem.W.mg_of X G g_NOUGHT⟩, ⟨_, PySem.W.mg_of X G g_NINE⟩, ⟨_, PySem.W.mg_of X G g_DARK⟩, ⟨_, PySem.W.mg_of X G g_WHITE⟩, PySem.W.mg_of X G g_COLOUR_BYTES, fun H => .inr ⟨_, _, _, s_COLOUR_BYTES, rfl, rfl, (by show 5 ≤ sizeLine; decide), (.cons ⟨_, rfl⟩ (.cons ⟨_, rfl⟩ (.cons ⟨_, rfl⟩ (.cons ⟨_, rfl⟩ (.cons ⟨_, rfl⟩ .nil)))))⟩, ⟨_, PySem.W.mg_of X G g_MOST_DIGITS⟩, ⟨_, PySem.W.mg_of X G g_MOST_TENTHS⟩, ⟨_, PySem.W.mg_of X G g_MOST_PHASES⟩, ⟨_, PySem.W.mg_of X G g_MOST_TOGETHER⟩, ⟨_, PySem.W.mg_of X G g_LONGEST_REACH⟩, ⟨_, PySem.W.mg_of X G g_MOST_BYTES⟩, ⟨_, PySem.W.mg_of X G g_MOST_LIGHTS⟩, ⟨_, PySem.W.mg_of X G g_MOST_COASTS⟩, ⟨_, PySem.W.mg_of X G g_LAST_MOMENT⟩, ⟨_, PySem.W.mg_of X G g_LIGHT_CALL⟩, ⟨_, PySem.W.mg_of X G g_COAST_CALL⟩, ⟨_, PySem.W.mg_of X G g_SEEN_CALL⟩, ⟨_, PySem.W.mg_of X G g_AT_CALL⟩, ⟨_, PySem.W.mg_of X G g_RHYTHM_CALL⟩, ⟨_, PySem.W.mg_of X G g_WHERE_CALL⟩, ⟨_, PySem.W.mg_of X G g_TRACK_CALL⟩, ⟨_, PySem.W.mg_of X G g_TELL_CALL⟩, PySem.W.mg_of X G g_NUMBERS_OF_CALL, fun H => .inr ⟨_, _, _, s_NUMBERS_OF_CALL, rfl, rfl, (by show 9 ≤ sizeLine; decide), (.cons ⟨_, rfl⟩ (.cons ⟨_, rfl⟩ (.cons ⟨_, rfl⟩ (.cons ⟨_, rfl⟩ (.cons ⟨_, rfl⟩ (.cons ⟨_, rfl⟩ (.cons ⟨_, rfl⟩ (.cons ⟨_, rfl⟩ (.cons ⟨_, rfl⟩ .nil)))))))))⟩, PySem.W.mg_of X G g_LISTS_OF_CALL, fun H => .inr ⟨_, _, _, s_LISTS_OF_CALL, rfl, rfl, (by show 9 ≤ sizeLine; decide), (.cons ⟨_, rfl⟩ (.cons ⟨_, rfl⟩ (.cons ⟨_, rfl⟩ (.cons ⟨_, rfl⟩ (.cons ⟨_, rfl⟩ (.cons ⟨_, rfl⟩ (.cons ⟨_, rfl⟩ (.cons ⟨_, rfl⟩ (.cons ⟨_, rfl⟩ .nil)))))))))⟩, PySem.W.mg_none_of X G b_any, PySem.W.mg_none_of X G b_enumerate, PySem.W.mg_none_of X G b_len, PySem.W.mg_none_of X G b_list, PySem.W.mg_none_of X G b_max, PySem.W.mg_none_of X G b_min, PySem.W.mg_none_of X G b_ord, PySem.W.mg_none_of X G b_range, PySem.W.mg_none_of X G b_sorted, PySem.W.mg_none_of X G b_str, PySem.W.mg_none_of X G b_sum, PySem.W.mg_none_of X G b_zip⟩
  have CL_Light : Cl_Light K (ad "Light") := ⟨⟨pg_Light, hd_Light, po_Light, sa_Light⟩, n_Light_place, n_Light_reach, n_Light_phases, n_Light_sectors, n_Light_shadows⟩
  have CL_Chart : Cl_Chart K (ad "Chart") := ⟨⟨pg_Chart, hd_Chart, po_Chart, sa_Chart⟩, n_Chart_lights, n_Chart_coasts⟩
  have F_is_place := fun_mk (st := s_is_place) l_is_place c_is_place k_is_place
  have bi_is_place := F_is_place.binds (ps := ["place"]) fun _ _ _ _ _ _ us hl => match us, hl with | [_], _ => rfl
  have F_by_rows := fun_mk (st := s_by_rows) l_by_rows c_by_rows k_by_rows
  have bi_by_rows := F_by_rows.binds (ps := ["place"]) fun _ _ _ _ _ _ us hl => match us, hl with | [_], _ => rfl
  have F_way_between := fun_mk (st := s_way_between) l_way_between c_way_between k_way_between
  have bi_way_between := F_way_between.binds (ps := ["start", "end"]) fun _ _ _ _ _ _ us hl => match us, hl with | [_, _], _ => rfl
  have F_square_of_length := fun_mk (st := s_square_of_length) l_square_of_length c_square_of_length k_square_of_length
  have bi_square_of_length := F_square_of_length.binds (ps := ["way"]) fun _ _ _ _ _ _ us hl => match us, hl with | [_], _ => rfl
  have F_turn_between := fun_mk (st := s_turn_between) l_turn_between c_turn_between k_turn_between
  have bi_turn_between := F_turn_between.binds (ps := ["first", "second"]) fun _ _ _ _ _ _ us hl => match us, hl with | [_, _], _ => rfl
  have F_is_direction := fun_mk (st := s_is_direction) l_is_direction c_is_direction k_is_direction
  have bi_is_direction := F_is_direction.binds (ps := ["x", "y"]) fun _ _ _ _ _ _ us hl => match us, hl with | [_, _], _ => rfl
  have F_half_of_turn := fun_mk (st := s_half_of_turn) l_half_of_turn c_half_of_turn k_half_of_turn
  have bi_half_of_turn := F_half_of_turn.binds (ps := ["way"]) fun _ _ _ _ _ _ us hl => match us, hl with | [_], _ => rfl
  have F_is_before := fun_mk (st := s_is_before) l_is_before c_is_before k_is_before
  have bi_is_before := F_is_before.binds (ps := ["first", "second"]) fun _ _ _ _ _ _ us hl => match us, hl with | [_, _], _ => rfl
  have F_is_next_sector := fun_mk (st := s_is_next_sector) l_is_next_sector c_is_next_sector k_is_next_sector
  have bi_is_next_sector := F_is_next_sector.binds (ps := ["sectors", "x", "y", "colour"]) fun _ _ _ _ _ _ us hl => match us, hl with | [_, _, _, _], _ => rfl
  have F_read_sectors := fun_mk (st := s_read_sectors) l_read_sectors c_read_sectors k_read_sectors
  have bi_read_sectors := F_read_sectors.binds (ps := ["numbers"]) fun _ _ _ _ _ _ us hl => match us, hl with | [_], _ => rfl
  have F_colour_towards := fun_mk (st := s_colour_towards) l_colour_towards c_colour_towards k_colour_towards
  have bi_colour_towards := F_colour_towards.binds (ps := ["sectors", "way"]) fun _ _ _ _ _ _ us hl => match us, hl with | [_, _], _ => rfl
  have F_is_field := fun_mk (st := s_is_field) l_is_field c_is_field k_is_field
  have bi_is_field := F_is_field.binds (ps := ["corner", "opposite"]) fun _ _ _ _ _ _ us hl => match us, hl with | [_, _], _ => rfl
  have F_is_track := fun_mk (st := s_is_track) l_is_track c_is_track k_is_track
  have bi_is_track := F_is_track.binds (ps := ["start", "step", "count"]) fun _ _ _ _ _ _ us hl => match us, hl with | [_, _, _], _ => rfl
  have F_read_pairs := fun_mk (st := s_read_pairs) l_read_pairs c_read_pairs k_read_pairs
  have bi_read_pairs := F_read_pairs.binds (ps := ["told"]) fun _ _ _ _ _ _ us hl => match us, hl with | [_], _ => rfl
  have F_border_along := fun_mk (st := s_border_along) l_border_along c_border_along k_border_along
  have bi_border_along := F_border_along.binds (ps := ["start", "way"]) fun _ _ _ _ _ _ us hl => match us, hl with | [_, _], _ => rfl
  have F_shadow_in_line := fun_mk (st := s_shadow_in_line) l_shadow_in_line c_shadow_in_line k_shadow_in_line
  have bi_shadow_in_line := F_shadow_in_line.binds (ps := ["light", "coast"]) fun _ _ _ _ _ _ us hl => match us, hl with | [_, _], _ => rfl
  have F_shadow_of := fun_mk (st := s_shadow_of) l_shadow_of c_shadow_of k_shadow_of
  have bi_shadow_of := F_shadow_of.binds (ps := ["light", "coast"]) fun _ _ _ _ _ _ us hl => match us, hl with | [_, _], _ => rfl
  have F_numbers_within := fun_mk (st := s_numbers_within) l_numbers_within c_numbers_within k_numbers_within
  have bi_numbers_within := F_numbers_within.binds (ps := ["shadow", "walk"]) fun _ _ _ _ _ _ us hl => match us, hl with | [_, _], _ => rfl
  have F_hidden_on := fun_mk (st := s_hidden_on) l_hidden_on c_hidden_on k_hidden_on
  have bi_hidden_on := F_hidden_on.binds (ps := ["shadows", "walk"]) fun _ _ _ _ _ _ us hl => match us, hl with | [_, _], _ => rfl
  have F_split_text := fun_mk (st := s_split_text) l_split_text c_split_text k_split_text
  have bi_split_text := F_split_text.binds (ps := ["text"]) fun _ _ _ _ _ _ us hl => match us, hl with | [_], _ => rfl
  have F_read_tenths := fun_mk (st := s_read_tenths) l_read_tenths c_read_tenths k_read_tenths
  have bi_read_tenths := F_read_tenths.binds (ps := ["digits"]) fun _ _ _ _ _ _ us hl => match us, hl with | [_], _ => rfl
  have F_read_phase := fun_mk (st := s_read_phase) l_read_phase c_read_phase k_read_phase
  have bi_read_phase := F_read_phase.binds (ps := ["part"]) fun _ _ _ _ _ _ us hl => match us, hl with | [_], _ => rfl
  have F_read_rhythm := fun_mk (st := s_read_rhythm) l_read_rhythm c_read_rhythm k_read_rhythm
  have bi_read_rhythm := F_read_rhythm.binds (ps := ["text"]) fun _ _ _ _ _ _ us hl => match us, hl with | [_], _ => rfl
  have F_is_white_and_dark := fun_mk (st := s_is_white_and_dark) l_is_white_and_dark c_is_white_and_dark k_is_white_and_dark
  have bi_is_white_and_dark := F_is_white_and_dark.binds (ps := ["phases"]) fun _ _ _ _ _ _ us hl => match us, hl with | [_], _ => rfl
  have F_colour_byte_at := fun_mk (st := s_colour_byte_at) l_colour_byte_at c_colour_byte_at k_colour_byte_at
  have bi_colour_byte_at := F_colour_byte_at.binds (ps := ["phases", "moment"]) fun _ _ _ _ _ _ us hl => match us, hl with | [_, _], _ => rfl
  have F_write_rhythm := fun_mk (st := s_write_rhythm) l_write_rhythm c_write_rhythm k_write_rhythm
  have bi_write_rhythm := F_write_rhythm.binds (ps := ["phases", "shown"]) fun _ _ _ _ _ _ us hl => match us, hl with | [_, _], _ => rfl
  have F_places_on := fun_mk (st := s_places_on) l_places_on c_places_on k_places_on
  have bi_places_on := F_places_on.binds (ps := ["walk"]) fun _ _ _ _ _ _ us hl => match us, hl with | [_], _ => rfl
  have F_places_over := fun_mk (st := s_places_over) l_places_over c_places_over k_places_over
  have bi_places_over := F_places_over.binds (ps := ["walks"]) fun _ _ _ _ _ _ us hl => match us, hl with | [_], _ => rfl
  have F_walks_over := fun_mk (st := s_walks_over) l_walks_over c_walks_over k_walks_over
  have bi_walks_over := F_walks_over.binds (ps := ["corner", "opposite"]) fun _ _ _ _ _ _ us hl => match us, hl with | [_, _], _ => rfl
  have F_Light_init := fun_mk (st := s_Light_init) l_Light_init c_Light_init k_Light_init
  have bi_Light_init := F_Light_init.binds (ps := ["self", "place", "reach", "phases", "sectors", "coasts"]) fun _ _ _ _ _ _ us hl => match us, hl with | [_, _, _, _, _, _], _ => rfl
  have F_Light_hide_behind := fun_mk (st := s_Light_hide_behind) l_Light_hide_behind c_Light_hide_behind k_Light_hide_behind
  have bi_Light_hide_behind := F_Light_hide_behind.binds (ps := ["self", "coast"]) fun _ _ _ _ _ _ us hl => match us, hl with | [_, _], _ => rfl
  have F_Light_colour_shown := fun_mk (st := s_Light_colour_shown) l_Light_colour_shown c_Light_colour_shown k_Light_colour_shown
  have bi_Light_colour_shown := F_Light_colour_shown.binds (ps := ["self", "place"]) fun _ _ _ _ _ _ us hl => match us, hl with | [_, _], _ => rfl
  have F_Light_colours_on := fun_mk (st := s_Light_colours_on) l_Light_colours_on c_Light_colours_on k_Light_colours_on
  have bi_Light_colours_on := F_Light_colours_on.binds (ps := ["self", "walk"]) fun _ _ _ _ _ _ us hl => match us, hl with | [_, _], _ => rfl
  have F_Light_colours_over := fun_mk (st := s_Light_colours_over) l_Light_colours_over c_Light_colours_over k_Light_colours_over
  have bi_Light_colours_over := F_Light_colours_over.binds (ps := ["self", "walks"]) fun _ _ _ _ _ _ us hl => match us, hl with | [_, _], _ => rfl
  have F_Light_colour_seen := fun_mk (st := s_Light_colour_seen) l_Light_colour_seen c_Light_colour_seen k_Light_colour_seen
  have bi_Light_colour_seen := F_Light_colour_seen.binds (ps := ["self", "place"]) fun _ _ _ _ _ _ us hl => match us, hl with | [_, _], _ => rfl
  have F_Light_is_on := fun_mk (st := s_Light_is_on) l_Light_is_on c_Light_is_on k_Light_is_on
  have bi_Light_is_on := F_Light_is_on.binds (ps := ["self", "moment"]) fun _ _ _ _ _ _ us hl => match us, hl with | [_, _], _ => rfl
  have F_Chart_init := fun_mk (st := s_Chart_init) l_Chart_init c_Chart_init k_Chart_init
  have bi_Chart_init := F_Chart_init.binds (ps := ["self"]) fun _ _ _ _ _ _ us hl => match us, hl with | [_], _ => rfl
  have F_Chart_light := fun_mk (st := s_Chart_light) l_Chart_light c_Chart_light k_Chart_light
  have bi_Chart_light := F_Chart_light.binds (ps := ["self", "x", "y", "reach", "text", "numbers"]) fun _ _ _ _ _ _ us hl => match us, hl with | [_, _, _, _, _, _], _ => rfl
  have F_Chart_coast := fun_mk (st := s_Chart_coast) l_Chart_coast c_Chart_coast k_Chart_coast
  have bi_Chart_coast := F_Chart_coast.binds (ps := ["self", "x", "y", "u", "v"]) fun _ _ _ _ _ _ us hl => match us, hl with | [_, _, _, _, _], _ => rfl
  have F_Chart_seen := fun_mk (st := s_Chart_seen) l_Chart_seen c_Chart_seen k_Chart_seen
  have bi_Chart_seen := F_Chart_seen.binds (ps := ["self", "x", "y"]) fun _ _ _ _ _ _ us hl => match us, hl with | [_, _, _], _ => rfl
  have F_Chart_at := fun_mk (st := s_Chart_at) l_Chart_at c_Chart_at k_Chart_at
  have bi_Chart_at := F_Chart_at.binds (ps := ["self", "moment", "x", "y"]) fun _ _ _ _ _ _ us hl => match us, hl with | [_, _, _, _], _ => rfl
  have F_Chart_rhythm := fun_mk (st := s_Chart_rhythm) l_Chart_rhythm c_Chart_rhythm k_Chart_rhythm
  have bi_Chart_rhythm := F_Chart_rhythm.binds (ps := ["self", "number", "x", "y"]) fun _ _ _ _ _ _ us hl => match us, hl with | [_, _, _, _], _ => rfl
  have F_Chart_where := fun_mk (st := s_Chart_where) l_Chart_where c_Chart_where k_Chart_where
  have bi_Chart_where := F_Chart_where.binds (ps := ["self", "x", "y", "u", "v", "told"]) fun _ _ _ _ _ _ us hl => match us, hl with | [_, _, _, _, _, _], _ => rfl
  have F_Chart_track := fun_mk (st := s_Chart_track) l_Chart_track c_Chart_track k_Chart_track
  have bi_Chart_track := F_Chart_track.binds (ps := ["self", "x", "y", "u", "v", "n"]) fun _ _ _ _ _ _ us hl => match us, hl with | [_, _, _, _, _, _], _ => rfl
  have F_Chart_tell := fun_mk (st := s_Chart_tell) l_Chart_tell c_Chart_tell k_Chart_tell
  have bi_Chart_tell := F_Chart_tell.binds (ps := ["self", "x", "y", "u", "v", "told"]) fun _ _ _ _ _ _ us hl => match us, hl with | [_, _, _, _, _, _], _ => rfl
  have F_Chart_begin_anew := fun_mk (st := s_Chart_begin_anew) l_Chart_begin_anew c_Chart_begin_anew k_Chart_begin_anew
  have bi_Chart_begin_anew := F_Chart_begin_anew.binds (ps := ["self"]) fun _ _ _ _ _ _ us hl => match us, hl with | [_], _ => rfl
  have F_Chart_lights_seen := fun_mk (st := s_Chart_lights_seen) l_Chart_lights_seen c_Chart_lights_seen k_Chart_lights_seen
  have bi_Chart_lights_seen := F_Chart_lights_seen.binds (ps := ["self", "place"]) fun _ _ _ _ _ _ us hl => match us, hl with | [_, _], _ => rfl
  have F_Chart_look_over := fun_mk (st := s_Chart_look_over) l_Chart_look_over c_Chart_look_over k_Chart_look_over
  have bi_Chart_look_over := F_Chart_look_over.binds (ps := ["self", "corner", "opposite", "told"]) fun _ _ _ _ _ _ us hl => match us, hl with | [_, _, _, _], _ => rfl
  have F_Chart_spots_left := fun_mk (st := s_Chart_spots_left) l_Chart_spots_left c_Chart_spots_left k_Chart_spots_left
  have bi_Chart_spots_left := F_Chart_spots_left.binds (ps := ["self", "walks", "pairs"]) fun _ _ _ _ _ _ us hl => match us, hl with | [_, _, _], _ => rfl
  have F_Chart_changes_on := fun_mk (st := s_Chart_changes_on) l_Chart_changes_on c_Chart_changes_on k_Chart_changes_on
  have bi_Chart_changes_on := F_Chart_changes_on.binds (ps := ["self", "walk"]) fun _ _ _ _ _ _ us hl => match us, hl with | [_, _], _ => rfl
  have F_tell_rows := fun_mk (st := s_tell_rows) l_tell_rows c_tell_rows k_tell_rows
  have bi_tell_rows := F_tell_rows.binds (ps := ["rows"]) fun _ _ _ _ _ _ us hl => match us, hl with | [_], _ => rfl
  have F_count_colours := fun_mk (st := s_count_colours) l_count_colours c_count_colours k_count_colours
  have bi_count_colours := F_count_colours.binds (ps := ["colours", "spots"]) fun _ _ _ _ _ _ us hl => match us, hl with | [_, _], _ => rfl
  have F_number_of_least_greatest := fun_mk (st := s_number_of_least_greatest) l_number_of_least_greatest c_number_of_least_greatest k_number_of_least_greatest
  have bi_number_of_least_greatest := F_number_of_least_greatest.binds (ps := ["counted"]) fun _ _ _ _ _ _ us hl => match us, hl with | [_], _ => rfl
  have F_answer_call := fun_mk (st := s_answer_call) l_answer_call c_answer_call k_answer_call
  have bi_answer_call := F_answer_call.binds (ps := ["chart", "call", "numbers", "lists"]) fun _ _ _ _ _ _ us hl => match us, hl with | [_, _, _, _], _ => rfl
  have F_read_lists := fun_mk (st := s_read_lists) l_read_lists c_read_lists k_read_lists
  have bi_read_lists := F_read_lists.binds (ps := ["calls", "count", "start"]) fun _ _ _ _ _ _ us hl => match us, hl with | [_, _, _], _ => rfl
  have F_answers := fun_mk (st := s_answers) l_answers c_answers k_answers
  refine ⟨PySem.W.fnOf "answers" "answers" (defArgs s_answers) (defBody s_answers) (defScope s_answers) .none kV_answers dc_answers pm_answers an_answers cd_answers ct_answers, fun s us hu => match us, hu with | [_], _ => .of_eq rfl, fun base _ _ => ?_⟩
  have MK_Chart : Dk P w K mg base "Chart" (ad "Chart") 1 ["self"] (sp_Chart_init K ad) := ⟨_, _, PySem.W.mg_of X G ac_Chart, ⟨mk_Chart, a_Chart_init, i_Chart_init, kc_Chart⟩, bi_Chart_init, ok_Chart_init CL_Chart F_Chart_init⟩
  have D_read_lists : Df P w K mg base "read_lists" 1 ["calls", "count", "start"] (sp_read_lists K) := ⟨_, _, PySem.W.mg_of X G a_read_lists, k_read_lists, bi_read_lists, ok_read_lists T F_read_lists⟩
  have D_is_direction : Df P w K mg base "is_direction" 1 ["x", "y"] sp_is_direction := ⟨_, _, PySem.W.mg_of X G a_is_direction, k_is_direction, bi_is_direction, ok_is_direction T F_is_direction⟩
  have D_half_of_turn : Df P w K mg base "half_of_turn" 1 ["way"] sp_half_of_turn := ⟨_, _, PySem.W.mg_of X G a_half_of_turn, k_half_of_turn, bi_half_of_turn, ok_half_of_turn F_half_of_turn⟩
  have D_turn_between : Df P w K mg base "turn_between" 1 ["first", "second"] sp_turn_between := ⟨_, _, PySem.W.mg_of X G a_turn_between, k_turn_between, bi_turn_between, ok_turn_between F_turn_between⟩
  have D_is_before : Df P w K mg base "is_before" 2 ["first", "second"] sp_is_before := ⟨_, _, PySem.W.mg_of X G a_is_before, k_is_before, bi_is_before, ok_is_before D_half_of_turn D_turn_between F_is_before⟩
  have D_is_next_sector : Df P w K mg base "is_next_sector" 3 ["sectors", "x", "y", "colour"] sp_is_next_sector := ⟨_, _, PySem.W.mg_of X G a_is_next_sector, k_is_next_sector, bi_is_next_sector, ok_is_next_sector T D_is_direction D_is_before F_is_next_sector⟩
  have D_read_sectors : Df P w K mg base "read_sectors" 4 ["numbers"] sp_read_sectors := ⟨_, _, PySem.W.mg_of X G a_read_sectors, k_read_sectors, bi_read_sectors, ok_read_sectors T D_is_next_sector F_read_sectors⟩
  have D_is_place : Df P w K mg base "is_place" 1 ["place"] sp_is_place := ⟨_, _, PySem.W.mg_of X G a_is_place, k_is_place, bi_is_place, ok_is_place T F_is_place⟩
  have D_split_text : Df P w K mg base "split_text" 1 ["text"] sp_split_text := ⟨_, _, PySem.W.mg_of X G a_split_text, k_split_text, bi_split_text, ok_split_text T F_split_text⟩
  have D_read_tenths : Df P w K mg base "read_tenths" 1 ["digits"] sp_read_tenths := ⟨_, _, PySem.W.mg_of X G a_read_tenths, k_read_tenths, bi_read_tenths, ok_read_tenths T F_read_tenths⟩
  have D_read_phase : Df P w K mg base "read_phase" 2 ["part"] sp_read_phase := ⟨_, _, PySem.W.mg_of X G a_read_phase, k_read_phase, bi_read_phase, ok_read_phase T D_read_tenths F_read_phase⟩
  have D_read_rhythm : Df P w K mg base "read_rhythm" 3 ["text"] sp_read_rhythm := ⟨_, _, PySem.W.mg_of X G a_read_rhythm, k_read_rhythm, bi_read_rhythm, ok_read_rhythm T D_split_text D_read_phase F_read_rhythm⟩
  have D_is_white_and_dark : Df P w K mg base "is_white_and_dark" 1 ["phases"] sp_is_white_and_dark := ⟨_, _, PySem.W.mg_of X G a_is_white_and_dark, k_is_white_and_dark, bi_is_white_and_dark, ok_is_white_and_dark T F_is_white_and_dark⟩
  have D_way_between : Df P w K mg base "way_between" 1 ["start", "end"] sp_way_between := ⟨_, _, PySem.W.mg_of X G a_way_between, k_way_between, bi_way_between, ok_way_between F_way_between⟩
  have D_border_along : Df P w K mg base "border_along" 2 ["start", "way"] sp_border_along := ⟨_, _, PySem.W.mg_of X G a_border_along, k_border_along, bi_border_along, ok_border_along D_turn_between F_border_along⟩
  have D_square_of_length : Df P w K mg base "square_of_length" 1 ["way"] sp_square_of_length := ⟨_, _, PySem.W.mg_of X G a_square_of_length, k_square_of_length, bi_square_of_length, ok_square_of_length F_square_of_length⟩
  have D_shadow_in_line : Df P w K mg base "shadow_in_line" 3 ["light", "coast"] sp_shadow_in_line := ⟨_, _, PySem.W.mg_of X G a_shadow_in_line, k_shadow_in_line, bi_shadow_in_line, ok_shadow_in_line D_way_between D_square_of_length D_border_along F_shadow_in_line⟩
  have D_shadow_of : Df P w K mg base "shadow_of" 4 ["light", "coast"] sp_shadow_of := ⟨_, _, PySem.W.mg_of X G a_shadow_of, k_shadow_of, bi_shadow_of, ok_shadow_of D_way_between D_turn_between D_border_along D_shadow_in_line F_shadow_of⟩
  have MK_Light : Dk P w K mg base "Light" (ad "Light") 5 ["self", "place", "reach", "phases", "sectors", "coasts"] (sp_Light_init K ad) := ⟨_, _, PySem.W.mg_of X G ac_Light, ⟨mk_Light, a_Light_init, i_Light_init, kc_Light⟩, bi_Light_init, ok_Light_init CL_Light D_shadow_of F_Light_init⟩
  have DM_Chart_light : Dm P w K mg base (ad "Chart") "light" 7 ["self", "x", "y", "reach", "text", "numbers"] (sp_Chart_light K ad) := ⟨CL_Chart.cl, _, _, ⟨a_Chart_light, i_Chart_light, k_Chart_light⟩, bi_Chart_light, ok_Chart_light T CL_Chart D_read_sectors D_is_place D_read_rhythm D_is_white_and_dark MK_Light F_Chart_light⟩
  have DM_Light_hide_behind : Dm P w K mg base (ad "Light") "hide_behind" 5 ["self", "coast"] (sp_Light_hide_behind K ad) := ⟨CL_Light.cl, _, _, ⟨a_Light_hide_behind, i_Light_hide_behind, k_Light_hide_behind⟩, bi_Light_hide_behind, ok_Light_hide_behind CL_Light D_shadow_of F_Light_hide_behind⟩
  have DM_Chart_coast : Dm P w K mg base (ad "Chart") "coast" 6 ["self", "x", "y", "u", "v"] (sp_Chart_coast K ad) := ⟨CL_Chart.cl, _, _, ⟨a_Chart_coast, i_Chart_coast, k_Chart_coast⟩, bi_Chart_coast, ok_Chart_coast T CL_Chart D_is_place DM_Light_hide_behind F_Chart_coast⟩
  have D_numbers_within : Df P w K mg base "numbers_within" 1 ["shadow", "walk"] sp_numbers_within := ⟨_, _, PySem.W.mg_of X G a_numbers_within, k_numbers_within, bi_numbers_within, ok_numbers_within T F_numbers_within⟩
  have D_hidden_on : Df P w K mg base "hidden_on" 2 ["shadows", "walk"] sp_hidden_on := ⟨_, _, PySem.W.mg_of X G a_hidden_on, k_hidden_on, bi_hidden_on, ok_hidden_on T D_numbers_within F_hidden_on⟩
  have D_places_on : Df P w K mg base "places_on" 1 ["walk"] sp_places_on := ⟨_, _, PySem.W.mg_of X G a_places_on, k_places_on, bi_places_on, ok_places_on T F_places_on⟩
  have D_colour_towards : Df P w K mg base "colour_towards" 3 ["sectors", "way"] sp_colour_towards := ⟨_, _, PySem.W.mg_of X G a_colour_towards, k_colour_towards, bi_colour_towards, ok_colour_towards D_is_before F_colour_towards⟩
  have DM_Light_colour_shown : Dm P w K mg base (ad "Light") "colour_shown" 4 ["self", "place"] (sp_Light_colour_shown K ad) := ⟨CL_Light.cl, _, _, ⟨a_Light_colour_shown, i_Light_colour_shown, k_Light_colour_shown⟩, bi_Light_colour_shown, ok_Light_colour_shown T CL_Light D_way_between D_square_of_length D_colour_towards F_Light_colour_shown⟩
  have DM_Light_colours_on : Dm P w K mg base (ad "Light") "colours_on" 5 ["self", "walk"] (sp_Light_colours_on K ad) := ⟨CL_Light.cl, _, _, ⟨a_Light_colours_on, i_Light_colours_on, k_Light_colours_on⟩, bi_Light_colours_on, ok_Light_colours_on T CL_Light D_hidden_on D_places_on DM_Light_colour_shown F_Light_colours_on⟩
  have DM_Light_colour_seen : Dm P w K mg base (ad "Light") "colour_seen" 6 ["self", "place"] (sp_Light_colour_seen K ad) := ⟨CL_Light.cl, _, _, ⟨a_Light_colour_seen, i_Light_colour_seen, k_Light_colour_seen⟩, bi_Light_colour_seen, ok_Light_colour_seen DM_Light_colours_on F_Light_colour_seen⟩
  have DM_Chart_lights_seen : Dm P w K mg base (ad "Chart") "lights_seen" 7 ["self", "place"] (sp_Chart_lights_seen K ad) := ⟨CL_Chart.cl, _, _, ⟨a_Chart_lights_seen, i_Chart_lights_seen, k_Chart_lights_seen⟩, bi_Chart_lights_seen, ok_Chart_lights_seen T CL_Chart DM_Light_colour_seen F_Chart_lights_seen⟩
  have D_tell_rows : Df P w K mg base "tell_rows" 1 ["rows"] sp_tell_rows := ⟨_, _, PySem.W.mg_of X G a_tell_rows, k_tell_rows, bi_tell_rows, ok_tell_rows T F_tell_rows⟩
  have DM_Chart_seen : Dm P w K mg base (ad "Chart") "seen" 8 ["self", "x", "y"] (sp_Chart_seen K ad) := ⟨CL_Chart.cl, _, _, ⟨a_Chart_seen, i_Chart_seen, k_Chart_seen⟩, bi_Chart_seen, ok_Chart_seen D_is_place DM_Chart_lights_seen D_tell_rows F_Chart_seen⟩
  have D_colour_byte_at : Df P w K mg base "colour_byte_at" 1 ["phases", "moment"] sp_colour_byte_at := ⟨_, _, PySem.W.mg_of X G a_colour_byte_at, k_colour_byte_at, bi_colour_byte_at, ok_colour_byte_at T F_colour_byte_at⟩
  have DM_Light_is_on : Dm P w K mg base (ad "Light") "is_on" 2 ["self", "moment"] (sp_Light_is_on K ad) := ⟨CL_Light.cl, _, _, ⟨a_Light_is_on, i_Light_is_on, k_Light_is_on⟩, bi_Light_is_on, ok_Light_is_on T CL_Light D_colour_byte_at F_Light_is_on⟩
  have DM_Chart_at : Dm P w K mg base (ad "Chart") "at" 8 ["self", "moment", "x", "y"] (sp_Chart_at K ad) := ⟨CL_Chart.cl, _, _, ⟨a_Chart_at, i_Chart_at, k_Chart_at⟩, bi_Chart_at, ok_Chart_at T CL_Chart D_is_place DM_Chart_lights_seen D_tell_rows DM_Light_is_on F_Chart_at⟩
  have D_write_rhythm : Df P w K mg base "write_rhythm" 1 ["phases", "shown"] sp_write_rhythm := ⟨_, _, PySem.W.mg_of X G a_write_rhythm, k_write_rhythm, bi_write_rhythm, ok_write_rhythm T F_write_rhythm⟩
  have DM_Chart_rhythm : Dm P w K mg base (ad "Chart") "rhythm" 7 ["self", "number", "x", "y"] (sp_Chart_rhythm K ad) := ⟨CL_Chart.cl, _, _, ⟨a_Chart_rhythm, i_Chart_rhythm, k_Chart_rhythm⟩, bi_Chart_rhythm, ok_Chart_rhythm T CL_Chart CL_Light D_is_place DM_Light_colour_seen D_write_rhythm F_Chart_rhythm⟩
  have D_by_rows : Df P w K mg base "by_rows" 1 ["place"] sp_by_rows := ⟨_, _, PySem.W.mg_of X G a_by_rows, k_by_rows, bi_by_rows, ok_by_rows F_by_rows⟩
  have D_places_over : Df P w K mg base "places_over" 2 ["walks"] sp_places_over := ⟨_, _, PySem.W.mg_of X G a_places_over, k_places_over, bi_places_over, ok_places_over D_places_on F_places_over⟩
  have D_read_pairs : Df P w K mg base "read_pairs" 1 ["told"] sp_read_pairs := ⟨_, _, PySem.W.mg_of X G a_read_pairs, k_read_pairs, bi_read_pairs, ok_read_pairs T F_read_pairs⟩
  have D_is_field : Df P w K mg base "is_field" 2 ["corner", "opposite"] sp_is_field := ⟨_, _, PySem.W.mg_of X G a_is_field, k_is_field, bi_is_field, ok_is_field T D_is_place F_is_field⟩
  have D_walks_over : Df P w K mg base "walks_over" 1 ["corner", "opposite"] sp_walks_over := ⟨_, _, PySem.W.mg_of X G a_walks_over, k_walks_over, bi_walks_over, ok_walks_over T F_walks_over⟩
  have DM_Light_colours_over : Dm P w K mg base (ad "Light") "colours_over" 6 ["self", "walks"] (sp_Light_colours_over K ad) := ⟨CL_Light.cl, _, _, ⟨a_Light_colours_over, i_Light_colours_over, k_Light_colours_over⟩, bi_Light_colours_over, ok_Light_colours_over DM_Light_colours_on F_Light_colours_over⟩
  have DM_Chart_spots_left : Dm P w K mg base (ad "Chart") "spots_left" 7 ["self", "walks", "pairs"] (sp_Chart_spots_left K ad) := ⟨CL_Chart.cl, _, _, ⟨a_Chart_spots_left, i_Chart_spots_left, k_Chart_spots_left⟩, bi_Chart_spots_left, ok_Chart_spots_left T CL_Chart D_places_over DM_Light_colours_over F_Chart_spots_left⟩
  have DM_Chart_look_over : Dm P w K mg base (ad "Chart") "look_over" 8 ["self", "corner", "opposite", "told"] (sp_Chart_look_over K ad) := ⟨CL_Chart.cl, _, _, ⟨a_Chart_look_over, i_Chart_look_over, k_Chart_look_over⟩, bi_Chart_look_over, ok_Chart_look_over T CL_Chart D_read_pairs D_is_field D_walks_over DM_Chart_spots_left F_Chart_look_over⟩
  have DM_Chart_where : Dm P w K mg base (ad "Chart") "where" 9 ["self", "x", "y", "u", "v", "told"] (sp_Chart_where K ad) := ⟨CL_Chart.cl, _, _, ⟨a_Chart_where, i_Chart_where, k_Chart_where⟩, bi_Chart_where, ok_Chart_where T D_by_rows D_places_over DM_Chart_look_over F_Chart_where⟩
  have D_is_track : Df P w K mg base "is_track" 2 ["start", "step", "count"] sp_is_track := ⟨_, _, PySem.W.mg_of X G a_is_track, k_is_track, bi_is_track, ok_is_track T D_is_place F_is_track⟩
  have DM_Chart_changes_on : Dm P w K mg base (ad "Chart") "changes_on" 6 ["self", "walk"] (sp_Chart_changes_on K ad) := ⟨CL_Chart.cl, _, _, ⟨a_Chart_changes_on, i_Chart_changes_on, k_Chart_changes_on⟩, bi_Chart_changes_on, ok_Chart_changes_on T CL_Chart DM_Light_colours_on F_Chart_changes_on⟩
  have DM_Chart_track : Dm P w K mg base (ad "Chart") "track" 7 ["self", "x", "y", "u", "v", "n"] (sp_Chart_track K ad) := ⟨CL_Chart.cl, _, _, ⟨a_Chart_track, i_Chart_track, k_Chart_track⟩, bi_Chart_track, ok_Chart_track D_is_track DM_Chart_changes_on D_tell_rows F_Chart_track⟩
  have D_count_colours : Df P w K mg base "count_colours" 1 ["colours", "spots"] sp_count_colours := ⟨_, _, PySem.W.mg_of X G a_count_colours, k_count_colours, bi_count_colours, ok_count_colours T F_count_colours⟩
  have D_number_of_least_greatest : Df P w K mg base "number_of_least_greatest" 1 ["counted"] sp_number_of_least_greatest := ⟨_, _, PySem.W.mg_of X G a_number_of_least_greatest, k_number_of_least_greatest, bi_number_of_least_greatest, ok_number_of_least_greatest T F_number_of_least_greatest⟩
  have DM_Chart_tell : Dm P w K mg base (ad "Chart") "tell" 9 ["self", "x", "y", "u", "v", "told"] (sp_Chart_tell K ad) := ⟨CL_Chart.cl, _, _, ⟨a_Chart_tell, i_Chart_tell, k_Chart_tell⟩, bi_Chart_tell, ok_Chart_tell T CL_Chart DM_Chart_look_over DM_Light_colours_over D_count_colours D_number_of_least_greatest F_Chart_tell⟩
  have DM_Chart_begin_anew : Dm P w K mg base (ad "Chart") "begin_anew" 1 ["self"] (sp_Chart_begin_anew K ad) := ⟨CL_Chart.cl, _, _, ⟨a_Chart_begin_anew, i_Chart_begin_anew, k_Chart_begin_anew⟩, bi_Chart_begin_anew, ok_Chart_begin_anew CL_Chart F_Chart_begin_anew⟩
  have D_answer_call : Df P w K mg base "answer_call" 10 ["chart", "call", "numbers", "lists"] (sp_answer_call ad) := ⟨_, _, PySem.W.mg_of X G a_answer_call, k_answer_call, bi_answer_call, ok_answer_call T DM_Chart_light DM_Chart_coast DM_Chart_seen DM_Chart_at DM_Chart_rhythm DM_Chart_where DM_Chart_track DM_Chart_tell DM_Chart_begin_anew F_answer_call⟩
  exact ok_answers T MK_Chart D_read_lists D_answer_call F_answers
end Bc
open PySem PySem.W PyProof.Rows
set_option maxRecDepth 100000 in
set_option maxHeartbeats 8000000 in
theorem PySem.Challenge.cw_beaconcoasts_s01_answers_holds : PySem.Challenge.rw_beaconcoasts_s01_answers.Holds := by
  w_on; k_headS; (case hw => exact ⟨[.list [.int 2, .int 0, .int 0]], by decide +kernel, by decide +kernel⟩)
  k_fillS
  refine L2.walk_specK (r := PySem.Challenge.rw_beaconcoasts_s01_answers) (k := 11) (CX := L2.CX0) (ps := ["calls"]) (sp := Bc.sp_answers) (by decide +kernel) rfl rfl ⟨rfl, by decide, by decide⟩ (fun w h Y => PySem.W.kIn_of Y) ?F ?S (fun _ _ _ _ z => z)
  case F =>
    intro w mg fa h Y KX G hmg
    refine' Bc.all_mk KX G hmg ?ac_Light ?ac_Chart ?a_is_place ?l_is_place ?c_is_place ?k_is_place ?a_by_rows ?l_by_rows ?c_by_rows ?k_by_rows ?a_way_between ?l_way_between ?c_way_between ?k_way_between ?a_square_of_length ?l_square_of_length ?c_square_of_length ?k_square_of_length ?a_turn_between ?l_turn_between ?c_turn_between ?k_turn_between ?a_is_direction ?l_is_direction ?c_is_direction ?k_is_direction ?a_half_of_turn ?l_half_of_turn ?c_half_of_turn ?k_half_of_turn ?a_is_before ?l_is_before ?c_is_before ?k_is_before ?a_is_next_sector ?l_is_next_sector ?c_is_next_sector ?k_is_next_sector ?a_read_sectors ?l_read_sectors ?c_read_sectors ?k_read_sectors ?a_colour_towards ?l_colour_towards ?c_colour_towards ?k_colour_towards ?a_is_field ?l_is_field ?c_is_field ?k_is_field ?a_is_track ?l_is_track ?c_is_track ?k_is_track ?a_read_pairs ?l_read_pairs ?c_read_pairs ?k_read_pairs ?a_border_along ?l_border_along ?c_border_along ?k_border_along ?a_shadow_in_line ?l_shadow_in_line ?c_shadow_in_line ?k_shadow_in_line ?a_shadow_of ?l_shadow_of ?c_shadow_of ?k_shadow_of ?a_numbers_within ?l_numbers_within ?c_numbers_within ?k_numbers_within ?a_hidden_on ?l_hidden_on ?c_hidden_on ?k_hidden_on ?a_split_text ?l_split_text ?c_split_text ?k_split_text ?a_read_tenths ?l_read_tenths ?c_read_tenths ?k_read_tenths ?a_read_phase ?l_read_phase ?c_read_phase ?k_read_phase ?a_read_rhythm ?l_read_rhythm ?c_read_rhythm ?k_read_rhythm ?a_is_white_and_dark ?l_is_white_and_dark ?c_is_white_and_dark ?k_is_white_and_dark ?a_colour_byte_at ?l_colour_byte_at ?c_colour_byte_at ?k_colour_byte_at ?a_write_rhythm ?l_write_rhythm ?c_write_rhythm ?k_write_rhythm ?a_places_on ?l_places_on ?c_places_on ?k_places_on ?a_places_over ?l_places_over ?c_places_over ?k_places_over ?a_walks_over ?l_walks_over ?c_walks_over ?k_walks_over ?a_Light_init ?i_Light_init ?l_Light_init ?c_Light_init ?k_Light_init ?a_Light_hide_behind ?i_Light_hide_behind ?l_Light_hide_behind ?c_Light_hide_behind ?k_Light_hide_behind ?a_Light_colour_shown ?i_Light_colour_shown ?l_Light_colour_shown ?c_Light_colour_shown ?k_Light_colour_shown ?a_Light_colours_on ?i_Light_colours_on ?l_Light_colours_on ?c_Light_colours_on ?k_Light_colours_on ?a_Light_colours_over ?i_Light_colours_over ?l_Light_colours_over ?c_Light_colours_over ?k_Light_colours_over ?a_Light_colour_seen ?i_Light_colour_seen ?l_Light_colour_seen ?c_Light_colour_seen ?k_Light_colour_seen ?a_Light_is_on ?i_Light_is_on ?l_Light_is_on ?c_Light_is_on ?k_Light_is_on ?a_Chart_init ?i_Chart_init ?l_Chart_init ?c_Chart_init ?k_Chart_init ?a_Chart_light ?i_Chart_light ?l_Chart_light ?c_Chart_light ?k_Chart_light ?a_Chart_coast ?i_Chart_coast ?l_Chart_coast ?c_Chart_coast ?k_Chart_coast ?a_Chart_seen ?i_Chart_seen ?l_Chart_seen ?c_Chart_seen ?k_Chart_seen ?a_Chart_at ?i_Chart_at ?l_Chart_at ?c_Chart_at ?k_Chart_at ?a_Chart_rhythm ?i_Chart_rhythm ?l_Chart_rhythm ?c_Chart_rhythm ?k_Chart_rhythm ?a_Chart_where ?i_Chart_where ?l_Chart_where ?c_Chart_where ?k_Chart_where ?a_Chart_track ?i_Chart_track ?l_Chart_track ?c_Chart_track ?k_Chart_track ?a_Chart_tell ?i_Chart_tell ?l_Chart_tell ?c_Chart_tell ?k_Chart_tell ?a_Chart_begin_anew ?i_Chart_begin_anew ?l_Chart_begin_anew ?c_Chart_begin_anew ?k_Chart_begin_anew ?a_Chart_lights_seen ?i_Chart_lights_seen ?l_Chart_lights_seen ?c_Chart_lights_seen ?k_Chart_lights_seen ?a_Chart_look_over ?i_Chart_look_over ?l_Chart_look_over ?c_Chart_look_over ?k_Chart_look_over ?a_Chart_spots_left ?i_Chart_spots_left ?l_Chart_spots_left ?c_Chart_spots_left ?k_Chart_spots_left ?a_Chart_changes_on ?i_Chart_changes_on ?l_Chart_changes_on ?c_Chart_changes_on ?k_Chart_changes_on ?a_tell_rows ?l_tell_rows ?c_tell_rows ?k_tell_rows ?a_count_colours ?l_count_colours ?c_count_colours ?k_count_colours ?a_number_of_least_greatest ?l_number_of_least_greatest ?c_number_of_least_greatest ?k_number_of_least_greatest ?a_answer_call ?l_answer_call ?c_answer_call ?k_answer_call ?a_read_lists ?l_read_lists ?c_read_lists ?k_read_lists ?a_answers ?l_answers ?c_answers ?k_answers ?pg_Light ?hd_Light ?po_Light ?sa_Light ?mk_Light ?kc_Light ?n_Light_place ?n_Light_reach ?n_Light_phases ?n_Light_sectors ?n_Light_shadows ?pg_Chart ?hd_Chart ?po_Chart ?sa_Chart ?mk_Chart ?kc_Chart ?n_Chart_lights ?n_Chart_coasts ?g_FARTHEST ?g_NOTHING ?g_LAST_COLOUR ?g_MOST_SECTORS ?g_NUMBERS_OF_SECTOR ?g_LONGEST_DIRECTION ?g_MOST_PLACES ?g_MOST_PAIRS ?g_NUMBERS_OF_PAIR ?g_MOST_STEPS ?g_LONGEST_STEP ?g_BLANK ?g_NOUGHT ?g_NINE ?g_DARK ?g_WHITE ?g_COLOUR_BYTES ?s_COLOUR_BYTES ?g_MOST_DIGITS ?g_MOST_TENTHS ?g_MOST_PHASES ?g_MOST_TOGETHER ?g_LONGEST_REACH ?g_MOST_BYTES ?g_MOST_LIGHTS ?g_MOST_COASTS ?g_LAST_MOMENT ?g_LIGHT_CALL ?g_COAST_CALL ?g_SEEN_CALL ?g_AT_CALL ?g_RHYTHM_CALL ?g_WHERE_CALL ?g_TRACK_CALL ?g_TELL_CALL ?g_NUMBERS_OF_CALL ?s_NUMBERS_OF_CALL ?g_LISTS_OF_CALL ?s_LISTS_OF_CALL ?b_any ?b_enumerate ?b_len ?b_list ?b_max ?b_min ?b_ord ?b_range ?b_sorted ?b_str ?b_sum ?b_zip
    (case ac_Light => k_is)
    (case ac_Chart => k_is)
    (case a_is_place => k_is)
    (case l_is_place => k_is)
    (case c_is_place => k_is)
    (case k_is_place => k_is)
    (case a_by_rows => k_is)
    (case l_by_rows => k_is)
    (case c_by_rows => k_is)
    (case k_by_rows => k_is)
    (case a_way_between => k_is)
    (case l_way_between => k_is)
    (case c_way_between => k_is)
    (case k_way_between => k_is)
    (case a_square_of_length => k_is)
    (case l_square_of_length => k_is)
    (case c_square_of_length => k_is)
    (case k_square_of_length => k_is)
    (case a_turn_between => k_is)
    (case l_turn_between => k_is)
    (case c_turn_between => k_is)
    (case k_turn_between => k_is)
    (case a_is_direction => k_is)
    (case l_is_direction => k_is)
    (case c_is_direction => k_is)
    (case k_is_direction => k_is)
    (case a_half_of_turn => k_is)
    (case l_half_of_turn => k_is)
    (case c_half_of_turn => k_is)
    (case k_half_of_turn => k_is)
    (case a_is_before => k_is)
    (case l_is_before => k_is)
    (case c_is_before => k_is)
    (case k_is_before => k_is)
    (case a_is_next_sector => k_is)
    (case l_is_next_sector => k_is)
    (case c_is_next_sector => k_is)
    (case k_is_next_sector => k_is)
    (case a_read_sectors => k_is)
    (case l_read_sectors => k_is)
    (case c_read_sectors => k_is)
    (case k_read_sectors => k_is)
    (case a_colour_towards => k_is)
    (case l_colour_towards => k_is)
    (case c_colour_towards => k_is)
    (case k_colour_towards => k_is)
    (case a_is_field => k_is)
    (case l_is_field => k_is)
    (case c_is_field => k_is)
    (case k_is_field => k_is)
    (case a_is_track => k_is)
    (case l_is_track => k_is)
    (case c_is_track => k_is)
    (case k_is_track => k_is)
    (case a_read_pairs => k_is)
    (case l_read_pairs => k_is)
    (case c_read_pairs => k_is)
    (case k_read_pairs => k_is)
    (case a_border_along => k_is)
    (case l_border_along => k_is)
    (case c_border_along => k_is)
    (case k_border_along => k_is)
    (case a_shadow_in_line => k_is)
    (case l_shadow_in_line => k_is)
    (case c_shadow_in_line => k_is)
    (case k_shadow_in_line => k_is)
    (case a_shadow_of => k_is)
    (case l_shadow_of => k_is)
    (case c_shadow_of => k_is)
    (case k_shadow_of => k_is)
    (case a_numbers_within => k_is)
    (case l_numbers_within => k_is)
    (case c_numbers_within => k_is)
    (case k_numbers_within => k_is)
    (case a_hidden_on => k_is)
    (case l_hidden_on => k_is)
    (case c_hidden_on => k_is)
    (case k_hidden_on => k_is)
    (case a_split_text => k_is)
    (case l_split_text => k_is)
    (case c_split_text => k_is)
    (case k_split_text => k_is)
    (case a_read_tenths => k_is)
    (case l_read_tenths => k_is)
    (case c_read_tenths => k_is)
    (case k_read_tenths => k_is)
    (case a_read_phase => k_is)
    (case l_read_phase => k_is)
    (case c_read_phase => k_is)
    (case k_read_phase => k_is)
    (case a_read_rhythm => k_is)
    (case l_read_rhythm => k_is)
    (case c_read_rhythm => k_is)
    (case k_read_rhythm => k_is)
    (case a_is_white_and_dark => k_is)
    (case l_is_white_and_dark => k_is)
    (case c_is_white_and_dark => k_is)
    (case k_is_white_and_dark => k_is)
    (case a_colour_byte_at => k_is)
    (case l_colour_byte_at => k_is)
    (case c_colour_byte_at => k_is)
    (case k_colour_byte_at => k_is)
    (case a_write_rhythm => k_is)
    (case l_write_rhythm => k_is)
    (case c_write_rhythm => k_is)
    (case k_write_rhythm => k_is)
    (case a_places_on => k_is)
    (case l_places_on => k_is)
    (case c_places_on => k_is)
    (case k_places_on => k_is)
    (case a_places_over => k_is)
    (case l_places_over => k_is)
    (case c_places_over => k_is)
    (case k_places_over => k_is)
    (case a_walks_over => k_is)
    (case l_walks_over => k_is)
    (case c_walks_over => k_is)
    (case k_walks_over => k_is)
    (case a_Light_init => k_is)
    (case i_Light_init => k_is)
    (case l_Light_init => k_is)
    (case c_Light_init => k_is)
    (case k_Light_init => k_is)
    (case a_Light_hide_behind => k_is)
    (case i_Light_hide_behind => k_is)
    (case l_Light_hide_behind => k_is)
    (case c_Light_hide_behind => k_is)
    (case k_Light_hide_behind => k_is)
    (case a_Light_colour_shown => k_is)
    (case i_Light_colour_shown => k_is)
    (case l_Light_colour_shown => k_is)
    (case c_Light_colour_shown => k_is)
    (case k_Light_colour_shown => k_is)
    (case a_Light_colours_on => k_is)
    (case i_Light_colours_on => k_is)
    (case l_Light_colours_on => k_is)
    (case c_Light_colours_on => k_is)
    (case k_Light_colours_on => k_is)
    (case a_Light_colours_over => k_is)
    (case i_Light_colours_over => k_is)
    (case l_Light_colours_over => k_is)
    (case c_Light_colours_over => k_is)
    (case k_Light_colours_over => k_is)
    (case a_Light_colour_seen => k_is)
    (case i_Light_colour_seen => k_is)
    (case l_Light_colour_seen => k_is)
    (case c_Light_colour_seen => k_is)
    (case k_Light_colour_seen => k_is)
    (case a_Light_is_on => k_is)
    (case i_Light_is_on => k_is)
    (case l_Light_is_on => k_is)
    (case c_Light_is_on => k_is)
    (case k_Light_is_on => k_is)
    (case a_Chart_init => k_is)
    (case i_Chart_init => k_is)
    (case l_Chart_init => k_is)
    (case c_Chart_init => k_is)
    (case k_Chart_init => k_is)
    (case a_Chart_light => k_is)
    (case i_Chart_light => k_is)
    (case l_Chart_light => k_is)
    (case c_Chart_light => k_is)
    (case k_Chart_light => k_is)
    (case a_Chart_coast => k_is)
    (case i_Chart_coast => k_is)
    (case l_Chart_coast => k_is)
    (case c_Chart_coast => k_is)
    (case k_Chart_coast => k_is)
    (case a_Chart_seen => k_is)
    (case i_Chart_seen => k_is)
    (case l_Chart_seen => k_is)
    (case c_Chart_seen => k_is)
    (case k_Chart_seen => k_is)
    (case a_Chart_at => k_is)
    (case i_Chart_at => k_is)
    (case l_Chart_at => k_is)
    (case c_Chart_at => k_is)
    (case k_Chart_at => k_is)
    (case a_Chart_rhythm => k_is)
    (case i_Chart_rhythm => k_is)
    (case l_Chart_rhythm => k_is)
    (case c_Chart_rhythm => k_is)
    (case k_Chart_rhythm => k_is)
    (case a_Chart_where => k_is)
    (case i_Chart_where => k_is)
    (case l_Chart_where => k_is)
    (case c_Chart_where => k_is)
    (case k_Chart_where => k_is)
    (case a_Chart_track => k_is)
    (case i_Chart_track => k_is)
    (case l_Chart_track => k_is)
    (case c_Chart_track => k_is)
    (case k_Chart_track => k_is)
    (case a_Chart_tell => k_is)
    (case i_Chart_tell => k_is)
    (case l_Chart_tell => k_is)
    (case c_Chart_tell => k_is)
    (case k_Chart_tell => k_is)
    (case a_Chart_begin_anew => k_is)
    (case i_Chart_begin_anew => k_is)
    (case l_Chart_begin_anew => k_is)
    (case c_Chart_begin_anew => k_is)
    (case k_Chart_begin_anew => k_is)
    (case a_Chart_lights_seen => k_is)
    (case i_Chart_lights_seen => k_is)
    (case l_Chart_lights_seen => k_is)
    (case c_Chart_lights_seen => k_is)
    (case k_Chart_lights_seen => k_is)
    (case a_Chart_look_over => k_is)
    (case i_Chart_look_over => k_is)
    (case l_Chart_look_over => k_is)
    (case c_Chart_look_over => k_is)
    (case k_Chart_look_over => k_is)
    (case a_Chart_spots_left => k_is)
    (case i_Chart_spots_left => k_is)
    (case l_Chart_spots_left => k_is)
    (case c_Chart_spots_left => k_is)
    (case k_Chart_spots_left => k_is)
    (case a_Chart_changes_on => k_is)
    (case i_Chart_changes_on => k_is)
    (case l_Chart_changes_on => k_is)
    (case c_Chart_changes_on => k_is)
    (case k_Chart_changes_on => k_is)
    (case a_tell_rows => k_is)
    (case l_tell_rows => k_is)
    (case c_tell_rows => k_is)
    (case k_tell_rows => k_is)
    (case a_count_colours => k_is)
    (case l_count_colours => k_is)
    (case c_count_colours => k_is)
    (case k_count_colours => k_is)
    (case a_number_of_least_greatest => k_is)
    (case l_number_of_least_greatest => k_is)
    (case c_number_of_least_greatest => k_is)
    (case k_number_of_least_greatest => k_is)
    (case a_answer_call => k_is)
    (case l_answer_call => k_is)
    (case c_answer_call => k_is)
    (case k_answer_call => k_is)
    (case a_read_lists => k_is)
    (case l_read_lists => k_is)
    (case c_read_lists => k_is)
    (case k_read_lists => k_is)
    (case a_answers => k_is)
    (case l_answers => k_is)
    (case c_answers => k_is)
    (case k_answers => k_is)
    (case pg_Light => k_is)
    (case hd_Light => k_is)
    (case po_Light => k_is)
    (case sa_Light => k_is)
    (case mk_Light => k_is)
    (case kc_Light => k_is)
    (case n_Light_place => k_is)
    (case n_Light_reach => k_is)
    (case n_Light_phases => k_is)
    (case n_Light_sectors => k_is)
    (case n_Light_shadows => k_is)
    (case pg_Chart => k_is)
    (case hd_Chart => k_is)
    (case po_Chart => k_is)
    (case sa_Chart => k_is)
    (case mk_Chart => k_is)
    (case kc_Chart => k_is)
    (case n_Chart_lights => k_is)
    (case n_Chart_coasts => k_is)
    (case g_FARTHEST => k_is)
    (case g_NOTHING => k_is)
    (case g_LAST_COLOUR => k_is)
    (case g_MOST_SECTORS => k_is)
    (case g_NUMBERS_OF_SECTOR => k_is)
    (case g_LONGEST_DIRECTION => k_is)
    (case g_MOST_PLACES => k_is)
    (case g_MOST_PAIRS => k_is)
    (case g_NUMBERS_OF_PAIR => k_is)
    (case g_MOST_STEPS => k_is)
    (case g_LONGEST_STEP => k_is)
    (case g_BLANK => k_is)
    (case g_NOUGHT => k_is)
    (case g_NINE => k_is)
    (case g_DARK => k_is)
    (case g_WHITE => k_is)
    (case g_COLOUR_BYTES => k_is)
    (case s_COLOUR_BYTES => k_is)
    (case g_MOST_DIGITS => k_is)
    (case g_MOST_TENTHS => k_is)
    (case g_MOST_PHASES => k_is)
    (case g_MOST_TOGETHER => k_is)
    (case g_LONGEST_REACH => k_is)
    (case g_MOST_BYTES => k_is)
    (case g_MOST_LIGHTS => k_is)
    (case g_MOST_COASTS => k_is)
    (case g_LAST_MOMENT => k_is)
    (case g_LIGHT_CALL => k_is)
    (case g_COAST_CALL => k_is)
    (case g_SEEN_CALL => k_is)
    (case g_AT_CALL => k_is)
    (case g_RHYTHM_CALL => k_is)
    (case g_WHERE_CALL => k_is)
    (case g_TRACK_CALL => k_is)
    (case g_TELL_CALL => k_is)
    (case g_NUMBERS_OF_CALL => k_is)
    (case s_NUMBERS_OF_CALL => k_is)
    (case g_LISTS_OF_CALL => k_is)
    (case s_LISTS_OF_CALL => k_is)
    (case b_any => k_is)
    (case b_enumerate => k_is)
    (case b_len => k_is)
    (case b_list => k_is)
    (case b_max => k_is)
    (case b_min => k_is)
    (case b_ord => k_is)
    (case b_range => k_is)
    (case b_sorted => k_is)
    (case b_str => k_is)
    (case b_sum => k_is)
    (case b_zip => k_is)
  case S =>
    intro K H xs a hO hwi hask hx
    cases hx with
    | cons h1 h2 =>
      cases h2
      cases h1 with
      | lst hs ha =>
        have e := L2.ints_dw a.1 _ ha
        subst e
        have q : ((Codec.inLen 0 30000 a.1 && a.1.all (Codec.inInt (-2147483648) 4294967295)) && true) = true := hwi
        rw [Bool.and_eq_true, Bool.and_eq_true] at q
        exact ⟨_, a.1, rfl, hs, hask, (Codec.inNat_iff.mp q.1.1).2, fun H' p hp => .lst (L2.SqL.of hp) (L2.dw_ints _)⟩

