import PyProof.Rows.All
import Wide.All
import OpenK.AllK
import Wide.FinOn
import Open.SpecLaws
import KE.OsHead
import KE.OsGo
import HandS.Base
import HandS.Call
import HandS.List
import HandS.Ends
import HandS.Spec
import HandS.Comp
import HandS.Iter
import HandS.Wide
import HandS.Words
import HandS.WordsList
import HandS.Walk
import HandS.WideBits
import PySem.Challenge.RW_straightfigures_s02_triangles
set_option Elab.async false
namespace Fg
/-! ### plain points, and the mirror of the program -/
abbrev Pt := Int × Int
def tn (a b c : Pt) : Int := (b.1 - a.1) * (c.2 - a.2) - (b.2 - a.2) * (c.1 - a.1)
def gt (l : List Pt) (i : Nat) : Pt := l.getD (i % l.length) (0, 0)
def btw (x a b : Int) : Bool := decide (min a b ≤ x) && decide (x ≤ max a b)
def onS (p a b : Pt) : Bool := if tn a b p ≠ 0 then false else btw p.1 a.1 b.1 && btw p.2 a.2 b.2
def smeet (l : List Pt) (i j : Nat) : Bool :=
  let a := gt l i
  let b := gt l (i + 1)
  let c := gt l j
  let d := gt l (j + 1)
  if (onS a c d || (onS b c d || (onS c a b || onS d a b))) = true then true else decide (tn a b c * tn a b d < 0) && decide (tn c d a * tn c d b < 0)
def tEv (l : List Pt) : Bool := (List.range l.length).all fun k => decide (tn (gt l (k + l.length - 1)) (gt l k) (gt l (k + 1)) ≠ 0)
def tw (l : List Pt) : Int := ((List.range l.length).map fun k => tn (0, 0) (gt l k) (gt l (k + 1))).sum
def apart (l : List Pt) : Bool := (List.range l.length).all fun i => (List.range l.length).all fun j => decide (j ≤ i + 1) || decide ((j + 1) % l.length = i) || !smeet l i j
def prs : List Int → List Pt
  | x :: y :: l => (x, y) :: prs l
  | _ => []
def form (f : List Int) : Bool := decide (f.length % 2 = 0) && (decide (6 ≤ f.length) && decide (f.length ≤ 16)) && f.all fun x => decide (x.natAbs ≤ 50)
def fig (f : List Int) : Bool := form f && (tEv (prs f) && apart (prs f) && decide (0 < tw (prs f)))
def halfOf (n : Int) : List Int := if n % 2 = 0 then [n / 2, 1] else [n, 2]
/-- n / d in lowest terms -/
def frc (n d : Int) : List Int := [n / ((Nat.gcd n.natAbs d.natAbs : Nat) : Int), d / ((Nat.gcd n.natAbs d.natAbs : Nat) : Int)]
def mSize (f : List Int) : List Int := if fig f = true then halfOf (tw (prs f)) else [-22]

/-! ### the specification's fractions at whole numbers -/
open Kzq1 (Q P whole mk)
def wp (p : Pt) : P := ⟨whole p.1, whole p.2⟩
theorem mk_one (n : Int) : mk n 1 = whole n := by
  unfold mk whole
  simp [Nat.gcd_one_right]
theorem mk_oo (n : Int) : mk n (1 * 1) = whole n := mk_one n
theorem add_w (a b : Int) : Kzq1.add (whole a) (whole b) = whole (a + b) := by
  unfold Kzq1.add
  show mk (a * 1 + b * 1) (1 * 1) = _
  rw [mk_oo, Int.mul_one, Int.mul_one]
theorem neg_w (a : Int) : Kzq1.neg (whole a) = whole (-a) := rfl
theorem sub_w (a b : Int) : Kzq1.sub (whole a) (whole b) = whole (a - b) := by
  unfold Kzq1.sub
  rw [neg_w, add_w, Int.sub_eq_add_neg]
theorem mul_w (a b : Int) : Kzq1.mul (whole a) (whole b) = whole (a * b) := by
  unfold Kzq1.mul
  show mk (a * b) (1 * 1) = _
  rw [mk_oo]
theorem zero_w : Kzq1.zero = whole 0 := rfl
theorem lt_w (a b : Int) : Kzq1.lt (whole a) (whole b) = decide (a < b) := by
  unfold Kzq1.lt whole
  simp
theorem le_w (a b : Int) : Kzq1.le (whole a) (whole b) = decide (a ≤ b) := by
  unfold Kzq1.le
  rw [lt_w]
  by_cases h : b < a
  · simp [h]
  · simp [h]; omega
theorem isZero_w (a : Int) : Kzq1.isZero (whole a) = decide (a = 0) := by
  unfold Kzq1.isZero whole
  by_cases h : a = 0 <;> simp [h]
theorem pos_w (a : Int) : Kzq1.pos (whole a) = decide (0 < a) := rfl
theorem cross_w (a b : Pt) : Kzq1.cross (wp a) (wp b) = whole (a.1 * b.2 - a.2 * b.1) := by
  unfold Kzq1.cross wp
  simp only [mul_w, sub_w]
theorem less_w (a b : Pt) : Kzq1.less (wp a) (wp b) = wp (a.1 - b.1, a.2 - b.2) := by
  unfold Kzq1.less wp
  simp only [sub_w]
theorem turn_w (a b c : Pt) : Kzq1.turn (wp a) (wp b) (wp c) = whole (tn a b c) := by
  unfold Kzq1.turn
  rw [less_w, less_w, cross_w]
  rfl
theorem origin_w : Kzq1.origin = wp (0, 0) := rfl
theorem at0_w (l : List Pt) (i : Nat) : Kzq1.at0 (l.map wp) i = wp (gt l i) := by
  unfold Kzq1.at0 gt
  rw [List.length_map, origin_w, List.getD_eq_getElem?_getD, List.getD_eq_getElem?_getD, List.getElem?_map]
  cases l[i % l.length]? <;> rfl
theorem sum_w : ∀ (l : List Int) (a : Int), (l.map whole).foldl Kzq1.add (whole a) = whole (a + l.sum)
  | [], a => by simp
  | x :: l, a => by
    rw [List.map_cons, List.foldl_cons, add_w, sum_w l, List.sum_cons, Int.add_assoc]
theorem qsum_w (l : List Int) : Kzq1.sum (l.map whole) = whole l.sum := by
  unfold Kzq1.sum
  rw [zero_w, sum_w, Int.zero_add]
theorem tn0 (b c : Pt) : tn (0, 0) b c = b.1 * c.2 - b.2 * c.1 := by
  unfold tn
  simp
theorem size_w (l : List Pt) : Kzq1.size (l.map wp) = mk (tw l) 2 := by
  unfold Kzq1.size Kzq1.sides
  rw [List.map_map, List.length_map]
  have e : ((List.range l.length).map ((fun s : P × P => Kzq1.cross s.1 s.2) ∘ fun i => (Kzq1.at0 (l.map wp) i, Kzq1.at0 (l.map wp) (i + 1))))
      = ((List.range l.length).map fun k => tn (0, 0) (gt l k) (gt l (k + 1))).map whole := by
    rw [List.map_map]
    refine List.map_congr_left fun i _ => ?_
    show Kzq1.cross (Kzq1.at0 (l.map wp) i) (Kzq1.at0 (l.map wp) (i + 1)) = whole (tn (0, 0) (gt l i) (gt l (i + 1)))
    rw [at0_w, at0_w, cross_w, tn0]
  rw [e, qsum_w]
  unfold Kzq1.mul
  show mk (1 * tw l) (2 * 1) = _
  rw [Int.one_mul]
theorem gcd_two_even {n : Int} (h : n % 2 = 0) : Nat.gcd n.natAbs 2 = 2 :=
  Nat.gcd_eq_right (by omega)
theorem gcd_two_odd {n : Int} (h : ¬ n % 2 = 0) : Nat.gcd n.natAbs 2 = 1 := by
  have h1 : Nat.gcd n.natAbs 2 ∣ 2 := Nat.gcd_dvd_right _ _
  have h2 : Nat.gcd n.natAbs 2 ∣ n.natAbs := Nat.gcd_dvd_left _ _
  have h3 : Nat.gcd n.natAbs 2 ≤ 2 := Nat.le_of_dvd (by decide) h1
  have h0 : 0 < Nat.gcd n.natAbs 2 := Nat.gcd_pos_of_pos_right _ (by decide)
  generalize Nat.gcd n.natAbs 2 = g at *
  have : g = 1 ∨ g = 2 := by omega
  rcases this with e | e
  · exact e
  · subst e
    omega
theorem mk_two (n : Int) : mk n 2 = if n % 2 = 0 then ⟨n / 2, 1⟩ else ⟨n, 2⟩ := by
  unfold mk
  by_cases h : n % 2 = 0
  · simp [gcd_two_even h, h]
  · simp [gcd_two_odd h, h]
theorem pos_two (n : Int) : Kzq1.pos (mk n 2) = decide (0 < n) := by
  rw [mk_two]
  unfold Kzq1.pos
  by_cases h : n % 2 = 0
  · simp only [h, if_true]
    by_cases h0 : 0 < n
    · rw [decide_eq_true h0, decide_eq_true (by omega)]
    · rw [decide_eq_false h0, decide_eq_false (by omega)]
  · simp [h]
/-! ### the sides -/
theorem between_w (a b c : Pt) : Kzq1.between (wp a) (wp b) (wp c) = (btw c.1 a.1 b.1 && btw c.2 a.2 b.2) := by
  have h : ∀ x y z : Int, (Kzq1.le (if Kzq1.lt (whole x) (whole y) = true then whole x else whole y) (whole z) && Kzq1.le (whole z) (if Kzq1.lt (whole x) (whole y) = true then whole y else whole x)) = btw z x y := by
    intro x y z
    rw [lt_w]
    unfold btw
    by_cases h : x < y
    · simp only [h, decide_true, if_true, le_w]
      rw [Int.min_def, Int.max_def, if_pos (by omega), if_pos (by omega)]
    · rw [decide_eq_false h]
      simp only [Bool.false_eq_true, if_false, le_w]
      rw [Int.min_def, Int.max_def]
      by_cases e : x = y
      · subst e; simp
      · rw [if_neg (by omega), if_neg (by omega)]
  unfold Kzq1.between
  show ((Kzq1.le (if Kzq1.lt (whole a.1) (whole b.1) = true then whole a.1 else whole b.1) (whole c.1) && Kzq1.le (whole c.1) (if Kzq1.lt (whole a.1) (whole b.1) = true then whole b.1 else whole a.1)) && Kzq1.le (if Kzq1.lt (whole a.2) (whole b.2) = true then whole a.2 else whole b.2) (whole c.2) && Kzq1.le (whole c.2) (if Kzq1.lt (whole a.2) (whole b.2) = true then whole b.2 else whole a.2)) = _
  rw [Bool.and_assoc, h, h]
theorem on_w (a b c : Pt) : Kzq1.on (wp a, wp b) (wp c) = onS c a b := by
  unfold Kzq1.on onS
  show (Kzq1.isZero (Kzq1.turn (wp a) (wp b) (wp c)) && Kzq1.between (wp a) (wp b) (wp c)) = _
  rw [turn_w, isZero_w, between_w]
  by_cases h : tn a b c = 0 <;> simp [h]
theorem side1_w (a b c : Pt) : Kzq1.side1 (wp a) (wp b) (wp c) = (tn a b c).sign := by
  unfold Kzq1.side1
  rw [turn_w, pos_w, isZero_w]
  rcases Int.lt_trichotomy (tn a b c) 0 with h | h | h
  · rw [Int.sign_eq_neg_one_of_neg h]
    simp; omega
  · rw [h]; simp
  · rw [Int.sign_eq_one_of_pos h]; simp [h]
theorem sign_neg (x y : Int) : (x.sign * y.sign == -1) = decide (x * y < 0) := by
  rw [← Int.sign_mul]
  by_cases h : x * y < 0
  · rw [Int.sign_eq_neg_one_of_neg h]; simp [h]
  · rw [decide_eq_false h]
    have : (x * y).sign ≠ -1 := fun e => h (Int.neg_of_sign_eq_neg_one e)
    exact beq_eq_false_iff_ne.mpr this
theorem touch_w (a b c d : Pt) : Kzq1.touch (wp a, wp b) (wp c, wp d) = (onS c a b || onS d a b || onS a c d || onS b c d || (decide (tn a b c * tn a b d < 0) && decide (tn c d a * tn c d b < 0))) := by
  unfold Kzq1.touch
  simp only [on_w, side1_w, sign_neg]
theorem smeet_w (l : List Pt) (i j : Nat) : smeet l i j = Kzq1.touch (wp (gt l i), wp (gt l (i + 1))) (wp (gt l j), wp (gt l (j + 1))) := by
  rw [touch_w]
  unfold smeet
  dsimp only
  generalize onS (gt l i) (gt l j) (gt l (j + 1)) = x1
  generalize onS (gt l (i + 1)) (gt l j) (gt l (j + 1)) = x2
  generalize onS (gt l j) (gt l i) (gt l (i + 1)) = x3
  generalize onS (gt l (j + 1)) (gt l i) (gt l (i + 1)) = x4
  generalize (decide (tn (gt l i) (gt l (i + 1)) (gt l j) * tn (gt l i) (gt l (i + 1)) (gt l (j + 1)) < 0) && decide (tn (gt l j) (gt l (j + 1)) (gt l i) * tn (gt l j) (gt l (j + 1)) (gt l (i + 1)) < 0)) = x5
  revert x1 x2 x3 x4 x5
  decide
theorem gt_mod (l : List Pt) (i : Nat) : gt l (i % l.length) = gt l i := by
  unfold gt
  rw [Nat.mod_mod]
theorem gt_add (l : List Pt) (i : Nat) : gt l (i + l.length) = gt l i := by
  unfold gt
  rw [Nat.add_mod_right]
theorem tEv_w (l : List Pt) : ((List.range l.length).all fun i => !Kzq1.isZero (Kzq1.turn (wp (gt l i)) (wp (gt l (i + 1))) (wp (gt l (i + 2))))) = tEv l := by
  unfold tEv
  rw [Bool.eq_iff_iff, List.all_eq_true, List.all_eq_true]
  simp only [turn_w, isZero_w, List.mem_range, Bool.not_eq_true', decide_eq_false_iff_not, decide_eq_true_eq]
  constructor
  · intro h k hk
    cases k with
    | zero =>
      have q := h (l.length - 1) (by omega)
      rw [show l.length - 1 + 1 = 0 + l.length by omega, show l.length - 1 + 2 = 1 + l.length by omega, gt_add, gt_add] at q
      rw [Nat.zero_add]
      exact q
    | succ k =>
      have q := h k (by omega)
      rw [show k + 1 + l.length - 1 = k + l.length by omega, gt_add]
      exact q
  · intro h k hk
    by_cases e : k + 1 = l.length
    · have q := h 0 (by omega)
      rw [show 0 + l.length - 1 = k by omega] at q
      have e1 : gt l (k + 1) = gt l 0 := by rw [e, ← Nat.zero_add l.length, gt_add]
      have e2 : gt l (k + 2) = gt l (0 + 1) := by rw [show k + 2 = (0 + 1) + l.length by omega, gt_add]
      rw [e1, e2]
      exact q
    · have q := h (k + 1) (by omega)
      rw [show k + 1 + l.length - 1 = k + l.length by omega, gt_add] at q
      exact q
theorem apart_w (l : List Pt) : ((List.range l.length).all fun i => (List.range l.length).all fun j => decide (j ≤ i + 1) || (i + l.length == j + 1) || !Kzq1.touch (wp (gt l i), wp (gt l (i + 1))) (wp (gt l j), wp (gt l (j + 1)))) = apart l := by
  unfold apart
  rw [Bool.eq_iff_iff]
  simp only [List.all_eq_true, List.mem_range, smeet_w]
  have h : ∀ i j, i < l.length → j < l.length → (decide (j ≤ i + 1) || (i + l.length == j + 1)) = (decide (j ≤ i + 1) || decide ((j + 1) % l.length = i)) := by
    intro i j hi hj
    by_cases h1 : j ≤ i + 1
    · simp [h1]
    · have : (i + l.length == j + 1) = decide ((j + 1) % l.length = i) := by
        by_cases h2 : j + 1 = l.length
        · rw [h2, Nat.mod_self]
          by_cases h3 : i = 0
          · subst h3; simp
          · rw [decide_eq_false (by omega)]
            simp; omega
        · rw [Nat.mod_eq_of_lt (by omega)]
          rw [decide_eq_false (by omega)]
          simp; omega
      rw [this]
  constructor
  · intro q i hi j hj
    rw [← h i j hi hj]
    exact q i hi j hj
  · intro q i hi j hj
    rw [h i j hi hj]
    exact q i hi j hj
theorem isFigure_w (l : List Pt) : Kzq1.isFigure (l.map wp) = (decide (3 ≤ l.length) && (tEv l && apart l && decide (0 < tw l))) := by
  unfold Kzq1.isFigure
  dsimp only
  simp only [List.length_map, size_w, pos_two, at0_w, tEv_w, apart_w]
  generalize decide (3 ≤ l.length) = a
  generalize decide (0 < tw l) = b
  generalize tEv l = c
  generalize apart l = d
  revert a b c d
  decide
/-! ### the row -/
theorem pairs_even : ∀ (f : List Int), f.length % 2 = 0 → Kzq1.pairsOf f = some ((prs f).map wp)
  | [], _ => rfl
  | [_], h => by simp at h
  | x :: y :: l, h => by
    have q := pairs_even l (by simp at h; omega)
    show (Kzq1.pairsOf l).map _ = _
    rw [q]
    rfl
theorem pairs_odd : ∀ (f : List Int), ¬ f.length % 2 = 0 → Kzq1.pairsOf f = none
  | [], h => by simp at h
  | [_], _ => rfl
  | x :: y :: l, h => by
    have q := pairs_odd l (by simp at h; omega)
    show (Kzq1.pairsOf l).map _ = _
    rw [q]
    rfl
theorem prs_length : ∀ (f : List Int), (prs f).length = f.length / 2
  | [] => rfl
  | [_] => by simp [prs]
  | x :: y :: l => by
    show (prs l).length + 1 = (l.length + 1 + 1) / 2
    rw [prs_length l]
    omega
theorem readFigure_w (f : List Int) : Kzq1.readFigure f = if fig f = true then some ((prs f).map wp) else none := by
  unfold Kzq1.readFigure fig form
  by_cases h1 : (f.any fun x => decide (x < -50 ∨ 50 < x)) = true
  · have h2 : (f.all fun x => decide (x.natAbs ≤ 50)) = false := by
      obtain ⟨x, hx, q⟩ := List.any_eq_true.mp h1
      rw [List.all_eq_false]
      have q := of_decide_eq_true q
      exact ⟨x, hx, by simp; omega⟩
    rw [if_pos h1, h2]
    simp
  · have h2 : (f.all fun x => decide (x.natAbs ≤ 50)) = true := by
      rw [List.all_eq_true]
      intro x hx
      have h3 : ¬ (x < -50 ∨ 50 < x) := fun e => h1 (List.any_eq_true.mpr ⟨x, hx, decide_eq_true e⟩)
      simp; omega
    rw [if_neg h1, h2]
    by_cases h4 : f.length % 2 = 0
    · rw [pairs_even f h4]
      dsimp only
      rw [isFigure_w, List.length_map, prs_length]
      rw [decide_eq_true h4]
      unfold Kzq1.most
      by_cases h5 : 6 ≤ f.length
      · by_cases h6 : f.length ≤ 16
        · rw [decide_eq_true h5, decide_eq_true h6, decide_eq_true (show 3 ≤ f.length / 2 by omega)]
          simp only [Bool.true_and, Bool.and_true]
          have h7 : f.length / 2 ≤ 8 := by omega
          simp only [h7, true_and]
        · have h7 : ¬ f.length / 2 ≤ 8 := by omega
          simp [h6, h7]
      · have h7 : ¬ 3 ≤ f.length / 2 := by omega
        simp [h5, h7]
    · rw [pairs_odd f h4]
      simp [h4]
theorem size_is (f : List Int) : PyKzq1.size f = mSize f := by
  show (Kzq1.answer (.size f)).value :: (Kzq1.answer (.size f)).nums = mSize f
  unfold Kzq1.answer Kzq1.withFigure mSize
  dsimp only
  rw [readFigure_w]
  by_cases h : fig f = true
  · rw [if_pos h, if_pos h]
    dsimp only
    rw [size_w, mk_two]
    unfold halfOf
    split <;> rfl
  · rw [if_neg h, if_neg h]
    rfl
end Fg

set_option Elab.async false
namespace Fg
open Kzq1 (Q P whole mk)
/-! ### ears, and how a figure is cut up: the mirror -/
def inTri (a b c z : Pt) : Bool := decide (0 ≤ tn a b z) && (decide (0 ≤ tn b c z) && decide (0 ≤ tn c a z))
def others (l : List Pt) (k : Nat) : List Pt := (List.range (l.length - 3)).map fun s => gt l (k + 2 + s)
def ear (l : List Pt) (k : Nat) : Bool :=
  if tn (gt l (k + l.length - 1)) (gt l k) (gt l (k + 1)) ≤ 0 then false
  else !((others l k).any fun z => inTri (gt l (k + l.length - 1)) (gt l k) (gt l (k + 1)) z)
def fstEar (l : List Pt) : Option Nat := (List.range l.length).find? (ear l)
def triAt (l : List Pt) (i : Nat) : List Pt := [gt l (i + l.length - 1), gt l i, gt l (i + 1)]
def cutM : Nat → List Pt → List (List Pt)
  | 0, _ => []
  | k + 1, l => if l.length ≤ 3 then [l] else match fstEar l with
    | some i => triAt l i :: cutM k (l.eraseIdx i)
    | none => []
def flat (l : List Pt) : List Int := l.flatMap fun p => [p.1, p.2]
def allEars : Nat → List Pt → Prop
  | 0, _ => False
  | k + 1, l => l.length ≤ 3 ∨ ∃ i, fstEar l = some i ∧ allEars k (l.eraseIdx i)
def mTri (f : List Int) : List Int := if fig f = true then ((cutM (prs f).length (prs f)).length : Int) :: (cutM (prs f).length (prs f)).flatMap flat else [-22]
/-! ### against the specification -/
theorem inTri_w (a b c z : Pt) : Kzq1.inTriangle (wp a) (wp b) (wp c) (wp z) = inTri a b c z := by
  unfold Kzq1.inTriangle inTri
  simp only [turn_w, zero_w, lt_w]
  have h : ∀ x : Int, (!decide (x < 0)) = decide (0 ≤ x) := fun x => by
    by_cases q : x < 0
    · rw [decide_eq_true q, decide_eq_false (by omega)]; rfl
    · rw [decide_eq_false q, decide_eq_true (by omega)]; rfl
  rw [h, h, h, Bool.and_assoc]
theorem gt_congr {l : List Pt} {i j : Nat} (h : i % l.length = j % l.length) : gt l i = gt l j := by
  unfold gt
  rw [h]
theorem ear_w (l : List Pt) (i : Nat) (hi : i < l.length) (h3 : 3 < l.length) : Kzq1.isEar (l.map wp) i = ear l i := by
  unfold Kzq1.isEar ear
  dsimp only
  simp only [List.length_map, at0_w, turn_w, pos_w, inTri_w]
  by_cases h0 : tn (gt l (i + l.length - 1)) (gt l i) (gt l (i + 1)) ≤ 0
  · rw [if_pos h0, decide_eq_false (by omega)]
    rfl
  · rw [if_neg h0, decide_eq_true (by omega), Bool.true_and, Bool.eq_iff_iff]
    rw [List.all_eq_true, Bool.not_eq_true', List.any_eq_false]
    simp only [List.mem_range, Bool.or_eq_true, beq_iff_eq, Bool.not_eq_true', Bool.not_eq_true]
    unfold others
    simp only [List.mem_map, List.mem_range]
    have hn : (i + l.length - 1) % l.length = if i = 0 then l.length - 1 else i - 1 := by
      by_cases e : i = 0
      · subst e
        rw [if_pos rfl, Nat.mod_eq_of_lt (by omega)]
        omega
      · rw [if_neg e, show i + l.length - 1 = (i - 1) + l.length by omega, Nat.add_mod_right, Nat.mod_eq_of_lt (by omega)]
    have hp : (i + 1) % l.length = if i + 1 = l.length then 0 else i + 1 := by
      by_cases e : i + 1 = l.length
      · rw [if_pos e, e, Nat.mod_self]
      · rw [if_neg e, Nat.mod_eq_of_lt (by omega)]
    constructor
    · rintro h z ⟨s, hs, rfl⟩
      have q := h ((i + 2 + s) % l.length) (Nat.mod_lt _ (by omega))
      rw [gt_mod] at q
      have hm : (i + 2 + s) % l.length = if i + 2 + s < l.length then i + 2 + s else i + 2 + s - l.length := by
        by_cases e : i + 2 + s < l.length
        · rw [if_pos e, Nat.mod_eq_of_lt e]
        · rw [if_neg e]
          have e2 : i + 2 + s = (i + 2 + s - l.length) + l.length := by omega
          rw [e2, Nat.add_mod_right, Nat.mod_eq_of_lt (by omega)]
          omega
      rw [hm, hn, hp] at q
      rcases q with ((q | q) | q) | q
      · exfalso; split at q <;> omega
      · exfalso; split at q <;> split at q <;> omega
      · exfalso; split at q <;> split at q <;> omega
      · exact q
    · intro h j hj
      rw [hn, hp]
      by_cases e1 : j = i
      · exact .inl (.inl (.inl e1))
      · by_cases e2 : j = if i + 1 = l.length then 0 else i + 1
        · exact .inl (.inl (.inr e2))
        · by_cases e3 : j = if i = 0 then l.length - 1 else i - 1
          · exact .inl (.inr e3)
          · refine .inr (h _ ⟨if i < j then j - i - 2 else j + l.length - i - 2, ?_, ?_⟩)
            · split at e2 <;> split at e3 <;> split <;> omega
            · by_cases e4 : i < j
              · rw [if_pos e4]
                refine gt_congr ?_
                rw [show i + 2 + (j - i - 2) = j by split at e2 <;> omega]
              · rw [if_neg e4]
                refine gt_congr ?_
                rw [show i + 2 + (j + l.length - i - 2) = j + l.length by split at e2 <;> omega, Nat.add_mod_right]
theorem find_w (l : List Pt) (h3 : 3 < l.length) : (List.range (l.map wp).length).find? (Kzq1.isEar (l.map wp)) = fstEar l := by
  unfold fstEar
  rw [List.length_map]
  have h : ∀ (r : List Nat), (∀ i ∈ r, i < l.length) → r.find? (Kzq1.isEar (l.map wp)) = r.find? (ear l) := by
    intro r
    induction r with
    | nil => intro _; rfl
    | cons a r ih =>
      intro hr
      rw [List.find?_cons, List.find?_cons, ear_w l a (hr a (by simp)) h3, ih fun i hi => hr i (by simp [hi])]
  exact h _ fun i hi => List.mem_range.mp hi
theorem erase_map {α β : Type} (g : α → β) : ∀ (l : List α) (i : Nat), (l.map g).eraseIdx i = (l.eraseIdx i).map g
  | [], i => by simp
  | a :: l, 0 => rfl
  | a :: l, i + 1 => by
    show g a :: (l.map g).eraseIdx i = g a :: (l.eraseIdx i).map g
    rw [erase_map g l i]
theorem cut_w : ∀ (k : Nat) (l : List Pt), Kzq1.triangles k (l.map wp) = (cutM k l).map fun t => t.map wp
  | 0, l => rfl
  | k + 1, l => by
    unfold Kzq1.triangles cutM
    by_cases h : l.length ≤ 3
    · rw [if_pos h, if_pos (by rw [List.length_map]; exact h)]
      rfl
    · rw [if_neg h, if_neg (by rw [List.length_map]; exact h), find_w l (by omega)]
      cases fstEar l with
      | none => rfl
      | some i =>
        dsimp only
        rw [List.map_cons, erase_map, cut_w k, List.length_map, at0_w, at0_w, at0_w]
        rfl
theorem flat_w (l : List Pt) : ((l.map wp).flatMap fun p => [p.x.n, p.y.n]) = flat l := by
  unfold flat
  rw [List.flatMap_map]
  rfl
theorem tri_is (f : List Int) : PyKzq1.triangles f = mTri f := by
  show (Kzq1.answer (.triangles f)).value :: (Kzq1.answer (.triangles f)).nums = mTri f
  unfold Kzq1.answer Kzq1.withFigure mTri
  dsimp only
  rw [readFigure_w]
  by_cases h : fig f = true
  · rw [if_pos h, if_pos h]
    dsimp only
    unfold Kzq1.cutUp
    rw [cut_w, List.length_map, List.length_map]
    congr 1
    rw [List.flatMap_map]
    simp only [flat_w]
  · rw [if_neg h, if_neg h]
    rfl
theorem fstEar_lt {l : List Pt} {i : Nat} (h : fstEar l = some i) : i < l.length := List.mem_range.mp (List.mem_of_find?_eq_some h)
theorem cut_len : ∀ (k : Nat) (l : List Pt), allEars k l → 3 ≤ l.length → (cutM k l).length = l.length - 2
  | 0, l, h, _ => h.elim
  | k + 1, l, h, h3 => by
    unfold cutM
    by_cases e : l.length ≤ 3
    · rw [if_pos e]
      show 1 = _
      omega
    · rw [if_neg e]
      rcases h with h | ⟨i, h1, h2⟩
      · exact absurd h e
      · rw [h1]
        have hi := fstEar_lt h1
        have hl : (l.eraseIdx i).length = l.length - 1 := List.length_eraseIdx_of_lt hi
        dsimp only
        rw [List.length_cons, cut_len k _ h2 (by omega), hl]
        omega
end Fg

set_option Elab.async false
set_option linter.all false
set_option maxRecDepth 100000
set_option maxHeartbeats 2000000
namespace Fg
open PySem PySem.Spec PyProof.Rows L2
open PySem.W (Codec)
def top (i : Nat) : Stmt := PySem.Challenge.pw_straightfigures_s02_triangles.main.body.getD i (.Pass ⟨0, 0, 0, 0⟩)
abbrev sFig : Stmt := top 4
abbrev sForm : Stmt := top 5
abbrev sCorners : Stmt := top 6
abbrev sBefore : Stmt := top 8
abbrev sAfter : Stmt := top 9
abbrev sTurn : Stmt := top 10
abbrev sTurnAt : Stmt := top 12
abbrev sTurnsEv : Stmt := top 13
abbrev sTwice : Stmt := top 14
abbrev sApart : Stmt := top 15
abbrev sMeet : Stmt := top 16
abbrev sOn : Stmt := top 17
abbrev sBetween : Stmt := top 18
abbrev sTri : Stmt := top 25
abbrev sRow : Stmt := top 7
abbrev sTriAt : Stmt := top 11
abbrev sFirst : Stmt := top 20
abbrev sEar : Stmt := top 21
abbrev sIn : Stmt := top 22
abbrev sCutUp : Stmt := top 19
/-! ### points in memory -/
abbrev ptV (p : Pt) : List V := [.int p.1, .int p.2]
def Sm (p : Pt) : Prop := p.1.natAbs < 2 ^ 3000 ∧ p.2.natAbs < 2 ^ 3000
/-- a list of pairs stands at a -/
structure CsAt (H : Hp) (a : Addr) (as : List Addr) (ps : List Pt) : Prop where
  lst : H a = some (.lst (as.map V.ref))
  len : as.length = ps.length
  item : ∀ (j : Nat) (p : Pt), ps[j]? = some p → ∃ b, as[j]? = some b ∧ H b = some (.tup (ptV p))
def Cs (H : Hp) (a : Addr) (ps : List Pt) : Prop := ∃ as, CsAt H a as ps
theorem Cs.same {H H' : Hp} {a : Addr} {ps : List Pt} (c : Cs H a ps) (s : Same H H') : Cs H' a ps := by
  obtain ⟨as, c⟩ := c
  refine ⟨as, s _ _ c.lst, c.len, fun j p h => ?_⟩
  obtain ⟨b, h1, h2⟩ := c.item j p h
  exact ⟨b, h1, s _ _ h2⟩
theorem gt_get {ps : List Pt} (h : 0 < ps.length) (i : Nat) : ps[i % ps.length]? = some (gt ps i) := by
  have q := Nat.mod_lt i h
  unfold gt
  rw [List.getD_eq_getElem?_getD, List.getElem?_eq_getElem q]
  rfl
theorem gt_lt {ps : List Pt} {i : Nat} (h : i < ps.length) : ps[i]? = some (gt ps i) := by
  have q := gt_get (ps := ps) (by omega) i
  rw [Nat.mod_eq_of_lt h] at q
  exact q
/-- the item at a place -/
theorem Cs.get {H : Hp} {a : Addr} {ps : List Pt} (c : Cs H a ps) {j : Nat} (hj : j < ps.length) : ∃ (b : Addr) (xs : List V), H a = some (.lst xs) ∧ xs.length = ps.length ∧ xs[j]? = some (.ref b) ∧ H b = some (.tup (ptV (gt ps j))) := by
  obtain ⟨as, c⟩ := c
  obtain ⟨b, h1, h2⟩ := c.item j _ (gt_lt hj)
  refine ⟨b, as.map V.ref, c.lst, by rw [List.length_map, c.len], ?_, h2⟩
  rw [List.getElem?_map, h1]
  rfl
theorem Cs.lst {H : Hp} {a : Addr} {ps : List Pt} (c : Cs H a ps) : ∃ xs : List V, H a = some (.lst xs) ∧ xs.length = ps.length := by
  obtain ⟨as, c⟩ := c
  exact ⟨_, c.lst, by rw [List.length_map, c.len]⟩
theorem same_upd {H : Hp} {p : Addr} {o : HO} (h : H p = none) : Same H (upd H p o) := fun b x e => by
  rw [upd_ne (ne_of_none e h)]
  exact e
theorem sub_small {x y : Int} {n : Nat} (hx : x.natAbs < 2 ^ n) (hy : y.natAbs < 2 ^ n) : (x - y).natAbs < 2 ^ (n + 1) := by
  rw [Nat.pow_succ]
  omega
/-- what the top has of names -/
structure Bu (mg : Str → Option Value) : Prop where
  len : mg "len" = none
  range : mg "range" = none
  all : mg "all" = none
  sum : mg "sum" = none
  abs : mg "abs" = none
  min : mg "min" = none
  max : mg "max" = none
theorem gt_mem {ps : List Pt} (h : 0 < ps.length) (i : Nat) : gt ps i ∈ ps := List.mem_of_getElem? (gt_get h i)
/-- the defs that look at a row of corners -/
structure Gd (P : Program) (w : World) (K : PySem.W.Frag) (mg : Str → Option Value) (base : Heap) (x : Str) (k : Nat) (ps : List Str) (sp : Sp) (f : Addr) (fd : FuncData) : Prop where
  ok : FnOk P w K mg base CX0 k f fd ps sp
  gl : mg x = some (.ref f)
  kp : PySem.W.keepIn K (.ref f) = true
  bd : Binds K fd ps []
theorem all_take {n : Nat} {g : Nat → Bool} : (((List.range n).map g).all id) = (List.range n).all g := by
  rw [List.all_map]
  rfl
theorem range_take_succ {β : Type} (g : Nat → β) {n i : Nat} (h : i < n) : ((List.range n).map g).take (i + 1) = ((List.range n).map g).take i ++ [g i] := by
  rw [List.take_add_one, List.getElem?_map, List.getElem?_range h]
  rfl
theorem small_of {n : Nat} (h : n ≤ 1000) : n < sizeLine := Nat.lt_of_le_of_lt h (by decide)
theorem small_two {n : Nat} (h : n ≤ 2000) : n < sizeLine := Nat.lt_of_le_of_lt h (by decide)
theorem map_take_succ {α β : Type} (g : α → β) {l : List α} {i : Nat} {x : α} (h : l[i]? = some x) : (l.map g).take (i + 1) = (l.map g).take i ++ [g x] := by
  rw [List.take_add_one, List.getElem?_map, h]
  rfl
theorem fits {i : Int} (h1 : 0 ≤ i) (h2 : i ≤ 5000) : Builtin.Range.rangeFitsLong i = true := by
  unfold Builtin.Range.rangeFitsLong
  rw [decide_eq_true (show -(2 ^ 63) ≤ i by omega), decide_eq_true (show i < 2 ^ 63 by omega)]
  rfl
theorem rg_two {n : Nat} (h : n ≤ 2000) (h2 : n % 2 = 0) : RgC 0 (n : Int) 2 (n / 2) := by
  have e : Builtin.Range.rangeSize 0 (n : Int) 2 = ((n / 2 : Nat) : Int) := by
    unfold Builtin.Range.rangeSize
    rw [if_pos (by decide)]
    split <;> omega
  refine ⟨by decide, by decide, ?_, e⟩
  unfold Builtin.Range.small
  rw [e, if_pos (by decide), fits (by omega) (by omega), fits (by omega) (by omega), fits (by omega) (by omega), fits (by omega) (by omega), fits (by omega) (by omega)]
  simp
end Fg

set_option Elab.async false
set_option linter.all false
set_option maxRecDepth 100000
set_option maxHeartbeats 2000000
namespace Fg
open PySem PySem.Spec PyProof.Rows L2
open PySem.W (Codec)
/-! ### the promises -/
def spTurn (K : PySem.W.Frag) : Sp := fun vs H Q _ => ∃ (p q r : Addr) (a b c : Pt), vs = [.ref p, .ref q, .ref r] ∧ SqT K H p (ptV a) ∧ SqT K H q (ptV b) ∧ SqT K H r (ptV c) ∧ Sm a ∧ Sm b ∧ Sm c ∧ Q (.int (tn a b c)) H
section
variable {P : Program} {w : World} {K : PySem.W.Frag} {mg : Str → Option Value} {base : Heap}
theorem scTurn : FnScope ["a", "b", "c"] ["a", "b", "c"] (defScope sTurn) := ⟨rfl, rfl, rfl, by decide +kernel, rfl, by decide +kernel, by decide +kernel⟩
theorem ok_turn {f : Addr} {fd : FuncData} (F : Fun K "turn" "turn" sTurn f fd) : FnOk P w K mg base CX0 1 f fd ["a", "b", "c"] (spTurn K) := by
  refine F.ok scTurn (fun vs H Q E h => ?_) (fun cdv A outer s H vs Q E hr h => ?_)
  · obtain ⟨p, q, r, a, b, c, rfl, _⟩ := h
    rfl
  · obtain ⟨p, q, r, a, b, c, rfl, hp, hq, hr', sa, sb, sc, k⟩ := h
    refine ⟨_, pss_one (ps_ret (pe_op op_sub
      (pe_op op_mulW (pe_op op_sub (pe_ix ix_tup (pv 1) pe_int (fun _ _ => rfl)) (pe_ix ix_tup (pv 0) pe_int (fun _ _ => rfl)))
        (pe_op op_sub (pe_ix ix_tup (pv 2) pe_int (fun _ _ => rfl)) (pe_ix ix_tup (pv 0) pe_int (fun _ _ => rfl))))
      (pe_op op_mulW (pe_op op_sub (pe_ix ix_tup (pv 1) pe_int (fun _ _ => rfl)) (pe_ix ix_tup (pv 0) pe_int (fun _ _ => rfl)))
        (pe_op op_sub (pe_ix ix_tup (pv 2) pe_int (fun _ _ => rfl)) (pe_ix ix_tup (pv 0) pe_int (fun _ _ => rfl)))))), ?_⟩
    have W : ∀ x y z t : Int, x.natAbs < 2 ^ 3000 → y.natAbs < 2 ^ 3000 → z.natAbs < 2 ^ 3000 → t.natAbs < 2 ^ 3000 → CMulW (x - y) (z - t) := fun x y z t h1 h2 h3 h4 =>
      wide_mul (sub_small h1 h2) (sub_small h3 h4) (by decide) (by decide) (by decide)
    refine ⟨_, rfl, q, _, 0, .int b.1, rfl, rfl, hq, rfl, _, rfl, p, _, 0, .int a.1, rfl, rfl, hp, rfl, b.1, a.1, rfl, rfl, ?_⟩
    refine ⟨_, rfl, r, _, 1, .int c.2, rfl, rfl, hr', rfl, _, rfl, p, _, 1, .int a.2, rfl, rfl, hp, rfl, c.2, a.2, rfl, rfl, ?_⟩
    refine ⟨_, _, rfl, rfl, W _ _ _ _ sb.1 sa.1 sc.2 sa.2, ?_⟩
    refine ⟨_, rfl, q, _, 1, .int b.2, rfl, rfl, hq, rfl, _, rfl, p, _, 1, .int a.2, rfl, rfl, hp, rfl, b.2, a.2, rfl, rfl, ?_⟩
    refine ⟨_, rfl, r, _, 0, .int c.1, rfl, rfl, hr', rfl, _, rfl, p, _, 0, .int a.1, rfl, rfl, hp, rfl, c.1, a.1, rfl, rfl, ?_⟩
    refine ⟨_, _, rfl, rfl, W _ _ _ _ sb.2 sa.2 sc.1 sa.1, ?_⟩
    exact ⟨_, _, rfl, rfl, k⟩
end
end Fg

set_option Elab.async false
set_option linter.all false
set_option maxRecDepth 100000
set_option maxHeartbeats 2000000
namespace Fg
open PySem PySem.Spec PyProof.Rows L2
open PySem.W (Codec)
def spBefore (K : PySem.W.Frag) : Sp := fun vs H Q _ => ∃ (a : Addr) (ps : List Pt) (k : Nat), vs = [.ref a, .int (k : Int)] ∧ Cs H a ps ∧ 0 < ps.length ∧
  ∀ b, H b = some (.tup (ptV (gt ps (k + ps.length - 1)))) → Q (.ref b) H
def spAfter (K : PySem.W.Frag) : Sp := fun vs H Q _ => ∃ (a : Addr) (ps : List Pt) (k : Nat), vs = [.ref a, .int (k : Int)] ∧ Cs H a ps ∧ 0 < ps.length ∧
  ∀ b, H b = some (.tup (ptV (gt ps (k + 1)))) → Q (.ref b) H
def spTurnAt (K : PySem.W.Frag) : Sp := fun vs H Q _ => ∃ (a : Addr) (ps : List Pt) (k : Nat), vs = [.ref a, .int (k : Int)] ∧ Cs H a ps ∧ k < ps.length ∧ (∀ p ∈ ps, Sm p) ∧
  Q (.int (tn (gt ps (k + ps.length - 1)) (gt ps k) (gt ps (k + 1)))) H
section
variable {P : Program} {w : World} {K : PySem.W.Frag} {mg : Str → Option Value} {base : Heap}
theorem scBefore : FnScope ["corners", "k"] ["corners", "k"] (defScope sBefore) := ⟨rfl, rfl, rfl, by decide +kernel, rfl, by decide +kernel, by decide +kernel⟩
theorem ok_before {f : Addr} {fd : FuncData} (F : Fun K "corner_before" "corner_before" sBefore f fd) (B : Bu mg) : FnOk P w K mg base CX0 1 f fd ["corners", "k"] (spBefore K) := by
  refine F.ok scBefore (fun vs H Q E h => ?_) (fun cdv A outer s H vs Q E hr h => ?_)
  · obtain ⟨a, ps, k, rfl, _⟩ := h
    rfl
  · obtain ⟨a, ps, k, rfl, c, h0, q⟩ := h
    refine ⟨_, pss_one (ps_ret (pe_ix ix_list (pv 0) (pe_op op_mod (pe_op op_sub (pv 1) pe_int) (pe_callB call_len_seq (by rfl) B.len PySem.boot_len (pa_cons (pv 0) pa_nil))) (fun _ _ => rfl))), ?_⟩
    obtain ⟨b, xs, h1, h2, h3, h4⟩ := c.get (Nat.mod_lt (k + ps.length - 1) h0)
    refine ⟨_, rfl, _, rfl, _, _, rfl, rfl, _, rfl, a, _, rfl, .inl (SqL.of h1), _, _, rfl, rfl, ?_, a, _, _, _, rfl, rfl, SqL.of h1, at_of (j := (k + ps.length - 1) % ps.length) ?_ h3, ?_⟩
    · rw [h2]; omega
    · rw [h2]
      have e : (((k + ps.length - 1 : Nat) : Int)) = ((k : Int) - 1) + ps.length := by omega
      rw [Int.natCast_emod, e, Int.add_emod_right]
    · rw [gt_mod] at h4
      exact q b h4
theorem scAfter : FnScope ["corners", "k"] ["corners", "k"] (defScope sAfter) := ⟨rfl, rfl, rfl, by decide +kernel, rfl, by decide +kernel, by decide +kernel⟩
theorem ok_after {f : Addr} {fd : FuncData} (F : Fun K "corner_after" "corner_after" sAfter f fd) (B : Bu mg) : FnOk P w K mg base CX0 1 f fd ["corners", "k"] (spAfter K) := by
  refine F.ok scAfter (fun vs H Q E h => ?_) (fun cdv A outer s H vs Q E hr h => ?_)
  · obtain ⟨a, ps, k, rfl, _⟩ := h
    rfl
  · obtain ⟨a, ps, k, rfl, c, h0, q⟩ := h
    refine ⟨_, pss_one (ps_ret (pe_ix ix_list (pv 0) (pe_op op_mod (pe_op op_add (pv 1) pe_int) (pe_callB call_len_seq (by rfl) B.len PySem.boot_len (pa_cons (pv 0) pa_nil))) (fun _ _ => rfl))), ?_⟩
    obtain ⟨b, xs, h1, h2, h3, h4⟩ := c.get (Nat.mod_lt (k + 1) h0)
    refine ⟨_, rfl, _, rfl, _, _, rfl, rfl, _, rfl, a, _, rfl, .inl (SqL.of h1), _, _, rfl, rfl, ?_, a, _, _, _, rfl, rfl, SqL.of h1, at_of (j := (k + 1) % ps.length) ?_ h3, ?_⟩
    · rw [h2]; omega
    · rw [h2, Int.natCast_emod, Int.natCast_add]
      rfl
    · rw [gt_mod] at h4
      exact q b h4
theorem scTurnAt : FnScope ["corners", "k"] ["corners", "k"] (defScope sTurnAt) := ⟨rfl, rfl, rfl, by decide +kernel, rfl, by decide +kernel, by decide +kernel⟩
theorem ok_turnAt {f fT fB fA : Addr} {fd fdT fdB fdA : FuncData} (F : Fun K "turn_at" "turn_at" sTurnAt f fd) (T : Gd P w K mg base "turn" 1 ["a", "b", "c"] (spTurn K) fT fdT)
    (Bf : Gd P w K mg base "corner_before" 1 ["corners", "k"] (spBefore K) fB fdB) (Af : Gd P w K mg base "corner_after" 1 ["corners", "k"] (spAfter K) fA fdA) : FnOk P w K mg base CX0 2 f fd ["corners", "k"] (spTurnAt K) := by
  refine F.ok scTurnAt (fun vs H Q E h => ?_) (fun cdv A outer s H vs Q E hr h => ?_)
  · obtain ⟨a, ps, k, rfl, _⟩ := h
    rfl
  · obtain ⟨a, ps, k, rfl, c, h0, sm, q⟩ := h
    refine ⟨_, pss_one (ps_ret (pe_call T.ok hr (by rfl) T.gl T.kp T.bd .nil pass0 (pa_cons (pe_call Bf.ok hr (by rfl) Bf.gl Bf.kp Bf.bd .nil pass0 (pa_cons (pv 0) (pa_cons (pv 1) pa_nil)))
      (pa_cons (pe_ix ix_list (pv 0) (pv 1) (fun _ _ => rfl)) (pa_cons (pe_call Af.ok hr (by rfl) Af.gl Af.kp Af.bd .nil pass0 (pa_cons (pv 0) (pa_cons (pv 1) pa_nil))) pa_nil))))), ?_⟩
    have h1 : 0 < ps.length := by omega
    refine ⟨_, rfl, _, rfl, a, ps, k, rfl, c, h1, fun b1 e1 => ?_⟩
    obtain ⟨b2, xs, g1, g2, g3, g4⟩ := c.get h0
    refine ⟨_, rfl, _, rfl, a, _, _, _, rfl, rfl, SqL.of g1, atI_nat g3, ?_⟩
    refine ⟨_, rfl, _, rfl, a, ps, k, rfl, c, h1, fun b3 e3 => ?_⟩
    exact ⟨b1, b2, b3, _, _, _, rfl, SqT.of e1, SqT.of g4, SqT.of e3, sm _ (gt_mem h1 _), sm _ (gt_mem h1 _), sm _ (gt_mem h1 _), q⟩
/-! ### is_between, lies_on_side, sides_meet -/
def spBtw (K : PySem.W.Frag) : Sp := fun vs H Q _ => ∃ (x a b : Int), vs = [.int x, .int a, .int b] ∧ Q (.bl (btw x a b)) H
theorem scBtw : FnScope ["number", "one", "other"] ["number", "one", "other"] (defScope sBetween) := ⟨rfl, rfl, rfl, by decide +kernel, rfl, by decide +kernel, by decide +kernel⟩
theorem min_is (i j : Int) : (if j < i then j else i) = min i j := by
  rw [Int.min_def]
  by_cases h : j < i
  · rw [if_pos h, if_neg (by omega)]
  · rw [if_neg h, if_pos (by omega)]
theorem max_is (i j : Int) : (if j > i then j else i) = max i j := by
  rw [Int.max_def]
  by_cases h : j > i
  · rw [if_pos h, if_pos (by omega)]
  · rw [if_neg h]
    by_cases e : i ≤ j
    · rw [if_pos e]; omega
    · rw [if_neg e]
theorem ok_btw {f : Addr} {fd : FuncData} (F : Fun K "is_between" "is_between" sBetween f fd) (B : Bu mg) : FnOk P w K mg base CX0 1 f fd ["number", "one", "other"] (spBtw K) := by
  refine F.ok scBtw (fun vs H Q E h => ?_) (fun cdv A outer s H vs Q E hr h => ?_)
  · obtain ⟨x, a, b, rfl, _⟩ := h
    rfl
  · obtain ⟨x, a, b, rfl, q⟩ := h
    refine ⟨_, pss_one (ps_ret (pe_and (pe_cmpR op_le (pe_callB (call_min2 rfl) (by rfl) B.min (by decide +kernel) (pa_cons (pv 1) (pa_cons (pv 2) pa_nil))) (pv 0) (nomark _))
      (pe_one (pe_cmpR op_le (pv 0) (pe_callB (call_max2 rfl) (by rfl) B.max (by decide +kernel) (pa_cons (pv 1) (pa_cons (pv 2) pa_nil))) (nomark _))))), ?_⟩
    refine ⟨_, rfl, _, rfl, a, b, rfl, _, rfl, _, _, rfl, rfl, _, rfl, ?_⟩
    rw [min_is]
    unfold btw at q
    refine ite2 (fun e => ?_) (fun e => ?_)
    · refine ⟨_, rfl, _, rfl, _, rfl, a, b, rfl, _, _, rfl, rfl, ?_⟩
      rw [max_is]
      rw [e, Bool.true_and] at q
      exact q
    · rw [Bool.eq_false_iff.mpr e, Bool.false_and] at q
      exact q
def spOn (K : PySem.W.Frag) : Sp := fun vs H Q _ => ∃ (p q r : Addr) (z a b : Pt), vs = [.ref p, .ref q, .ref r] ∧ SqT K H p (ptV z) ∧ SqT K H q (ptV a) ∧ SqT K H r (ptV b) ∧ Sm z ∧ Sm a ∧ Sm b ∧ Q (.bl (onS z a b)) H
theorem scOn : FnScope ["point", "a", "b"] ["point", "a", "b"] (defScope sOn) := ⟨rfl, rfl, rfl, by decide +kernel, rfl, by decide +kernel, by decide +kernel⟩
theorem ok_on {f fT fB : Addr} {fd fdT fdB : FuncData} (F : Fun K "lies_on_side" "lies_on_side" sOn f fd) (T : Gd P w K mg base "turn" 1 ["a", "b", "c"] (spTurn K) fT fdT)
    (Bt : Gd P w K mg base "is_between" 1 ["number", "one", "other"] (spBtw K) fB fdB) : FnOk P w K mg base CX0 2 f fd ["point", "a", "b"] (spOn K) := by
  refine F.ok scOn (fun vs H Q E h => ?_) (fun cdv A outer s H vs Q E hr h => ?_)
  · obtain ⟨p, q, r, z, a, b, rfl, _⟩ := h
    rfl
  · obtain ⟨p, q, r, z, a, b, rfl, hp, hq, hr', sz, sa, sb, k⟩ := h
    refine ⟨_, pss_cons (ps_if (pt_cmpR op_ne (pe_call T.ok hr (by rfl) T.gl T.kp T.bd .nil pass0 (pa_cons (pv 1) (pa_cons (pv 2) (pa_cons (pv 0) pa_nil)))) pe_int (nomark _)) (pss_one (ps_ret pe_bl)) pss_nil)
      (pss_one (ps_ret (pe_and (pe_call Bt.ok hr (by rfl) Bt.gl Bt.kp Bt.bd .nil pass0 (pa_cons (pe_ix ix_tup (pv 0) pe_int (fun _ _ => rfl)) (pa_cons (pe_ix ix_tup (pv 1) pe_int (fun _ _ => rfl)) (pa_cons (pe_ix ix_tup (pv 2) pe_int (fun _ _ => rfl)) pa_nil))))
        (pe_one (pe_call Bt.ok hr (by rfl) Bt.gl Bt.kp Bt.bd .nil pass0 (pa_cons (pe_ix ix_tup (pv 0) pe_int (fun _ _ => rfl)) (pa_cons (pe_ix ix_tup (pv 1) pe_int (fun _ _ => rfl)) (pa_cons (pe_ix ix_tup (pv 2) pe_int (fun _ _ => rfl)) pa_nil)))))))), ?_⟩
    refine ⟨_, rfl, _, rfl, _, rfl, q, r, p, a, b, z, rfl, hq, hr', hp, sa, sb, sz, rfl, _, rfl, ?_⟩
    unfold onS at k
    refine ite2 (fun e => ?_) (fun e => ?_)
    · have e1 : tn a b z ≠ 0 := fun e2 => by
        rw [e2] at e
        simp at e
      rw [if_pos e1] at k
      exact k
    · have e1 : ¬ tn a b z ≠ 0 := fun e2 => e (by
        rw [Bool.not_eq_true', decide_eq_false_iff_not]
        exact fun e3 => e2 (V.int.inj e3))
      rw [if_neg e1] at k
      refine ⟨_, rfl, p, _, 0, .int z.1, rfl, rfl, hp, rfl, _, rfl, q, _, 0, .int a.1, rfl, rfl, hq, rfl, _, rfl, r, _, 0, .int b.1, rfl, rfl, hr', rfl, z.1, a.1, b.1, rfl, _, rfl, ?_⟩
      refine ite2 (fun e => ?_) (fun e => ?_)
      · refine ⟨_, rfl, p, _, 1, .int z.2, rfl, rfl, hp, rfl, _, rfl, q, _, 1, .int a.2, rfl, rfl, hq, rfl, _, rfl, r, _, 1, .int b.2, rfl, rfl, hr', rfl, z.2, a.2, b.2, rfl, ?_⟩
        rw [e, Bool.true_and] at k
        exact k
      · rw [Bool.eq_false_iff.mpr e, Bool.false_and] at k
        exact k
end
end Fg

set_option Elab.async false
set_option linter.all false
set_option maxRecDepth 100000
set_option maxHeartbeats 2000000
namespace Fg
open PySem PySem.Spec PyProof.Rows L2
open PySem.W (Codec)
section
variable {P : Program} {w : World} {K : PySem.W.Frag} {mg : Str → Option Value} {base : Heap}
theorem tn_small {a b c : Pt} (ha : Sm a) (hb : Sm b) (hc : Sm c) : (tn a b c).natAbs < 2 ^ 6003 := by
  have h1 := sub_small hb.1 ha.1
  have h2 := sub_small hc.2 ha.2
  have h3 := sub_small hb.2 ha.2
  have h4 := sub_small hc.1 ha.1
  have m : ∀ x y : Int, x.natAbs < 2 ^ 3001 → y.natAbs < 2 ^ 3001 → (x * y).natAbs < 2 ^ 6002 := fun x y hx hy => by
    rw [Int.natAbs_mul, show (6002 : Nat) = 3001 + 3001 from rfl, Nat.pow_add]
    exact Nat.mul_lt_mul'' hx hy
  unfold tn
  exact sub_small (n := 6002) (m _ _ h1 h2) (m _ _ h3 h4)
def spMeet (K : PySem.W.Frag) : Sp := fun vs H Q _ => ∃ (a : Addr) (ps : List Pt) (i j : Nat), vs = [.ref a, .int (i : Int), .int (j : Int)] ∧ Cs H a ps ∧ i < ps.length ∧ j < ps.length ∧ (∀ p ∈ ps, Sm p) ∧ Q (.bl (smeet ps i j)) H
theorem scMeet : FnScope ["corners", "i", "j", "a", "b", "c", "d"] ["corners", "i", "j"] (defScope sMeet) := ⟨rfl, rfl, rfl, by decide +kernel, rfl, by decide +kernel, by decide +kernel⟩
theorem ok_meet {f fT fA fO : Addr} {fd fdT fdA fdO : FuncData} (F : Fun K "sides_meet" "sides_meet" sMeet f fd) (T : Gd P w K mg base "turn" 1 ["a", "b", "c"] (spTurn K) fT fdT)
    (Af : Gd P w K mg base "corner_after" 1 ["corners", "k"] (spAfter K) fA fdA) (On : Gd P w K mg base "lies_on_side" 2 ["point", "a", "b"] (spOn K) fO fdO) : FnOk P w K mg base CX0 3 f fd ["corners", "i", "j"] (spMeet K) := by
  refine F.ok scMeet (fun vs H Q E h => ?_) (fun cdv A outer s H vs Q E hr h => ?_)
  · obtain ⟨a, ps, i, j, rfl, _⟩ := h
    rfl
  · obtain ⟨o, ps, i, j, rfl, cs, hi, hj, sm, q⟩ := h
    have hr1 : Room 1 _ := hr.mono (by decide)
    refine ⟨_, pss_cons (ps_set (i := 3) scMeet.nd rfl (.inl rfl) (pe_ix ix_list (pv 0) (pv 1) (fun _ _ => rfl)))
      (pss_cons (ps_set (i := 4) scMeet.nd rfl (.inl rfl) (pe_call Af.ok hr1 (by rfl) Af.gl Af.kp Af.bd .nil pass0 (pa_cons (pv 0) (pa_cons (pv 1) pa_nil))))
      (pss_cons (ps_set (i := 5) scMeet.nd rfl (.inl rfl) (pe_ix ix_list (pv 0) (pv 2) (fun _ _ => rfl)))
      (pss_cons (ps_set (i := 6) scMeet.nd rfl (.inl rfl) (pe_call Af.ok hr1 (by rfl) Af.gl Af.kp Af.bd .nil pass0 (pa_cons (pv 0) (pa_cons (pv 2) pa_nil))))
      (pss_cons (ps_if (PW.pt (pw_or (pt_val (pe_call On.ok hr (by rfl) On.gl On.kp On.bd .nil pass0 (pa_cons (pv 3) (pa_cons (pv 5) (pa_cons (pv 6) pa_nil)))))
          (pw_or (pt_val (pe_call On.ok hr (by rfl) On.gl On.kp On.bd .nil pass0 (pa_cons (pv 4) (pa_cons (pv 5) (pa_cons (pv 6) pa_nil)))))
          (pw_or (pt_val (pe_call On.ok hr (by rfl) On.gl On.kp On.bd .nil pass0 (pa_cons (pv 5) (pa_cons (pv 3) (pa_cons (pv 4) pa_nil)))))
          (pw_or1 (pt_val (pe_call On.ok hr (by rfl) On.gl On.kp On.bd .nil pass0 (pa_cons (pv 6) (pa_cons (pv 3) (pa_cons (pv 4) pa_nil)))))))))) (pss_one (ps_ret pe_bl)) pss_nil)
      (pss_one (ps_ret (pe_and (pe_cmpR op_lt (pe_op op_mulW (pe_call T.ok hr1 (by rfl) T.gl T.kp T.bd .nil pass0 (pa_cons (pv 3) (pa_cons (pv 4) (pa_cons (pv 5) pa_nil)))) (pe_call T.ok hr1 (by rfl) T.gl T.kp T.bd .nil pass0 (pa_cons (pv 3) (pa_cons (pv 4) (pa_cons (pv 6) pa_nil))))) pe_int (nomark _))
        (pe_one (pe_cmpR op_lt (pe_op op_mulW (pe_call T.ok hr1 (by rfl) T.gl T.kp T.bd .nil pass0 (pa_cons (pv 5) (pa_cons (pv 6) (pa_cons (pv 3) pa_nil)))) (pe_call T.ok hr1 (by rfl) T.gl T.kp T.bd .nil pass0 (pa_cons (pv 5) (pa_cons (pv 6) (pa_cons (pv 4) pa_nil))))) pe_int (nomark _)))))))))), ?_⟩
    have h0 : 0 < ps.length := by omega
    obtain ⟨pa, xs, g1, _, g3, ea⟩ := cs.get hi
    refine ⟨_, rfl, _, rfl, o, _, _, _, rfl, rfl, SqL.of g1, atI_nat g3, ?_⟩
    refine ⟨_, rfl, _, rfl, o, ps, i, rfl, cs, h0, fun pb eb => ?_⟩
    obtain ⟨pc, xs, g1, _, g3, ec⟩ := cs.get hj
    refine ⟨_, rfl, _, rfl, o, _, _, _, rfl, rfl, SqL.of g1, atI_nat g3, ?_⟩
    refine ⟨_, rfl, _, rfl, o, ps, j, rfl, cs, h0, fun pd ed => ?_⟩
    have sa := sm _ (gt_mem h0 i)
    have sb := sm _ (gt_mem h0 (i + 1))
    have sc := sm _ (gt_mem h0 j)
    have sd := sm _ (gt_mem h0 (j + 1))
    unfold smeet at q
    dsimp only at q
    generalize gt ps i = a at *
    generalize gt ps (i + 1) = b at *
    generalize gt ps j = c at *
    generalize gt ps (j + 1) = d at *
    refine ⟨_, rfl, _, rfl, _, rfl, pa, pc, pd, a, c, d, rfl, SqT.of ea, SqT.of ec, SqT.of ed, sa, sc, sd, _, rfl, ite2 (fun e => ?_) (fun e => ?_)⟩
    · rw [e, Bool.true_or, if_pos rfl] at q
      exact iteT q
    · rw [Bool.eq_false_iff.mpr e, Bool.false_or] at q
      refine ⟨_, rfl, _, rfl, _, rfl, pb, pc, pd, b, c, d, rfl, SqT.of eb, SqT.of ec, SqT.of ed, sb, sc, sd, _, rfl, ite2 (fun e => ?_) (fun e => ?_)⟩
      · rw [e, Bool.true_or, if_pos rfl] at q
        exact iteT q
      · rw [Bool.eq_false_iff.mpr e, Bool.false_or] at q
        refine ⟨_, rfl, _, rfl, _, rfl, pc, pa, pb, c, a, b, rfl, SqT.of ec, SqT.of ea, SqT.of eb, sc, sa, sb, _, rfl, ite2 (fun e => ?_) (fun e => ?_)⟩
        · rw [e, Bool.true_or, if_pos rfl] at q
          exact iteT q
        · rw [Bool.eq_false_iff.mpr e, Bool.false_or] at q
          refine ⟨_, rfl, _, rfl, _, rfl, pd, pa, pb, d, a, b, rfl, SqT.of ed, SqT.of ea, SqT.of eb, sd, sa, sb, _, rfl, ite2 (fun e => ?_) (fun e => ?_)⟩
          · rw [if_pos e] at q
            exact q
          · rw [if_neg e] at q
            have W : ∀ {x y : Int}, x.natAbs < 2 ^ 6003 → y.natAbs < 2 ^ 6003 → CMulW x y := fun h1 h2 => wide_mul h1 h2 (by decide) (by decide) (by decide)
            refine ⟨_, rfl, _, rfl, _, rfl, pa, pb, pc, a, b, c, rfl, SqT.of ea, SqT.of eb, SqT.of ec, sa, sb, sc, _, rfl, _, rfl, _, rfl, pa, pb, pd, a, b, d, rfl, SqT.of ea, SqT.of eb, SqT.of ed, sa, sb, sd,
              _, _, rfl, rfl, W (tn_small sa sb sc) (tn_small sa sb sd), _, _, rfl, rfl, _, rfl, ite2 (fun e => ?_) (fun e => ?_)⟩
            · refine ⟨_, rfl, _, rfl, _, rfl, pc, pd, pa, c, d, a, rfl, SqT.of ec, SqT.of ed, SqT.of ea, sc, sd, sa, _, rfl, _, rfl, _, rfl, pc, pd, pb, c, d, b, rfl, SqT.of ec, SqT.of ed, SqT.of eb, sc, sd, sb,
                _, _, rfl, rfl, W (tn_small sc sd sa) (tn_small sc sd sb), _, _, rfl, rfl, ?_⟩
              rw [e, Bool.true_and] at q
              exact q
            · rw [Bool.eq_false_iff.mpr e, Bool.false_and] at q
              exact q
/-! ### turns_everywhere, twice_size -/
def spTurnsEv (K : PySem.W.Frag) : Sp := fun vs H Q _ => ∃ (a : Addr) (ps : List Pt), vs = [.ref a] ∧ Cs H a ps ∧ ps.length ≤ 1000 ∧ (∀ p ∈ ps, Sm p) ∧ ∀ H', Same H H' → Q (.bl (tEv ps)) H'
theorem scTurnsEv : FnScope ["corners", "k"] ["corners"] (defScope sTurnsEv) := ⟨rfl, rfl, rfl, by decide +kernel, rfl, by decide +kernel, by decide +kernel⟩
theorem ok_turnsEv {f fT : Addr} {fd fdT : FuncData} (F : Fun K "turns_everywhere" "turns_everywhere" sTurnsEv f fd) (B : Bu mg) (T : Gd P w K mg base "turn_at" 2 ["corners", "k"] (spTurnAt K) fT fdT) : FnOk P w K mg base CX0 3 f fd ["corners"] (spTurnsEv K) := by
  refine F.ok scTurnsEv (fun vs H Q E h => ?_) (fun cdv A outer s H vs Q E hr h => ?_)
  · obtain ⟨a, ps, rfl, _⟩ := h
    rfl
  · obtain ⟨a, ps, rfl, cs, hl, sm, q⟩ := h
    refine ⟨_, pss_one (ps_ret (pe_callB (cr_all rfl) (by rfl) B.all (by decide +kernel) (pa_cons
      (pe_lc (own := [("k", 1)]) (g := gName 1) (tt := tYes) rfl scTurnsEv.nd (pi_range1 rfl B.range (pa_cons (pe_callB call_len_seq (by rfl) B.len PySem.boot_len (pa_cons (pv 0) pa_nil)) pa_nil))
        (blkOk_by (N := ["corners", "k"]) (sc := defScope sTurnsEv) (by decide +kernel)) (fun _ _ _ _ _ => pg_name (i := 1) scTurnsEv.nd rfl (Or.inl rfl)) (fun _ _ _ _ _ => pts_nil)
        (fun _ _ _ _ _ => pe_cmpR op_ne (pe_call T.ok hr (by rfl) T.gl T.kp T.bd .nil pass0 (pa_cons (pv 0) (pa_cons (pv 1) pa_nil))) pe_int (nomark _))) pa_nil))), ?_⟩
    obtain ⟨xs, g1, g2⟩ := cs.lst
    refine ⟨_, rfl, a, _, rfl, .inl (SqL.of g1), _, rfl, by rw [g2]; omega, by rw [g2]; omega, fun D hD => ?_⟩
    rw [g2, Int.toNat_natCast]
    let g : Nat → Bool := fun k => decide (tn (gt ps (k + ps.length - 1)) (gt ps k) (gt ps (k + 1)) ≠ 0)
    refine lc_range (fun i H' => Same H H' ∧ H' D = some (.lst ((((List.range ps.length).map g).take i).map V.bl))) ⟨same_upd hD, upd_same⟩ (fun i H' hi ⟨s1, d1⟩ => ?_) (fun H' ⟨s1, d1⟩ => ?_)
    · refine ⟨rfl, ?_⟩
      refine ⟨_, rfl, _, rfl, a, ps, i, by rw [Int.zero_add]; rfl, cs.same s1, hi, sm, rfl, ?_⟩
      refine ⟨_, d1, ?_, fun b o e => ?_, ?_⟩
      · rw [List.length_map, List.length_take]
        exact small_of (Nat.le_trans (Nat.min_le_left _ _) (by omega))
      · rw [upd_ne (ne_of_none e hD)]
        exact s1 _ _ e
      · rw [upd_same, range_take_succ g hi, List.map_append]
        have e : (!decide (V.int (tn (gt ps (i + ps.length - 1)) (gt ps i) (gt ps (i + 1))) = V.int 0)) = g i := by
          show _ = decide _
          by_cases z : tn (gt ps (i + ps.length - 1)) (gt ps i) (gt ps (i + 1)) = 0
          · simp [z]
          · simp [z]
        rw [e]
        rfl
    · refine ⟨D, _, rfl, SqL.of d1, ?_⟩
      rw [List.take_of_length_le (by simp), all_take]
      exact q H' s1
def spTwice (K : PySem.W.Frag) : Sp := fun vs H Q _ => ∃ (a : Addr) (ps : List Pt), vs = [.ref a] ∧ Cs H a ps ∧ ps.length ≤ 1000 ∧ (∀ p ∈ ps, Sm p) ∧ ∀ H', Same H H' → Q (.int (tw ps)) H'
theorem scTwice : FnScope ["corners", "k"] ["corners"] (defScope sTwice) := ⟨rfl, rfl, rfl, by decide +kernel, rfl, by decide +kernel, by decide +kernel⟩
theorem sm0 : Sm (0, 0) := ⟨Nat.pow_pos (by decide), Nat.pow_pos (by decide)⟩
theorem ok_twice {f fT fA : Addr} {fd fdT fdA : FuncData} (F : Fun K "twice_size" "twice_size" sTwice f fd) (B : Bu mg) (T : Gd P w K mg base "turn" 1 ["a", "b", "c"] (spTurn K) fT fdT)
    (Af : Gd P w K mg base "corner_after" 1 ["corners", "k"] (spAfter K) fA fdA) : FnOk P w K mg base CX0 2 f fd ["corners"] (spTwice K) := by
  refine F.ok scTwice (fun vs H Q E h => ?_) (fun cdv A outer s H vs Q E hr h => ?_)
  · obtain ⟨a, ps, rfl, _⟩ := h
    rfl
  · obtain ⟨a, ps, rfl, cs, hl, sm, q⟩ := h
    refine ⟨_, pss_one (ps_ret (pe_callB (cr_sum rfl) (by rfl) B.sum (by decide +kernel) (pa_cons
      (pe_lc (own := [("k", 1)]) (g := gName 1) (tt := tYes) rfl scTwice.nd (pi_range1 rfl B.range (pa_cons (pe_callB call_len_seq (by rfl) B.len PySem.boot_len (pa_cons (pv 0) pa_nil)) pa_nil))
        (blkOk_by (N := ["corners", "k"]) (sc := defScope sTwice) (by decide +kernel)) (fun _ _ _ _ _ => pg_name (i := 1) scTwice.nd rfl (Or.inl rfl)) (fun _ _ _ _ _ => pts_nil)
        (fun _ _ _ _ _ => pe_call T.ok hr (by rfl) T.gl T.kp T.bd .nil pass0 (pa_cons (pe_tup (pa_cons pe_int (pa_cons pe_int pa_nil))) (pa_cons (pe_ix (r := rIxL K) ix_list (pv 0) (pv 1) (fun _ _ => rfl))
          (pa_cons (pe_call Af.ok hr (by rfl) Af.gl Af.kp Af.bd .nil pass0 (pa_cons (pv 0) (pa_cons (pv 1) pa_nil))) pa_nil))))) pa_nil))), ?_⟩
    obtain ⟨xs, g1, g2⟩ := cs.lst
    refine ⟨_, rfl, a, _, rfl, .inl (SqL.of g1), _, rfl, by rw [g2]; omega, by rw [g2]; omega, fun D hD => ?_⟩
    rw [g2, Int.toNat_natCast]
    let g : Nat → Int := fun k => tn (0, 0) (gt ps k) (gt ps (k + 1))
    refine lc_range (fun i H' => Same H H' ∧ H' D = some (.lst ((((List.range ps.length).map g).take i).map V.int))) ⟨same_upd hD, upd_same⟩ (fun i H' hi ⟨s1, d1⟩ => ?_) (fun H' ⟨s1, d1⟩ => ?_)
    · refine ⟨rfl, ?_⟩
      have h0 : 0 < ps.length := by omega
      refine ⟨(by show 2 ≤ sizeLine; decide), fun z hz => ?_⟩
      have s2 : Same H' (upd H' z (.tup [.int 0, .int 0])) := same_upd hz
      have c2 := (cs.same s1).same s2
      obtain ⟨pb, xs2, k1, k2, k3, eb⟩ := c2.get hi
      refine ⟨_, rfl, _, rfl, a, _, _, _, rfl, rfl, SqL.of k1, at_of (Int.zero_add _) k3, ?_⟩
      refine ⟨_, rfl, _, rfl, a, ps, i, by rw [Int.zero_add]; rfl, c2, h0, fun pc ec => ?_⟩
      refine ⟨z, pb, pc, (0, 0), gt ps i, gt ps (i + 1), rfl, SqT.of upd_same, SqT.of eb, SqT.of ec, sm0, sm _ (gt_mem h0 _), sm _ (gt_mem h0 _), ?_⟩
      refine ⟨_, s2 _ _ d1, ?_, fun b o e => ?_, ?_⟩
      · rw [List.length_map, List.length_take]
        exact small_of (Nat.le_trans (Nat.min_le_left _ _) (by omega))
      · rw [upd_ne (ne_of_none e hD)]
        exact s2 _ _ (s1 _ _ e)
      · rw [upd_same, range_take_succ g hi, List.map_append]
        rfl
    · refine ⟨D, _, rfl, SqL.of d1, ?_⟩
      rw [List.take_of_length_le (by simp)]
      exact q H' s1
end
end Fg

set_option Elab.async false
set_option linter.all false
set_option maxRecDepth 100000
set_option maxHeartbeats 2000000
namespace Fg
open PySem PySem.Spec PyProof.Rows L2
open PySem.W (Codec)
section
variable {P : Program} {w : World} {K : PySem.W.Frag} {mg : Str → Option Value} {base : Heap}
/-! ### sides_keep_apart -/
def pairOk (l : List Pt) (i j : Nat) : Bool := decide (j ≤ i + 1) || decide ((j + 1) % l.length = i) || !smeet l i j
theorem apart_iff (l : List Pt) : apart l = true ↔ ∀ i, i < l.length → ∀ j, j < l.length → pairOk l i j = true := by
  unfold apart
  simp only [List.all_eq_true, List.mem_range]
  rfl
def spApart (K : PySem.W.Frag) : Sp := fun vs H Q _ => ∃ (a : Addr) (ps : List Pt), vs = [.ref a] ∧ Cs H a ps ∧ ps.length ≤ 1000 ∧ (∀ p ∈ ps, Sm p) ∧ Q (.bl (apart ps)) H
theorem scApart : FnScope ["corners", "i", "j", "follows"] ["corners"] (defScope sApart) := ⟨rfl, rfl, rfl, by decide +kernel, rfl, by decide +kernel, by decide +kernel⟩
theorem ok_apart {f fM : Addr} {fd fdM : FuncData} (F : Fun K "sides_keep_apart" "sides_keep_apart" sApart f fd) (B : Bu mg) (M : Gd P w K mg base "sides_meet" 3 ["corners", "i", "j"] (spMeet K) fM fdM) : FnOk P w K mg base CX0 4 f fd ["corners"] (spApart K) := by
  refine F.ok scApart (fun vs H Q E h => ?_) (fun cdv A outer s H vs Q E hr h => ?_)
  · obtain ⟨a, ps, rfl, _⟩ := h
    rfl
  · obtain ⟨a, ps, rfl, cs, hl, sm, q⟩ := h
    obtain ⟨xs, g1, g2⟩ := cs.lst
    refine ⟨_, pss_cons (ps_for PassesOwn.never rfl (pi_range1 (by rfl) B.range (pa_cons (pe_callB call_len_seq (by rfl) B.len PySem.boot_len (pa_cons (pv 0) pa_nil)) pa_nil)) (pg_name (i := 1) scApart.nd rfl (Or.inl rfl))
        (pss_one (ps_for PassesOwn.never rfl (pi_range2 (by rfl) B.range (pa_cons (pe_op op_add (pv 1) pe_int) (pa_cons (pe_callB call_len_seq (by rfl) B.len PySem.boot_len (pa_cons (pv 0) pa_nil)) pa_nil))) (pg_name (i := 2) scApart.nd rfl (Or.inl rfl))
          (pss_cons (ps_set (i := 3) scApart.nd rfl (Or.inl rfl) (pe_cmpR op_eq (pe_op op_mod (pe_op op_add (pv 2) pe_int) (pe_callB call_len_seq (by rfl) B.len PySem.boot_len (pa_cons (pv 0) pa_nil))) (pv 1) (nomark _)))
          (pss_one (ps_if (PW.pt (pw_and (pt_not (pt_val (pv 3))) (pw_and1 (pt_val (pe_call M.ok hr (by rfl) M.gl M.kp M.bd .nil pass0 (pa_cons (pv 0) (pa_cons (pv 1) (pa_cons (pv 2) pa_nil)))))))) (pss_one (ps_ret pe_bl)) pss_nil))))))
      (pss_one (ps_ret pe_bl)), ?_⟩
    refine ⟨_, rfl, a, _, rfl, .inl (SqL.of g1), _, rfl, by rw [g2]; omega, by rw [g2]; omega, ?_⟩
    rw [g2, Int.toNat_natCast]
    refine for_range (fun t σ H' => ∃ v1 v2 v3, σ = [some (.ref a), v1, v2, v3] ∧ H' = H ∧ ∀ i, i < t → ∀ j, j < ps.length → pairOk ps i j = true) ⟨none, none, none, rfl, rfl, fun i hi => by omega⟩ ?_ ?_
    · rintro i σ H' hi ⟨v1, v2, v3, rfl, rfl, hok⟩
      refine ⟨_, rfl, _, _, rfl, rfl, _, rfl, a, _, rfl, .inl (SqL.of g1), _, _, rfl, by rw [g2]; omega, ?_⟩
      rw [g2]
      refine for_range (fun t σ H'' => ∃ v2 v3, σ = [some (.ref a), some (.int (0 + (i : Int))), v2, v3] ∧ H'' = H' ∧ ∀ j, j < i + 2 + t → j < ps.length → pairOk ps i j = true) ⟨v2, v3, rfl, rfl, fun j hj _ => ?_⟩ ?_ ?_
      · unfold pairOk
        rw [decide_eq_true (show j ≤ i + 1 by omega)]
        rfl
      · rintro t σ H'' ht ⟨v2, v3, rfl, rfl, hin⟩
        have hj : i + 2 + t < ps.length := by omega
        have ej : (0 + (i : Int) + 2 + (t : Int)) = ((i + 2 + t : Nat) : Int) := by omega
        refine ⟨_, rfl, _, _, rfl, rfl, _, rfl, a, _, rfl, .inl (SqL.of g1), _, _, rfl, rfl, by rw [g2]; omega, _, rfl, rfl, ?_⟩
        refine ⟨_, rfl, _, rfl, ?_⟩
        have e0 : decide (V.int ((0 + (i : Int) + 2 + (t : Int) + 1) % (xs.length : Int)) = V.int (0 + (i : Int))) = decide ((i + 2 + t + 1) % ps.length = i) := by
          rw [g2]
          by_cases z : (i + 2 + t + 1) % ps.length = i
          · rw [decide_eq_true z]
            refine decide_eq_true (congrArg V.int ?_)
            rw [show (0 + (i : Int) + 2 + (t : Int) + 1) = ((i + 2 + t + 1 : Nat) : Int) by omega, ← Int.natCast_emod, z, Int.zero_add]
          · rw [decide_eq_false z]
            refine decide_eq_false fun z2 => z ?_
            have z3 := V.int.inj z2
            rw [show (0 + (i : Int) + 2 + (t : Int) + 1) = ((i + 2 + t + 1 : Nat) : Int) by omega, ← Int.natCast_emod] at z3
            omega
        rw [e0]
        have nextOk : pairOk ps i (i + 2 + t) = true → ∀ j, j < i + 2 + (t + 1) → j < ps.length → pairOk ps i j = true := fun h j hj1 hj2 => by
          by_cases z : j < i + 2 + t
          · exact hin j z hj2
          · rw [show j = i + 2 + t by omega]
            exact h
        refine ite2 (fun e => ?_) (fun e => ?_)
        · refine ⟨_, rfl, _, rfl, _, rfl, a, ps, i, i + 2 + t, ?_, cs, hi, hj, sm, _, rfl, ite2 (fun e1 => ?_) (fun e1 => ?_)⟩
          · rw [Int.zero_add]
            show [V.ref a, V.int (i : Int), V.int ((i : Int) + 2 + (t : Int))] = _
            rw [show ((i : Int) + 2 + (t : Int)) = ((i + 2 + t : Nat) : Int) by omega]
          · have z : apart ps = false := by
              rw [Bool.eq_false_iff]
              intro z
              have z2 := (apart_iff ps).mp z i hi _ hj
              unfold pairOk at z2
              rw [e1, decide_eq_false (show ¬ (i + 2 + t ≤ i + 1) by omega)] at z2
              rw [Bool.not_eq_true'] at e
              rw [e] at z2
              exact Bool.noConfusion z2
            rw [z] at q
            exact q
          · refine ⟨_, _, rfl, rfl, nextOk ?_⟩
            unfold pairOk
            rw [Bool.eq_false_iff.mpr e1]
            simp
        · have e2 : decide ((i + 2 + t + 1) % ps.length = i) = true := by
            revert e
            cases decide ((i + 2 + t + 1) % ps.length = i) <;> simp
          refine iteF ⟨_, _, rfl, rfl, nextOk ?_⟩
          unfold pairOk
          rw [e2]
          simp
      · rintro σ H'' ⟨v2, v3, rfl, rfl, hin⟩
        refine ⟨_, _, _, rfl, rfl, fun i2 hi2 j hj => ?_⟩
        by_cases z : i2 < i
        · exact hok i2 z j hj
        · rw [show i2 = i by omega]
          exact hin j (by omega) hj
    · rintro σ H' ⟨v1, v2, v3, rfl, rfl, hok⟩
      have z : apart ps = true := (apart_iff ps).mpr hok
      rw [z] at q
      exact q
end
end Fg

set_option Elab.async false
set_option linter.all false
set_option maxRecDepth 100000
set_option maxHeartbeats 2000000
namespace Fg
open PySem PySem.Spec PyProof.Rows L2
open PySem.W (Codec)
/-- the constants of the top -/
structure Co (mg : Str → Option Value) : Prop where
  told : ∃ t, mg "NOT_AS_TOLD" = some (.int (-22) t)
  few : ∃ t, mg "FEWEST_CORNERS" = some (.int 3 t)
  most : ∃ t, mg "MOST_CORNERS" = some (.int 8 t)
  far : ∃ t, mg "FARTHEST" = some (.int 50 t)
section
variable {P : Program} {w : World} {K : PySem.W.Frag} {mg : Str → Option Value} {base : Heap}
def spForm (K : PySem.W.Frag) : Sp := fun vs H Q _ => ∃ (a : Addr) (ns : List Int), vs = [.ref a] ∧ SqL K H a (ns.map V.int) ∧ ns.length ≤ 2000 ∧ ∀ H', Same H H' → Q (.bl (form ns)) H'
theorem scForm : FnScope ["f", "number"] ["f"] (defScope sForm) := ⟨rfl, rfl, rfl, by decide +kernel, rfl, by decide +kernel, by decide +kernel⟩
theorem abs_is (x : Int) : decide ((if x < 0 then -x else x) ≤ 50) = decide (x.natAbs ≤ 50) := by
  by_cases h : x < 0
  · rw [if_pos h]
    by_cases z : x.natAbs ≤ 50
    · rw [decide_eq_true z, decide_eq_true (by omega)]
    · rw [decide_eq_false z, decide_eq_false (by omega)]
  · rw [if_neg h]
    by_cases z : x.natAbs ≤ 50
    · rw [decide_eq_true z, decide_eq_true (by omega)]
    · rw [decide_eq_false z, decide_eq_false (by omega)]
theorem ok_form {f : Addr} {fd : FuncData} (F : Fun K "has_form_of_figure" "has_form_of_figure" sForm f fd) (B : Bu mg) (C : Co mg) : FnOk P w K mg base CX0 1 f fd ["f"] (spForm K) := by
  obtain ⟨t1, c1⟩ := C.few
  obtain ⟨t2, c2⟩ := C.most
  obtain ⟨t3, c3⟩ := C.far
  refine F.ok scForm (fun vs H Q E h => ?_) (fun cdv A outer s H vs Q E hr h => ?_)
  · obtain ⟨a, ns, rfl, _⟩ := h
    rfl
  · obtain ⟨a, ns, rfl, hS, hl, q⟩ := h
    refine ⟨_, pss_cons (ps_if (pt_cmpR op_ne (pe_op op_mod (pe_callB call_len_seq (by rfl) B.len PySem.boot_len (pa_cons (pv 0) pa_nil)) pe_int) pe_int (nomark _)) (pss_one (ps_ret pe_bl)) pss_nil)
      (pss_cons (ps_if (PW.pt (pw_or (pt_cmpR op_lt (pe_callB call_len_seq (by rfl) B.len PySem.boot_len (pa_cons (pv 0) pa_nil)) (pe_op op_mul pe_int (pe_glob (v := .int 3) rfl c1 ⟨_, rfl⟩)) (nomark _))
          (pw_or1 (pt_cmpR op_gt (pe_callB call_len_seq (by rfl) B.len PySem.boot_len (pa_cons (pv 0) pa_nil)) (pe_op op_mul pe_int (pe_glob (v := .int 8) rfl c2 ⟨_, rfl⟩)) (nomark _))))) (pss_one (ps_ret pe_bl)) pss_nil)
      (pss_one (ps_ret (pe_callB (cr_all rfl) (by rfl) B.all (by decide +kernel) (pa_cons
        (pe_lc (own := [("number", 1)]) (g := gName 1) (tt := tYes) rfl scForm.nd (pi_list (pv 0))
          (blkOk_by (N := ["f", "number"]) (sc := defScope sForm) (by decide +kernel)) (fun _ _ _ _ _ => pg_name (i := 1) scForm.nd rfl (Or.inl rfl)) (fun _ _ _ _ _ => pts_nil)
          (fun _ _ _ _ _ => pe_cmpR op_le (pe_callB call_abs (by rfl) B.abs (by decide +kernel) (pa_cons (pv 1) pa_nil)) (pe_glob (v := .int 50) rfl c3 ⟨_, rfl⟩) (nomark _))) pa_nil))))), ?_⟩
    have el : (((ns.map V.int).length : Nat) : Int) = (ns.length : Int) := by rw [List.length_map]
    refine ⟨_, rfl, a, _, rfl, .inl hS, _, _, rfl, rfl, (by show (0 : Int) < 2; decide), rfl, _, rfl, ?_⟩
    unfold form at q
    rw [el]
    have e1 : (!decide (V.int ((ns.length : Int) % 2) = V.int 0)) = !decide (ns.length % 2 = 0) := by
      congr 1
      by_cases z : ns.length % 2 = 0
      · rw [decide_eq_true z]
        exact decide_eq_true (congrArg V.int (by omega))
      · rw [decide_eq_false z]
        exact decide_eq_false fun z2 => z (by have := V.int.inj z2; omega)
    rw [e1]
    refine ite2 (fun e => ?_) (fun e => ?_)
    · rw [Bool.not_eq_true'] at e
      rw [e, Bool.false_and, Bool.false_and] at q
      exact q H (Same.refl H)
    · have e2 : decide (ns.length % 2 = 0) = true := by
        revert e
        cases decide (ns.length % 2 = 0) <;> simp
      rw [e2, Bool.true_and] at q
      refine ⟨_, rfl, a, _, rfl, .inl hS, _, _, rfl, rfl, .inl ⟨by decide, by decide⟩, _, _, rfl, rfl, _, rfl, ?_⟩
      rw [el]
      refine ite2 (fun e => ?_) (fun e => ?_)
      · have e3 := of_decide_eq_true e
        rw [decide_eq_false (show ¬ 6 ≤ ns.length by omega), Bool.false_and, Bool.false_and] at q
        exact iteT (q H (Same.refl H))
      · have e3 : ¬ (ns.length : Int) < 2 * 3 := fun z => e (decide_eq_true z)
        rw [decide_eq_true (show 6 ≤ ns.length by omega), Bool.true_and] at q
        refine ⟨_, rfl, a, _, rfl, .inl hS, _, _, rfl, rfl, .inl ⟨by decide, by decide⟩, _, _, rfl, rfl, _, rfl, ?_⟩
        rw [el]
        refine ite2 (fun e => ?_) (fun e => ?_)
        · have e4 := of_decide_eq_true e
          rw [decide_eq_false (show ¬ ns.length ≤ 16 by omega), Bool.false_and] at q
          exact q H (Same.refl H)
        · have e4 : ¬ (2 * 8 : Int) < (ns.length : Int) := fun z => e (decide_eq_true z)
          rw [decide_eq_true (show ns.length ≤ 16 by omega), Bool.true_and] at q
          refine ⟨_, rfl, a, rfl, ⟨_, hS⟩, fun D hD => ?_⟩
          let g : Int → Bool := fun x => decide (x.natAbs ≤ 50)
          refine lc_list (K := K) (a := a) (xs := ns.map V.int) (fun i H' => Same H H' ∧ H' D = some (.lst (((ns.map g).take i).map V.bl))) ⟨same_upd hD, upd_same⟩ (fun i H' _ ⟨s1, _⟩ => s1.seq hS) (fun i x H' hi ⟨s1, d1⟩ => ?_) (fun H' ⟨s1, d1⟩ => ?_)
          · obtain ⟨z, hz, rfl⟩ : ∃ z, ns[i]? = some z ∧ x = V.int z := by
              rw [List.getElem?_map] at hi
              cases e : ns[i]? with
              | none =>
                rw [e] at hi
                cases hi
              | some z =>
                rw [e] at hi
                exact ⟨z, rfl, (Option.some.inj hi).symm⟩
            refine ⟨rfl, ?_⟩
            refine ⟨_, rfl, z, rfl, _, _, rfl, rfl, _, d1, ?_, fun b o e => ?_, ?_⟩
            · rw [List.length_map, List.length_take, List.length_map]
              exact small_two (Nat.le_trans (Nat.min_le_right _ _) hl)
            · rw [upd_ne (ne_of_none e hD)]
              exact s1 _ _ e
            · rw [upd_same, map_take_succ g hz, List.map_append]
              dsimp only
              rw [abs_is]
              rfl
          · refine ⟨D, _, rfl, SqL.of d1, ?_⟩
            rw [List.take_of_length_le (by simp), List.all_map]
            exact q H' s1
/-! ### corners_of -/
theorem prs_get : ∀ (ns : List Int) (i : Nat), 2 * i + 1 < ns.length → ∃ x y, ns[2 * i]? = some x ∧ ns[2 * i + 1]? = some y ∧ (prs ns)[i]? = some (x, y)
  | [], i, h => by simp at h
  | [_], i, h => by simp at h
  | x :: y :: l, 0, _ => ⟨x, y, rfl, rfl, rfl⟩
  | x :: y :: l, i + 1, h => by
    obtain ⟨u, v, h1, h2, h3⟩ := prs_get l i (by simp at h; omega)
    refine ⟨u, v, ?_, ?_, h3⟩
    · rw [show 2 * (i + 1) = 2 * i + 1 + 1 by omega]
      exact h1
    · rw [show 2 * (i + 1) + 1 = 2 * i + 1 + 1 + 1 by omega]
      exact h2
def spCorners (K : PySem.W.Frag) : Sp := fun vs H Q _ => ∃ (a : Addr) (ns : List Int), vs = [.ref a] ∧ SqL K H a (ns.map V.int) ∧ ns.length ≤ 2000 ∧ ns.length % 2 = 0 ∧
  ∀ H' p, Same H H' → H p = none → Cs H' p (prs ns) → Q (.ref p) H'
theorem scCorners : FnScope ["f", "k"] ["f"] (defScope sCorners) := ⟨rfl, rfl, rfl, by decide +kernel, rfl, by decide +kernel, by decide +kernel⟩
theorem ok_corners {f : Addr} {fd : FuncData} (F : Fun K "corners_of" "corners_of" sCorners f fd) (B : Bu mg) : FnOk P w K mg base CX0 1 f fd ["f"] (spCorners K) := by
  refine F.ok scCorners (fun vs H Q E h => ?_) (fun cdv A outer s H vs Q E hr h => ?_)
  · obtain ⟨a, ns, rfl, _⟩ := h
    rfl
  · obtain ⟨a, ns, rfl, hS, hl, h2, q⟩ := h
    refine ⟨_, pss_one (ps_ret
      (pe_lc (own := [("k", 1)]) (g := gName 1) (tt := tYes) rfl scCorners.nd (pi_range3 rfl B.range (pa_cons pe_int (pa_cons (pe_callB call_len_seq (by rfl) B.len PySem.boot_len (pa_cons (pv 0) pa_nil)) (pa_cons pe_int pa_nil))))
        (blkOk_by (N := ["f", "k"]) (sc := defScope sCorners) (by decide +kernel)) (fun _ _ _ _ _ => pg_name (i := 1) scCorners.nd rfl (Or.inl rfl)) (fun _ _ _ _ _ => pts_nil)
        (fun _ _ _ _ _ => pe_tup (pa_cons (pe_ix (r := rIxL K) ix_list (pv 0) (pv 1) (fun _ _ => rfl)) (pa_cons (pe_ix (r := rIxL K) ix_list (pv 0) (pe_op op_add (pv 1) pe_int) (fun _ _ => rfl)) pa_nil))))), ?_⟩
    refine ⟨_, rfl, a, _, rfl, .inl hS, _, _, _, ns.length / 2, rfl, ?_, fun D hD => ?_⟩
    · rw [List.length_map]
      exact rg_two hl h2
    have el : (prs ns).length = ns.length / 2 := prs_length ns
    refine lc_it walk_rangeC (fun i H' => Same H H' ∧ ∃ as : List Addr, H' D = some (.lst (as.map V.ref)) ∧ as.length = i ∧ ∀ (j : Nat) (p : Pt), j < i → (prs ns)[j]? = some p → ∃ b, as[j]? = some b ∧ H' b = some (.tup (ptV p)))
      ⟨same_upd hD, [], upd_same, rfl, fun j p hj _ => by omega⟩ (fun _ _ _ _ => trivial) ?_ ?_
    · rintro i x H1 H' hi ⟨s1, as, d1, la, hit⟩ ⟨rfl, rfl⟩
      obtain ⟨u, v, k1, k2, k3⟩ := prs_get ns i (by omega)
      refine ⟨rfl, ?_⟩
      have hA : SqL K H' a (ns.map V.int) := s1.seq hS
      refine ⟨_, rfl, _, rfl, a, _, _, .int u, rfl, rfl, hA, at_of (j := 2 * i) (by omega) (by rw [List.getElem?_map, k1]; rfl), ?_⟩
      refine ⟨_, rfl, _, rfl, _, _, rfl, rfl, a, _, _, .int v, rfl, rfl, hA, at_of (j := 2 * i + 1) (by omega) (by rw [List.getElem?_map, k2]; rfl), ?_⟩
      refine ⟨(by show 2 ≤ sizeLine; decide), fun z hz => ?_⟩
      have s2 : Same H' (upd H' z (.tup [.int u, .int v])) := same_upd hz
      refine ⟨_, s2 _ _ d1, ?_, fun b o e => ?_, as ++ [z], ?_, ?_, ?_⟩
      · rw [List.length_map]
        exact small_two (by omega)
      · rw [upd_ne (ne_of_none e hD)]
        exact s2 _ _ (s1 _ _ e)
      · rw [upd_same, List.map_append]
        rfl
      · rw [List.length_append, la]
        rfl
      · intro j p hj hp
        by_cases e : j < i
        · obtain ⟨b, b1, b2⟩ := hit j p e hp
          refine ⟨b, ?_, ?_⟩
          · rw [List.getElem?_append_left (by omega)]
            exact b1
          · rw [upd_ne (ne_of (s2 _ _ b2) (s2 _ _ d1) (by intro q; cases q))]
            exact s2 _ _ b2
        · have e2 : j = i := by omega
          subst e2
          have e3 : p = (u, v) := Option.some.inj (hp.symm.trans k3)
          subst e3
          refine ⟨z, ?_, ?_⟩
          · rw [List.getElem?_append_right (by omega), la, Nat.sub_self]
            rfl
          · rw [upd_ne (ne_of_none d1 hz).symm]
            exact upd_same
    · rintro H' ⟨s1, as, d1, la, hit⟩
      refine q H' D s1 hD ⟨as, d1, by rw [la, el], fun j p hp => hit j p ?_ hp⟩
      have := (List.getElem?_eq_some_iff.mp hp).1
      omega
end
end Fg

set_option Elab.async false
set_option linter.all false
set_option maxRecDepth 100000
set_option maxHeartbeats 2000000
namespace Fg
open PySem PySem.Spec PyProof.Rows L2
open PySem.W (Codec)
section
variable {P : Program} {w : World} {K : PySem.W.Frag} {mg : Str → Option Value} {base : Heap}
theorem prs_mem : ∀ (ns : List Int) (p : Pt), p ∈ prs ns → p.1 ∈ ns ∧ p.2 ∈ ns
  | [], p, h => by cases h
  | [_], p, h => by cases h
  | x :: y :: l, p, h => by
    rcases List.mem_cons.mp h with e | e
    · subst e
      exact ⟨by simp, by simp⟩
    · obtain ⟨h1, h2⟩ := prs_mem l p e
      exact ⟨by simp [h1], by simp [h2]⟩
theorem pow3000 : 50 < 2 ^ 3000 := by
  have h : 2 ^ 6 ≤ 2 ^ 3000 := Nat.pow_le_pow_right (by decide) (by decide)
  exact Nat.lt_of_lt_of_le (by decide) h
theorem form_sm {ns : List Int} (h : form ns = true) : (∀ p ∈ prs ns, Sm p) ∧ ns.length % 2 = 0 ∧ 6 ≤ ns.length ∧ ns.length ≤ 16 := by
  unfold form at h
  simp only [Bool.and_eq_true, decide_eq_true_eq, List.all_eq_true] at h
  obtain ⟨⟨h1, h2, h3⟩, h4⟩ := h
  refine ⟨fun p hp => ?_, h1, h2, h3⟩
  obtain ⟨m1, m2⟩ := prs_mem ns p hp
  exact ⟨Nat.lt_of_le_of_lt (h4 _ m1) pow3000, Nat.lt_of_le_of_lt (h4 _ m2) pow3000⟩
def spFig (K : PySem.W.Frag) : Sp := fun vs H Q _ => ∃ (a : Addr) (ns : List Int), vs = [.ref a] ∧ SqL K H a (ns.map V.int) ∧ ns.length ≤ 2000 ∧ ∀ H', Same H H' → Q (.bl (fig ns)) H'
theorem scFig : FnScope ["f", "corners"] ["f"] (defScope sFig) := ⟨rfl, rfl, rfl, by decide +kernel, rfl, by decide +kernel, by decide +kernel⟩
theorem ok_fig {f f1 f2 f3 f4 f5 : Addr} {fd fd1 fd2 fd3 fd4 fd5 : FuncData} (F : Fun K "is_figure" "is_figure" sFig f fd) (Fm : Gd P w K mg base "has_form_of_figure" 1 ["f"] (spForm K) f1 fd1) (Cr : Gd P w K mg base "corners_of" 1 ["f"] (spCorners K) f2 fd2)
    (Te : Gd P w K mg base "turns_everywhere" 3 ["corners"] (spTurnsEv K) f3 fd3) (Ap : Gd P w K mg base "sides_keep_apart" 4 ["corners"] (spApart K) f4 fd4) (Tw : Gd P w K mg base "twice_size" 2 ["corners"] (spTwice K) f5 fd5) : FnOk P w K mg base CX0 5 f fd ["f"] (spFig K) := by
  refine F.ok scFig (fun vs H Q E h => ?_) (fun cdv A outer s H vs Q E hr h => ?_)
  · obtain ⟨a, ns, rfl, _⟩ := h
    rfl
  · obtain ⟨a, ns, rfl, hS, hl, q⟩ := h
    have hr1 : Room 1 _ := hr.mono (by decide)
    have hr2 : Room 2 _ := hr.mono (by decide)
    have hr3 : Room 3 _ := hr.mono (by decide)
    refine ⟨_, pss_cons (ps_if (pt_not (pt_val (pe_call Fm.ok hr1 (by rfl) Fm.gl Fm.kp Fm.bd .nil pass0 (pa_cons (pv 0) pa_nil)))) (pss_one (ps_ret pe_bl)) pss_nil)
      (pss_cons (ps_set (i := 1) scFig.nd rfl (Or.inl rfl) (pe_call Cr.ok hr1 (by rfl) Cr.gl Cr.kp Cr.bd .nil pass0 (pa_cons (pv 0) pa_nil)))
      (pss_one (ps_ret (pe_and (pe_call Te.ok hr3 (by rfl) Te.gl Te.kp Te.bd .nil pass0 (pa_cons (pv 1) pa_nil)) (pe_and (pe_call Ap.ok hr (by rfl) Ap.gl Ap.kp Ap.bd .nil pass0 (pa_cons (pv 1) pa_nil))
        (pe_one (pe_cmpR op_gt (pe_call Tw.ok hr2 (by rfl) Tw.gl Tw.kp Tw.bd .nil pass0 (pa_cons (pv 1) pa_nil)) pe_int (nomark _)))))))), ?_⟩
    refine ⟨_, rfl, a, ns, rfl, hS, hl, fun H1 s1 => ⟨_, rfl, ?_⟩⟩
    unfold fig at q
    refine ite2 (fun e => ?_) (fun e => ?_)
    · rw [Bool.not_eq_true'] at e
      rw [e, Bool.false_and] at q
      exact q H1 s1
    · have e1 : form ns = true := by
        revert e
        cases form ns <;> simp
      rw [e1, Bool.true_and] at q
      obtain ⟨sm, hev, h6, h16⟩ := form_sm e1
      refine ⟨_, rfl, a, ns, rfl, s1.seq hS, hl, hev, fun H2 p s2 hp cs => ?_⟩
      have pl : (prs ns).length ≤ 1000 := by
        rw [prs_length]
        omega
      refine ⟨_, rfl, p, prs ns, rfl, cs, pl, sm, fun H3 s3 => ⟨_, rfl, ?_⟩⟩
      refine ite2 (fun e => ?_) (fun e => ?_)
      · rw [e, Bool.true_and] at q
        have cs3 := cs.same s3
        refine ⟨_, rfl, p, prs ns, rfl, cs3, pl, sm, _, rfl, ?_⟩
        refine ite2 (fun e => ?_) (fun e => ?_)
        · rw [e, Bool.true_and] at q
          refine ⟨_, rfl, p, prs ns, rfl, cs3, pl, sm, fun H4 s4 => ⟨_, _, rfl, rfl, ?_⟩⟩
          exact q H4 (((s1.trans s2).trans s3).trans s4)
        · rw [Bool.eq_false_iff.mpr e, Bool.false_and] at q
          exact q H3 ((s1.trans s2).trans s3)
      · rw [Bool.eq_false_iff.mpr e, Bool.false_and, Bool.false_and] at q
        exact q H3 ((s1.trans s2).trans s3)
end
end Fg

set_option Elab.async false
set_option linter.all false
set_option maxRecDepth 100000
set_option maxHeartbeats 2000000
namespace Fg
open PySem PySem.Spec PyProof.Rows L2
open PySem.W (Codec)
section
variable {P : Program} {w : World} {K : PySem.W.Frag} {mg : Str → Option Value} {base : Heap}
/-! ### triangle_at -/
def spTriAt (K : PySem.W.Frag) : Sp := fun vs H Q _ => ∃ (a : Addr) (ps : List Pt) (k : Nat), vs = [.ref a, .int (k : Int)] ∧ Cs H a ps ∧ k < ps.length ∧
  ∀ H' p, Same H H' → H p = none → Cs H' p (triAt ps k) → Q (.ref p) H'
theorem scTriAt : FnScope ["corners", "k"] ["corners", "k"] (defScope sTriAt) := ⟨rfl, rfl, rfl, by decide +kernel, rfl, by decide +kernel, by decide +kernel⟩
theorem cs_three {H : Hp} {p b1 b2 b3 : Addr} {x y z : Pt} (h : H p = some (.lst [.ref b1, .ref b2, .ref b3])) (h1 : H b1 = some (.tup (ptV x))) (h2 : H b2 = some (.tup (ptV y))) (h3 : H b3 = some (.tup (ptV z))) : Cs H p [x, y, z] := by
  refine ⟨[b1, b2, b3], h, rfl, fun j q e => ?_⟩
  match j, e with
  | 0, e =>
    have e := Option.some.inj e
    subst e
    exact ⟨b1, rfl, h1⟩
  | 1, e =>
    have e := Option.some.inj e
    subst e
    exact ⟨b2, rfl, h2⟩
  | 2, e =>
    have e := Option.some.inj e
    subst e
    exact ⟨b3, rfl, h3⟩
  | j + 3, e => simp at e
theorem ok_triAt {f fB fA : Addr} {fd fdB fdA : FuncData} (F : Fun K "triangle_at" "triangle_at" sTriAt f fd)
    (Bf : Gd P w K mg base "corner_before" 1 ["corners", "k"] (spBefore K) fB fdB) (Af : Gd P w K mg base "corner_after" 1 ["corners", "k"] (spAfter K) fA fdA) : FnOk P w K mg base CX0 2 f fd ["corners", "k"] (spTriAt K) := by
  refine F.ok scTriAt (fun vs H Q E h => ?_) (fun cdv A outer s H vs Q E hr h => ?_)
  · obtain ⟨a, ps, k, rfl, _⟩ := h
    rfl
  · obtain ⟨a, ps, k, rfl, c, h0, q⟩ := h
    refine ⟨_, pss_one (ps_ret (pe_lst (pa_cons (pe_call Bf.ok hr (by rfl) Bf.gl Bf.kp Bf.bd .nil pass0 (pa_cons (pv 0) (pa_cons (pv 1) pa_nil)))
      (pa_cons (pe_ix ix_list (pv 0) (pv 1) (fun _ _ => rfl)) (pa_cons (pe_call Af.ok hr (by rfl) Af.gl Af.kp Af.bd .nil pass0 (pa_cons (pv 0) (pa_cons (pv 1) pa_nil))) pa_nil))))), ?_⟩
    have h1 : 0 < ps.length := by omega
    refine ⟨_, rfl, _, rfl, a, ps, k, rfl, c, h1, fun b1 e1 => ?_⟩
    obtain ⟨b2, xs, g1, g2, g3, g4⟩ := c.get h0
    refine ⟨_, rfl, _, rfl, a, _, _, _, rfl, rfl, SqL.of g1, atI_nat g3, ?_⟩
    refine ⟨_, rfl, _, rfl, a, ps, k, rfl, c, h1, fun b3 e3 => ?_⟩
    refine ⟨(by show 3 ≤ sizeLine; decide), fun p hp => ?_⟩
    have s1 := same_upd (o := HO.lst [V.ref b1, V.ref b2, V.ref b3]) hp
    exact q _ p s1 hp (cs_three upd_same (s1 _ _ e1) (s1 _ _ g4) (s1 _ _ e3))
/-! ### lies_in_triangle -/
def spIn (K : PySem.W.Frag) : Sp := fun vs H Q _ => ∃ (p t : Addr) (z a b c : Pt), vs = [.ref p, .ref t] ∧ SqT K H p (ptV z) ∧ Cs H t [a, b, c] ∧ Sm z ∧ Sm a ∧ Sm b ∧ Sm c ∧ ∀ H', Same H H' → SqT K H' p (ptV z) → Q (.bl (inTri a b c z)) H'
theorem scIn : FnScope ["point", "triangle", "k"] ["point", "triangle"] (defScope sIn) := ⟨rfl, rfl, rfl, by decide +kernel, rfl, by decide +kernel, by decide +kernel⟩
theorem Same.tup {H H' : Hp} {a : Addr} {xs : List V} (e : Same H H') (h : H a = some (.tup xs)) : SqT K H' a xs := SqT.of (e _ _ h)
theorem ok_in {f fT fA : Addr} {fd fdT fdA : FuncData} (F : Fun K "lies_in_triangle" "lies_in_triangle" sIn f fd) (B : Bu mg) (T : Gd P w K mg base "turn" 1 ["a", "b", "c"] (spTurn K) fT fdT)
    (Af : Gd P w K mg base "corner_after" 1 ["corners", "k"] (spAfter K) fA fdA) : FnOk P w K mg base CX0 2 f fd ["point", "triangle"] (spIn K) := by
  refine F.ok scIn (fun vs H Q E h => ?_) (fun cdv A outer s H vs Q E hr h => ?_)
  · obtain ⟨p, t, z, a, b, c, rfl, _⟩ := h
    rfl
  · obtain ⟨p, t, z, a, b, c, rfl, hp, cs, sz, sa, sb, sc, q⟩ := h
    refine ⟨_, pss_one (ps_ret (pe_callB (cr_all rfl) (by rfl) B.all (by decide +kernel) (pa_cons
      (pe_lc (own := [("k", 2)]) (g := gName 2) (tt := tYes) rfl scIn.nd (pi_range1 rfl B.range (pa_cons pe_int pa_nil))
        (blkOk_by (N := ["point", "triangle", "k"]) (sc := defScope sIn) (by decide +kernel)) (fun _ _ _ _ _ => pg_name (i := 2) scIn.nd rfl (Or.inl rfl)) (fun _ _ _ _ _ => pts_nil)
        (fun _ _ _ _ _ => pe_cmpR op_ge (pe_call T.ok hr (by rfl) T.gl T.kp T.bd .nil pass0 (pa_cons (pe_ix (r := rIxL K) ix_list (pv 1) (pv 2) (fun _ _ => rfl))
          (pa_cons (pe_call Af.ok hr (by rfl) Af.gl Af.kp Af.bd .nil pass0 (pa_cons (pv 1) (pa_cons (pv 2) pa_nil))) (pa_cons (pv 0) pa_nil)))) pe_int (nomark _))) pa_nil))), ?_⟩
    let g : Nat → Bool := fun k => decide (0 ≤ tn (gt [a, b, c] k) (gt [a, b, c] (k + 1)) z)
    have sm : ∀ x ∈ ([a, b, c] : List Pt), Sm x := fun x hx => by
      simp at hx
      rcases hx with rfl | rfl | rfl <;> assumption
    have sp : ∀ H', Same H H' → SqT K H' p (ptV z) := fun H' s1 => by
      rcases hp with hp | hp
      · rcases hp with hp | ⟨o, hp⟩
        · exact .inl (.inl (s1 _ _ hp))
        · exact .inl (.inr ⟨o, s1 _ _ hp⟩)
      · exact .inr hp
    have h3 : 0 < ([a, b, c] : List Pt).length := Nat.succ_pos _
    refine ⟨3, rfl, by decide, by decide, fun D hD => ?_⟩
    refine lc_range (n := 3) (fun i H' => Same H H' ∧ H' D = some (.lst ((((List.range 3).map g).take i).map V.bl))) ⟨same_upd hD, upd_same⟩ (fun i H' hi ⟨s1, d1⟩ => ?_) (fun H' ⟨s1, d1⟩ => ?_)
    · refine ⟨rfl, ?_⟩
      have c1 := cs.same s1
      obtain ⟨b1, xs, k1, k2, k3, e1⟩ := c1.get hi
      refine ⟨_, rfl, _, rfl, t, _, _, _, rfl, rfl, SqL.of k1, at_of (Int.zero_add _) k3, ?_⟩
      refine ⟨_, rfl, _, rfl, t, [a, b, c], i, by rw [Int.zero_add]; rfl, c1, Nat.succ_pos _, fun b2 e2 => ?_⟩
      refine ⟨_, rfl, b1, b2, p, _, _, z, rfl, SqT.of e1, SqT.of e2, sp _ s1, sm _ (gt_mem h3 _), sm _ (gt_mem h3 _), sz, _, _, rfl, rfl, ?_⟩
      refine ⟨_, d1, ?_, fun b o e => ?_, ?_⟩
      · rw [List.length_map, List.length_take]
        exact small_of (Nat.le_trans (Nat.min_le_left _ _) (by omega))
      · rw [upd_ne (ne_of_none e hD)]
        exact s1 _ _ e
      · rw [upd_same, range_take_succ g hi, List.map_append]
        rfl
    · refine ⟨D, _, rfl, SqL.of d1, ?_⟩
      rw [List.take_of_length_le (by simp), all_take]
      have e : (List.range 3).all g = inTri a b c z := by
        have e3 : (List.range 3).all g = (g 0 && (g 1 && (g 2 && true))) := rfl
        have w0 : gt [a, b, c] 0 = a := by simp [gt]
        have w1 : gt [a, b, c] (0 + 1) = b := by simp [gt]
        have w2 : gt [a, b, c] 1 = b := by simp [gt]
        have w3 : gt [a, b, c] (1 + 1) = c := by simp [gt]
        have w4 : gt [a, b, c] 2 = c := by simp [gt]
        have w5 : gt [a, b, c] (2 + 1) = a := by simp [gt]
        rw [e3, Bool.and_true]
        show (decide (0 ≤ tn (gt [a, b, c] 0) (gt [a, b, c] (0 + 1)) z) && (decide (0 ≤ tn (gt [a, b, c] 1) (gt [a, b, c] (1 + 1)) z) && decide (0 ≤ tn (gt [a, b, c] 2) (gt [a, b, c] (2 + 1)) z))) = _
        simp only [w0, w1, w2, w3, w4, w5]
        rfl
      rw [e]
      exact q H' s1 (sp H' s1)
end
end Fg

set_option Elab.async false
set_option linter.all false
set_option maxRecDepth 100000
set_option maxHeartbeats 2000000
namespace Fg
open PySem PySem.Spec PyProof.Rows L2
open PySem.W (Codec)
section
variable {X : Cx}
/-- xs.extend(t), t a tuple -/
def rExtT : V → List V → Hp → VK → Prop := fun x vs H Q => ∃ l b xs zs, x = .ref l ∧ vs = [.ref b] ∧ H l = some (.lst xs) ∧ H b = some (.tup zs) ∧ xs.length + zs.length ≤ sizeLine ∧ Q .non (upd H l (.lst (xs ++ zs)))
theorem ext_tup (l : Addr) (xs : Array Value) (n : Nat) (b : Addr) (ys : Array Value) (m : Nat) (dd : Option Addr) (sl : Array (Option Value)) (hs0 : ¬(!xs.isEmpty && Builtin.List.listTooLong (xs.size + ys.size)) = true) (hs1 : xs.size ≤ sizeLine)
    (hs2 : (xs ++ ys).size ≤ sizeLine + 1) : Meets (Builtin.«list.extend» ⟨[.ref l, .ref b], []⟩) (fun _ R s =>
      s.heap.get? l = some { cls := .type "list", dict := none, data := .seq xs n, slots := #[] } ∧
      s.heap.get? b = some { cls := .type "tuple", dict := dd, data := .seq ys m, slots := sl } ∧
      R (.ok (.ret Value.none)) { s with heap := s.heap.update l (Obj.mapSeq fun x => x ++ ys), toks := s.toks }) := by
  refine .of_wp fun prog w A R s h => ?_
  obtain ⟨hp, gg, d, tk, os⟩ := s
  obtain ⟨hl, hb, h⟩ := h
  have g1 := AutoSeq1.idx_int
  have g2 := AutoSeq1.sub_tuple_tuple
  have g3 := AutoSeq1.sub_list_list
  have g4 := AutoSeq1.sub_tuple_list
  have g5 := AutoSeq1.sub_list_tuple
  wp_walk using (wpAny_updateSeq hl rfl (hz := hs1) (_hz' := hs2)), AutoSeq1.wpAny_loadPart' hl, AutoSeq1.wpAny_loadPart' hb
  exact ⟨_, rfl, h⟩
theorem mt_extT : MtM X "list.extend" rExtT := by
  intro pins s st Hh x vs v us Q I rx rv h
  obtain ⟨l, b, xs, zs, rfl, rfl, hl, hb, hz, q⟩ := h
  cases rx
  obtain ⟨y, rfl, ry⟩ := rv.one
  cases ry
  obtain ⟨zl, it1, m, w1, ln1, e1⟩ := I.lstM hl
  obtain ⟨it2, w2, tp, _⟩ := I.tuple (SqT.of hb)
  obtain ⟨⟨oc, od, da, sl⟩, e2, ec, m2, ed⟩ := tp
  dsimp only at ec ed
  subst ec ed
  have ln2 := w2.length
  have small : it1.toArray.size + it2.toArray.size ≤ sizeLine := by
    simp only [List.size_toArray]
    omega
  have short : ¬ (!it1.toArray.isEmpty && Builtin.List.listTooLong (it1.toArray.size + it2.toArray.size)) = true := fun z => by
    rw [notLongL small, Bool.and_false] at z
    cases z
  have z1 : it1.toArray.size ≤ sizeLine := by
    simp only [List.size_toArray]
    omega
  have z2 : (it1.toArray ++ it2.toArray).size ≤ sizeLine + 1 := by
    rw [Array.size_append]
    exact Nat.le_succ_of_le small
  refine call_meets F.slot_list_extend ⟨_, e1, rfl⟩ F.entry_list_extend (F.args_list_extend_2 _ _)
    (ext_tup l it1.toArray m b it2.toArray m2 od sl short z1 z2) ⟨e1, e2, ?_⟩
  refine ⟨.non, _, I.lset (its' := it1 ++ it2) hl e1 (by simp) (w1.append w2) ?_, rfl, q⟩
  simp only [List.length_append]
  omega
end
section
variable {P : Program} {w : World} {K : PySem.W.Frag} {mg : Str → Option Value} {base : Heap}
/-! ### row_of -/
theorem flat_len (l : List Pt) : (flat l).length = 2 * l.length := by
  unfold flat
  induction l with
  | nil => rfl
  | cons a l ih =>
    rw [List.flatMap_cons, List.length_append, ih, List.length_cons]
    show 2 + 2 * l.length = 2 * (l.length + 1)
    omega
theorem flat_snoc (l : List Pt) (p : Pt) : flat (l ++ [p]) = flat l ++ [p.1, p.2] := by
  unfold flat
  rw [List.flatMap_append]
  rfl
def spRow (K : PySem.W.Frag) : Sp := fun vs H Q _ => ∃ (a : Addr) (ps : List Pt), vs = [.ref a] ∧ Cs H a ps ∧ ps.length ≤ 1000 ∧
  ∀ H' p, Same H H' → H p = none → H' p = some (.lst ((flat ps).map V.int)) → Q (.ref p) H'
theorem scRow : FnScope ["corners", "row", "corner"] ["corners"] (defScope sRow) := ⟨rfl, rfl, rfl, by decide +kernel, rfl, by decide +kernel, by decide +kernel⟩
theorem ok_row {f : Addr} {fd : FuncData} (F : Fun K "row_of" "row_of" sRow f fd) : FnOk P w K mg base CX0 1 f fd ["corners"] (spRow K) := by
  refine F.ok scRow (fun vs H Q E h => ?_) (fun cdv A outer s H vs Q E hr h => ?_)
  · obtain ⟨a, ps, rfl, _⟩ := h
    rfl
  · obtain ⟨a, ps, rfl, ⟨as, c⟩, hl, q⟩ := h
    refine ⟨_, pss_cons (ps_set (i := 1) scRow.nd rfl (.inl rfl) (pe_lst pa_nil))
      (pss_cons (ps_for PassesOwn.never rfl (pi_list (pv 0)) (pg_name (i := 2) scRow.nd rfl (Or.inl rfl))
        (pss_one (ps_expr (pe_bm PySem.F.plainAttrs_list PySem.F.slot_list_extend PySem.F.type_list_extend mt_extT (pv 1) (pa_cons (pv 2) pa_nil)))))
      (pss_one (ps_ret (pv 1)))), ?_⟩
    refine ⟨Nat.zero_le _, fun r hr0 => ?_⟩
    have s1 : Same H (upd H r (.lst [])) := same_upd hr0
    refine ⟨_, rfl, a, rfl, ⟨_, SqL.of (s1 _ _ c.lst)⟩, for_list (K := K) (a := a) (xs := as.map V.ref) (fun i σ H' => ∃ v, σ = [some (.ref a), some (.ref r), v] ∧ Same H H' ∧ H' r = some (.lst ((flat (ps.take i)).map V.int)))
      ⟨none, rfl, s1, upd_same⟩ (fun i σ H' _ ⟨_, _, s2, _⟩ => SqL.of (s2 _ _ c.lst)) ?_ ?_⟩
    · rintro i y σ H' hi ⟨v, rfl, s2, d⟩
      have hi2 : i < ps.length := by
        have := (List.getElem?_eq_some_iff.mp hi).1
        rw [List.length_map, c.len] at this
        exact this
      obtain ⟨b, b1, b2⟩ := c.item i _ (gt_lt hi2)
      have ey : y = V.ref b := by
        rw [List.getElem?_map, b1] at hi
        exact (Option.some.inj hi).symm
      subst ey
      refine ⟨_, rfl, .inl ⟨rfl, _, SqL.of d⟩, _, rfl, r, b, _, _, rfl, rfl, d, s2 _ _ b2, ?_, ?_⟩
      · rw [List.length_map, flat_len, List.length_take]
        show _ + 2 ≤ sizeLine
        have e1 : min i ps.length ≤ 1000 := Nat.le_trans (Nat.min_le_right _ _) hl
        have e2 : 2002 < sizeLine := by decide
        omega
      · refine ⟨_, rfl, fun x o e => ?_, ?_⟩
        · rw [upd_ne (ne_of_none e hr0)]
          exact s2 _ _ e
        · rw [upd_same, List.take_add_one, gt_lt hi2]
          show _ = some (HO.lst ((flat (ps.take i ++ [gt ps i])).map V.int))
          rw [flat_snoc, List.map_append]
          rfl
    · rintro σ H' ⟨v, rfl, s2, d⟩
      rw [List.length_map, c.len, List.take_length] at d
      exact ⟨_, rfl, q H' r s2 hr0 d⟩
end
end Fg

set_option Elab.async false
set_option linter.all false
set_option maxRecDepth 100000
set_option maxHeartbeats 2000000
namespace Fg
open PySem PySem.Spec PyProof.Rows L2
open PySem.W (Codec)
section
variable {P : Program} {w : World} {K : PySem.W.Frag} {mg : Str → Option Value} {base : Heap}
/-! ### is_ear -/
def spEar (K : PySem.W.Frag) : Sp := fun vs H Q _ => ∃ (a : Addr) (ps : List Pt) (k : Nat), vs = [.ref a, .int (k : Int)] ∧ Cs H a ps ∧ k < ps.length ∧ 3 < ps.length ∧ ps.length ≤ 1000 ∧ (∀ p ∈ ps, Sm p) ∧
  ∀ H', Same H H' → Q (.bl (ear ps k)) H'
theorem scEar : FnScope ["corners", "k", "triangle", "count", "others", "step", "other"] ["corners", "k"] (defScope sEar) := ⟨rfl, rfl, rfl, by decide +kernel, rfl, by decide +kernel, by decide +kernel⟩
theorem any_take {n : Nat} {g : Nat → Bool} : (((List.range n).map g).any id) = (List.range n).any g := by
  rw [List.any_map]
  rfl
theorem ok_ear {f f1 f2 f3 : Addr} {fd fd1 fd2 fd3 : FuncData} (F : Fun K "is_ear" "is_ear" sEar f fd) (B : Bu mg) (hany : mg "any" = none) (Ta : Gd P w K mg base "turn_at" 2 ["corners", "k"] (spTurnAt K) f1 fd1)
    (Tr : Gd P w K mg base "triangle_at" 2 ["corners", "k"] (spTriAt K) f2 fd2) (Li : Gd P w K mg base "lies_in_triangle" 2 ["point", "triangle"] (spIn K) f3 fd3) : FnOk P w K mg base CX0 3 f fd ["corners", "k"] (spEar K) := by
  refine F.ok scEar (fun vs H Q E h => ?_) (fun cdv A outer s H vs Q E hr h => ?_)
  · obtain ⟨a, ps, k, rfl, _⟩ := h
    rfl
  · obtain ⟨a, ps, k, rfl, c, h0, h3, hl, sm, q⟩ := h
    refine ⟨_, pss_cons (ps_if (pt_cmpR op_le (pe_call Ta.ok hr (by rfl) Ta.gl Ta.kp Ta.bd .nil pass0 (pa_cons (pv 0) (pa_cons (pv 1) pa_nil))) pe_int (nomark _)) (pss_one (ps_ret pe_bl)) pss_nil)
      (pss_cons (ps_set (i := 2) scEar.nd rfl (Or.inr rfl) (pe_call Tr.ok hr (by rfl) Tr.gl Tr.kp Tr.bd .nil pass0 (pa_cons (pv 0) (pa_cons (pv 1) pa_nil))))
      (pss_cons (ps_set (i := 3) scEar.nd rfl (Or.inr rfl) (pe_callB call_len_seq (by rfl) B.len PySem.boot_len (pa_cons (pv 0) pa_nil)))
      (pss_cons (ps_setLc (i := 4) (own := [("step", 5)]) (g := gName 5) (tt := tYes) rfl scEar.nd rfl rfl (sw_true rfl rfl rfl (by decide +kernel)) (pi_range2 rfl B.range (pa_cons pe_int (pa_cons (pe_op op_sub (pv 3) pe_int) pa_nil)))
          (blkOk_by (N := ["corners", "k", "triangle", "count", "others", "step", "other"]) (sc := defScope sEar) (by decide +kernel)) (fun _ _ _ _ _ => pg_name (i := 5) scEar.nd rfl (Or.inl rfl)) (fun _ _ _ _ _ => pts_nil)
          (fun _ _ _ _ _ => pe_ix (r := rIxL K) ix_list (pv 0) (pe_op op_mod (pe_op op_add (pv 1) (pv 5)) (pv 3)) (fun _ _ => rfl)))
      (pss_one (ps_ret (pe_not (pe_callB (cr_any rfl) (by rfl) hany (by decide +kernel) (pa_cons
        (pe_lc (own := [("other", 6)]) (g := gName 6) (tt := tYes) rfl scEar.nd (pi_list (pv 4))
          (blkOk_by (N := ["corners", "k", "triangle", "count", "others", "step", "other"]) (sc := defScope sEar) (by decide +kernel)) (fun _ _ _ _ _ => pg_name (i := 6) scEar.nd rfl (Or.inl rfl)) (fun _ _ _ _ _ => pts_nil)
          (fun _ _ _ _ _ => pe_call Li.ok hr (by rfl) Li.gl Li.kp Li.bd .nil pass0 (pa_cons (pv 6) (pa_cons (pv 2) pa_nil)))) pa_nil))))))))
      , ?_⟩
    have h1 : 0 < ps.length := by omega
    unfold ear at q
    refine ⟨_, rfl, _, rfl, a, ps, k, rfl, c, h0, sm, _, _, rfl, rfl, _, rfl, ?_⟩
    refine ite2 (fun e => ?_) (fun e => ?_)
    · rw [if_pos (of_decide_eq_true e)] at q
      exact q H (Same.refl H)
    · rw [if_neg (fun z => e (decide_eq_true z))] at q
      refine ⟨_, rfl, _, rfl, a, ps, k, rfl, c, h0, fun H1 t s1 nt ct => ?_⟩
      have c1 := c.same s1
      obtain ⟨xs, g1, g2⟩ := c1.lst
      refine ⟨_, rfl, a, _, rfl, .inl (SqL.of g1), ?_⟩
      rw [g2]
      refine ⟨_, rfl, _, _, rfl, rfl, 2, _, rfl, ⟨by decide, by decide, by omega, by omega⟩, fun D hD => ?_⟩
      have en : ((ps.length : Int) - 1 - 2).toNat = ps.length - 3 := by omega
      rw [en]
      refine lc_range (fun i H' => Same H1 H' ∧ ∃ as : List Addr, H' D = some (.lst (as.map V.ref)) ∧ as.length = i ∧ ∀ (j : Nat), j < i → ∃ b, as[j]? = some b ∧ H' b = some (.tup (ptV (gt ps (k + 2 + j)))))
        ⟨same_upd hD, [], upd_same, rfl, fun j hj => by omega⟩ (fun i H' hi ⟨s2, as, d1, la, hit⟩ => ?_) (fun H' ⟨s2, as, d1, la, hit⟩ => ?_)
      · refine ⟨rfl, ?_⟩
        obtain ⟨b, ys, k1, k2, k3, k4⟩ := (c1.same s2).get (Nat.mod_lt (k + 2 + i) h1)
        rw [gt_mod] at k4
        refine ⟨_, rfl, _, rfl, _, rfl, _, _, rfl, rfl, _, rfl, _, _, rfl, rfl, (by omega : (0 : Int) < (ps.length : Int)), a, _, _, _, rfl, rfl, SqL.of k1, at_of (j := (k + 2 + i) % ps.length) ?_ k3, ?_⟩
        · rw [Int.natCast_emod]
          congr 1
          omega
        · refine ⟨_, d1, ?_, fun x o e => ?_, as ++ [b], ?_, ?_, ?_⟩
          · rw [List.length_map]
            exact small_of (by omega)
          · rw [upd_ne (ne_of_none e hD)]
            exact s2 _ _ e
          · rw [upd_same, List.map_append]
            rfl
          · rw [List.length_append, la]
            rfl
          · intro j hj
            by_cases e : j < i
            · obtain ⟨b', b1, b2⟩ := hit j e
              refine ⟨b', ?_, ?_⟩
              · rw [List.getElem?_append_left (by omega)]
                exact b1
              · rw [upd_ne (ne_of b2 d1 (by intro q; cases q))]
                exact b2
            · have e2 : j = i := by omega
              subst e2
              refine ⟨b, ?_, ?_⟩
              · rw [List.getElem?_append_right (by omega), la, Nat.sub_self]
                rfl
              · rw [upd_ne (ne_of k4 d1 (by intro q; cases q))]
                exact k4
      · have sm3 : ∀ x, gt ps x ∈ ps := fun x => gt_mem h1 x
        refine ⟨_, rfl, D, rfl, ⟨_, SqL.of d1⟩, fun D2 hD2 => ?_⟩
        let g : Nat → Bool := fun s => inTri (gt ps (k + ps.length - 1)) (gt ps k) (gt ps (k + 1)) (gt ps (k + 2 + s))
        refine lc_list (K := K) (a := D) (xs := as.map V.ref) (fun i H2 => Same H' H2 ∧ H2 D2 = some (.lst ((((List.range (ps.length - 3)).map g).take i).map V.bl))) ⟨same_upd hD2, upd_same⟩ (fun i H2 _ ⟨s3, _⟩ => SqL.of (s3 _ _ d1)) (fun i x H2 hi ⟨s3, d2⟩ => ?_) (fun H2 ⟨s3, d2⟩ => ?_)
        · have hi2 : i < ps.length - 3 := by
            have := (List.getElem?_eq_some_iff.mp hi).1
            rw [List.length_map, la] at this
            exact this
          obtain ⟨b, b1, b2⟩ := hit i hi2
          have ex : x = V.ref b := by
            rw [List.getElem?_map, b1] at hi
            exact (Option.some.inj hi).symm
          subst ex
          refine ⟨rfl, ?_⟩
          have ct2 : Cs H2 t (triAt ps k) := (ct.same s2).same s3
          refine ⟨_, rfl, _, rfl, b, t, gt ps (k + 2 + i), _, _, _, rfl, SqT.of (s3 _ _ b2), ct2, sm _ (sm3 _), sm _ (sm3 _), sm _ (sm3 _), sm _ (sm3 _), fun H3 s4 _ => ?_⟩
          refine ⟨_, s4 _ _ d2, ?_, fun x o e => ?_, ?_⟩
          · rw [List.length_map, List.length_take]
            exact small_of (Nat.le_trans (Nat.min_le_left _ _) (by omega))
          · rw [upd_ne (ne_of_none e hD2)]
            exact s4 _ _ (s3 _ _ e)
          · rw [upd_same, range_take_succ g hi2, List.map_append]
            rfl
        · rw [List.length_map, la] at d2
          refine ⟨D2, _, rfl, SqL.of d2, _, rfl, ?_⟩
          rw [List.take_of_length_le (by simp), any_take]
          have eo : (List.range (ps.length - 3)).any g = (others ps k).any fun z => inTri (gt ps (k + ps.length - 1)) (gt ps k) (gt ps (k + 1)) z := by
            unfold others
            rw [List.any_map]
            rfl
          rw [eo]
          exact q H2 ((s1.trans s2).trans s3)
/-! ### first_ear -/
def spFirst (K : PySem.W.Frag) : Sp := fun vs H Q _ => ∃ (a : Addr) (ps : List Pt) (i : Nat), vs = [.ref a] ∧ Cs H a ps ∧ fstEar ps = some i ∧ 3 < ps.length ∧ ps.length ≤ 1000 ∧ (∀ p ∈ ps, Sm p) ∧
  ∀ H', Same H H' → Q (.int (i : Int)) H'
theorem scFirst : FnScope ["corners", "k"] ["corners"] (defScope sFirst) := ⟨rfl, rfl, rfl, by decide +kernel, rfl, by decide +kernel, by decide +kernel⟩
theorem find_range {g : Nat → Bool} {n i : Nat} (h : (List.range n).find? g = some i) : g i = true ∧ i < n ∧ ∀ j, j < i → g j = false := by
  refine ⟨List.find?_some h, List.mem_range.mp (List.mem_of_find?_eq_some h), fun j hj => ?_⟩
  rw [List.find?_range_eq_some] at h
  have q := h.2.2 j hj
  revert q
  cases g j <;> simp
theorem ok_first {f f1 : Addr} {fd fd1 : FuncData} (F : Fun K "first_ear" "first_ear" sFirst f fd) (Er : Gd P w K mg base "is_ear" 3 ["corners", "k"] (spEar K) f1 fd1) : FnOk P w K mg base CX0 4 f fd ["corners"] (spFirst K) := by
  refine F.ok scFirst (fun vs H Q E h => ?_) (fun cdv A outer s H vs Q E hr h => ?_)
  · obtain ⟨a, ps, i, rfl, _⟩ := h
    rfl
  · obtain ⟨a, ps, i, rfl, c, hf, h3, hl, sm, q⟩ := h
    obtain ⟨f1, f2, f3⟩ := find_range hf
    refine ⟨_, pss_cons (ps_set (i := 1) scFirst.nd rfl (Or.inl rfl) pe_int)
      (pss_cons (ps_while PassesOwn.never (pt_not (pt_val (pe_call Er.ok hr (by rfl) Er.gl Er.kp Er.bd .nil pass0 (pa_cons (pv 0) (pa_cons (pv 1) pa_nil)))))
        (pss_one (ps_set (i := 1) scFirst.nd rfl (Or.inl rfl) (pe_op op_add (pv 1) pe_int))))
      (pss_one (ps_ret (pv 1)))), ?_⟩
    refine ⟨fun m σ H' => ∃ j : Nat, σ = [some (.ref a), some (.int (j : Int))] ∧ j + m = i ∧ Same H H', ⟨i, 0, rfl, Nat.zero_add _, Same.refl H⟩, ?_⟩
    rintro m σ H' ⟨j, rfl, ej, s1⟩
    refine ⟨_, rfl, _, rfl, a, ps, j, rfl, c.same s1, by omega, h3, hl, sm, fun H2 s2 => ⟨_, rfl, ?_⟩⟩
    refine ite2 (fun e => ?_) (fun e => ?_)
    · have hji : j ≠ i := fun z => by
        rw [z, f1] at e
        cases e
      refine ⟨fun σ' H3 => σ' = [some (.ref a), some (.int ((j : Int) + 1))] ∧ Same H H3, fun σ' H3 ⟨e1, s3⟩ => ⟨m - 1, by omega, j + 1, by rw [e1]; rfl, by omega, s3⟩, ?_⟩
      exact ⟨_, rfl, _, _, rfl, rfl, rfl, s1.trans s2⟩
    · have hji : j = i := by
        rcases Nat.lt_or_ge j i with z | z
        · rw [f3 j z] at e
          exact absurd rfl e
        · omega
      subst hji
      exact ⟨_, rfl, q H2 (s1.trans s2)⟩
end
end Fg

set_option Elab.async false
set_option linter.all false
set_option maxRecDepth 100000
set_option maxHeartbeats 2000000
namespace Fg
open PySem PySem.Spec PyProof.Rows L2
open PySem.W (Codec)
/-! ### a list of things, each at an address of its own -/
structure LsAt {α : Type} (R : Hp → Addr → α → Prop) (H : Hp) (a : Addr) (as : List Addr) (xs : List α) : Prop where
  lst : H a = some (.lst (as.map V.ref))
  len : as.length = xs.length
  item : ∀ (j : Nat) (x : α), xs[j]? = some x → ∃ b, as[j]? = some b ∧ R H b x
def Ls {α : Type} (R : Hp → Addr → α → Prop) (H : Hp) (a : Addr) (xs : List α) : Prop := ∃ as, LsAt R H a as xs
theorem LsAt.to {α : Type} {R : Hp → Addr → α → Prop} {H H' : Hp} {a : Addr} {as : List Addr} {xs : List α} (c : LsAt R H a as xs) (h1 : H' a = some (.lst (as.map V.ref))) (h2 : ∀ b x, b ∈ as → R H b x → R H' b x) : LsAt R H' a as xs :=
  ⟨h1, c.len, fun j x hx => by
    obtain ⟨b, b1, b2⟩ := c.item j x hx
    exact ⟨b, b1, h2 _ _ (List.mem_of_getElem? b1) b2⟩⟩
theorem LsAt.push {α : Type} {R : Hp → Addr → α → Prop} {H H' : Hp} {a b : Addr} {as : List Addr} {xs : List α} {t : α} (c : LsAt R H a as xs) (h1 : H' a = some (.lst ((as ++ [b]).map V.ref))) (h2 : ∀ x y, x ∈ as → R H x y → R H' x y) (h3 : R H' b t) : LsAt R H' a (as ++ [b]) (xs ++ [t]) := by
  refine ⟨h1, by rw [List.length_append, List.length_append, c.len]; rfl, fun j p hp => ?_⟩
  by_cases e : j < xs.length
  · rw [List.getElem?_append_left e] at hp
    obtain ⟨x, x1, x2⟩ := c.item j p hp
    exact ⟨x, by rw [List.getElem?_append_left (by rw [c.len]; exact e)]; exact x1, h2 _ _ (List.mem_of_getElem? x1) x2⟩
  · rw [List.getElem?_append_right (by omega)] at hp
    have ej : j - xs.length = 0 := by
      have := (List.getElem?_eq_some_iff.mp hp).1
      simp at this
      omega
    rw [ej] at hp
    have ep : t = p := Option.some.inj hp
    subst ep
    refine ⟨b, ?_, h3⟩
    rw [List.getElem?_append_right (by rw [c.len]; omega), c.len, ej]
    rfl
/-- a list of corners stays where its place and all tuples stay -/
theorem Cs.keep {H H' : Hp} {a : Addr} {ps : List Pt} (c : Cs H a ps) (h1 : ∀ o, H a = some o → H' a = some o) (h2 : ∀ x y, H x = some (.tup y) → H' x = some (.tup y)) : Cs H' a ps := by
  obtain ⟨as, c⟩ := c
  refine ⟨as, h1 _ c.lst, c.len, fun j p h => ?_⟩
  obtain ⟨b, b1, b2⟩ := c.item j p h
  exact ⟨b, b1, h2 _ _ b2⟩
section
variable {P : Program} {w : World} {K : PySem.W.Frag} {mg : Str → Option Value} {base : Heap}
theorem erase_get {α : Type} (l : List α) (i j : Nat) : (l.eraseIdx i)[j]? = if j < i then l[j]? else l[j + 1]? := List.getElem?_eraseIdx
/-- a corner taken out -/
theorem CsAt.erase {H H' : Hp} {a : Addr} {as : List Addr} {ps : List Pt} (c : CsAt H a as ps) {i : Nat} (hi : i < ps.length) (h1 : H' a = some (.lst ((as.map V.ref).eraseIdx i))) (h2 : ∀ b x, H b = some (.tup x) → H' b = some (.tup x)) : Cs H' a (ps.eraseIdx i) := by
  refine ⟨as.eraseIdx i, ?_, ?_, fun j p hp => ?_⟩
  · rw [h1, erase_map]
  · rw [List.length_eraseIdx_of_lt hi, List.length_eraseIdx_of_lt (by rw [c.len]; exact hi), c.len]
  · rw [erase_get] at hp
    have e : ∃ j' : Nat, ps[j']? = some p ∧ (as.eraseIdx i)[j]? = as[j']? := by
      rw [erase_get]
      by_cases z : j < i
      · rw [if_pos z] at hp ⊢
        exact ⟨j, hp, rfl⟩
      · rw [if_neg z] at hp ⊢
        exact ⟨j + 1, hp, rfl⟩
    obtain ⟨j', e1, e2⟩ := e
    obtain ⟨b, b1, b2⟩ := c.item j' p e1
    exact ⟨b, by rw [e2]; exact b1, h2 _ _ b2⟩
/-! ### cut_up -/
def spCutUp (K : PySem.W.Frag) : Sp := fun vs H Q _ => ∃ (a : Addr) (ps : List Pt), vs = [.ref a] ∧ Cs H a ps ∧ allEars ps.length ps ∧ 3 ≤ ps.length ∧ ps.length ≤ 8 ∧ (∀ p ∈ ps, Sm p) ∧
  ∀ H' r, Same H H' → H r = none → Ls Cs H' r (cutM ps.length ps) → Q (.ref r) H'
theorem scCutUp : FnScope ["corners", "left", "cut", "k"] ["corners"] (defScope sCutUp) := ⟨rfl, rfl, rfl, by decide +kernel, rfl, by decide +kernel, by decide +kernel⟩
theorem cutM_len : ∀ (m : Nat) (l : List Pt), (cutM m l).length ≤ m
  | 0, l => Nat.zero_le _
  | m + 1, l => by
    unfold cutM
    by_cases h : l.length ≤ 3
    · rw [if_pos h]
      exact Nat.succ_le_succ (Nat.zero_le _)
    · rw [if_neg h]
      cases e : fstEar l with
      | none => exact Nat.zero_le _
      | some i => exact Nat.succ_le_succ (cutM_len m _)
theorem ne_mem {x D : Addr} {ts : List Addr} (hx : x ∈ ts) (h : D ∉ ts) : x ≠ D := fun z => h (by rw [← z]; exact hx)
theorem none_of {H H' : Hp} {a : Addr} (s : Same H H') (h : H' a = none) : H a = none := by
  cases e : H a with
  | none => rfl
  | some o =>
    have := s _ _ e
    rw [h] at this
    cases this
theorem ok_cutUp {f f1 f2 : Addr} {fd fd1 fd2 : FuncData} (F : Fun K "cut_up" "cut_up" sCutUp f fd) (B : Bu mg) (hlist : mg "list" = none)
    (Fe : Gd P w K mg base "first_ear" 4 ["corners"] (spFirst K) f1 fd1) (Tr : Gd P w K mg base "triangle_at" 2 ["corners", "k"] (spTriAt K) f2 fd2) : FnOk P w K mg base CX0 5 f fd ["corners"] (spCutUp K) := by
  refine F.ok scCutUp (fun vs H Q E h => ?_) (fun cdv A outer s H vs Q E hr h => ?_)
  · obtain ⟨a, ps, rfl, _⟩ := h
    rfl
  · obtain ⟨a, ps, rfl, cs, hears, h3, h8, sm, q⟩ := h
    have hr2 : Room 2 _ := hr.mono (by decide)
    refine ⟨_, pss_cons (ps_set (i := 1) scCutUp.nd rfl (Or.inl rfl) (pe_callTy call_list_of (by rfl) hlist (by decide +kernel) (pa_cons (pv 0) pa_nil)))
      (pss_cons (ps_set (i := 2) scCutUp.nd rfl (Or.inl rfl) (pe_lst pa_nil))
      (pss_cons (ps_while PassesOwn.never (pt_cmpR op_gt (pe_callB call_len_seq (by rfl) B.len PySem.boot_len (pa_cons (pv 1) pa_nil)) pe_int (nomark _))
        (pss_cons (ps_set (i := 3) scCutUp.nd rfl (Or.inl rfl) (pe_call Fe.ok hr (by rfl) Fe.gl Fe.kp Fe.bd .nil pass0 (pa_cons (pv 1) pa_nil)))
        (pss_cons (ps_expr (pe_bm PySem.F.plainAttrs_list PySem.F.slot_list_append PySem.F.type_list_append mt_append (pv 2) (pa_cons (pe_call Tr.ok hr2 (by rfl) Tr.gl Tr.kp Tr.bd .nil pass0 (pa_cons (pv 1) (pa_cons (pv 3) pa_nil))) pa_nil)))
        (pss_one (ps_expr (pe_bm PySem.F.plainAttrs_list PySem.F.slot_list_pop PySem.F.type_list_pop mt_popAt (pv 1) (pa_cons (pv 3) pa_nil)))))))
      (pss_cons (ps_expr (pe_bm PySem.F.plainAttrs_list PySem.F.slot_list_append PySem.F.type_list_append mt_append (pv 2) (pa_cons (pv 1) pa_nil)))
      (pss_one (ps_ret (pv 2)))))), ?_⟩
    obtain ⟨as, ca⟩ := cs
    refine ⟨_, rfl, a, _, rfl, .inl (SqL.of ca.lst), fun L nL => ?_⟩
    have s1 := same_upd (o := HO.lst (as.map V.ref)) nL
    have cL : Cs (upd H L (.lst (as.map V.ref))) L ps := ⟨as, upd_same, ca.len, fun j p hp => by
      obtain ⟨b, b1, b2⟩ := ca.item j p hp
      exact ⟨b, b1, s1 _ _ b2⟩⟩
    refine ⟨Nat.zero_le _, fun D nD => ?_⟩
    have s2 := same_upd (o := HO.lst []) nD
    have nDH : H D = none := none_of s1 nD
    have neLD : L ≠ D := ne_of_none upd_same nD
    have hm8 := cutM_len ps.length ps
    generalize hT : cutM ps.length ps = total at q hm8
    refine ⟨fun m σ H' => ∃ (l : List Pt) (T : List (List Pt)) (ts : List Addr) (v : Option V), σ = [some (.ref a), some (.ref L), some (.ref D), v] ∧ Same H H' ∧ Cs H' L l ∧ LsAt Cs H' D ts T ∧ L ∉ ts ∧ D ∉ ts ∧ allEars m l ∧ 3 ≤ l.length ∧ l.length ≤ 8 ∧ (∀ p ∈ l, Sm p) ∧ T ++ cutM m l = total,
      ⟨ps.length, ps, [], [], none, rfl, s1.trans s2, cL.same s2, ⟨upd_same, rfl, fun j x hx => by simp at hx⟩, by simp, by simp, hears, h3, h8, sm, hT⟩, ?_⟩
    rintro m σ H3 ⟨l, T, ts, v, rfl, sH, c3, cT, nLt, nDt, hm, l3, l8, sml, etot⟩
    obtain ⟨ys, y1, y2⟩ := c3.lst
    have tlen : T.length ≤ 8 := by
      have z := congrArg List.length etot
      rw [List.length_append] at z
      omega
    refine ⟨_, rfl, L, _, rfl, .inl (SqL.of y1), _, _, rfl, rfl, _, rfl, ?_⟩
    rw [y2]
    refine ite2 (fun e => ?_) (fun e => ?_)
    · have h3 : 3 < l.length := by
        have := of_decide_eq_true e
        omega
      match m, hm, etot with
      | m + 1, hm, etot =>
        rcases hm with hm | ⟨i, hi, hm⟩
        · omega
        · have hil := fstEar_lt hi
          refine ⟨fun σ' H' => ∃ (l : List Pt) (T : List (List Pt)) (ts : List Addr) (v : Option V), σ' = [some (.ref a), some (.ref L), some (.ref D), v] ∧ Same H H' ∧ Cs H' L l ∧ LsAt Cs H' D ts T ∧ L ∉ ts ∧ D ∉ ts ∧ allEars m l ∧ 3 ≤ l.length ∧ l.length ≤ 8 ∧ (∀ p ∈ l, Sm p) ∧ T ++ cutM m l = total,
            fun σ' H' hN => ⟨m, Nat.lt_succ_self m, hN⟩, ?_⟩
          refine ⟨_, rfl, L, l, i, rfl, c3, hi, h3, by omega, sml, fun H4 s4 => ?_⟩
          refine ⟨_, rfl, .inl ⟨rfl, _, SqL.of (s4 _ _ cT.lst)⟩, ?_⟩
          refine ⟨_, rfl, _, rfl, L, l, i, rfl, c3.same s4, hil, fun H5 t s5 nt ct => ?_⟩
          have s45 := s4.trans s5
          have c5 := c3.same s45
          have cT5 : LsAt Cs H5 D ts T := cT.to (s45 _ _ cT.lst) fun b x _ hx => hx.same s45
          refine ⟨D, _, _, rfl, rfl, cT5.lst, ?_, ?_⟩
          · rw [List.length_map, cT5.len]
            exact small_of (by omega)
          have hcut : cutM (m + 1) l = triAt l i :: cutM m (l.eraseIdx i) := by
            rw [cutM, if_neg (by omega), hi]
          rw [hcut] at etot
          obtain ⟨tr1, tr2, _⟩ := ct.lst
          have tD : t ≠ D := (ne_of_none (s4 _ _ cT.lst) nt).symm
          have tL : t ≠ L := (ne_of_none (s4 _ _ y1) nt).symm
          have keepT : ∀ x y, H5 x = some (.tup y) → (upd H5 D (.lst (ts.map V.ref ++ [.ref t]))) x = some (.tup y) := fun x y hx => by
            rw [upd_ne (ne_of hx cT5.lst (by intro z; cases z))]
            exact hx
          have c6 : Cs (upd H5 D (.lst (ts.map V.ref ++ [.ref t]))) L l := c5.keep (fun o ho => by rw [upd_ne neLD]; exact ho) keepT
          have cT6 : LsAt Cs (upd H5 D (.lst (ts.map V.ref ++ [.ref t]))) D (ts ++ [t]) (T ++ [triAt l i]) := by
            refine cT5.push ?_ (fun x y hx hc => ?_) ?_
            · rw [upd_same, List.map_append]
              rfl
            · exact hc.keep (fun o ho => by rw [upd_ne (ne_mem hx nDt)]; exact ho) keepT
            · exact ct.keep (fun o ho => by rw [upd_ne tD]; exact ho) keepT
          have sH6 : Same H (upd H5 D (.lst (ts.map V.ref ++ [.ref t]))) := fun x o e => by
            rw [upd_ne (ne_of_none e nDH)]
            exact s45 _ _ (sH _ _ e)
          obtain ⟨ls, c6⟩ := c6
          obtain ⟨b, b1, b2⟩ := c6.item i _ (gt_lt hil)
          generalize hH6 : upd H5 D (.lst (ts.map V.ref ++ [.ref t])) = H6 at *
          refine ⟨_, rfl, .inl ⟨rfl, _, SqL.of c6.lst⟩, _, rfl, L, _, _, i, V.ref b, rfl, rfl, c6.lst, by omega, by omega, ?_, ?_, ?_⟩
          · unfold seqIndex?
            rw [List.length_map, c6.len]
            simp only [show ¬ ((i : Int) < 0) by omega, if_false, Int.toNat_natCast]
            simp
            omega
          · rw [List.getElem?_map, b1]
            rfl
          · have keepL : ∀ x y, H6 x = some (.tup y) → (upd H6 L (.lst ((ls.map V.ref).eraseIdx i))) x = some (.tup y) := fun x y hx => by
              rw [upd_ne (ne_of hx c6.lst (by intro z; cases z))]
              exact hx
            have nL6 : L ∉ ts ++ [t] := fun z => by
              rcases List.mem_append.mp z with z | z
              · exact nLt z
              · exact tL (List.mem_singleton.mp z).symm
            have nD6 : D ∉ ts ++ [t] := fun z => by
              rcases List.mem_append.mp z with z | z
              · exact nDt z
              · exact tD (List.mem_singleton.mp z).symm
            refine ⟨l.eraseIdx i, T ++ [triAt l i], ts ++ [t], _, rfl, fun x o e => ?_, c6.erase hil upd_same keepL, ?_, nL6, nD6, hm, ?_, ?_, fun p hp => sml p (List.mem_of_mem_eraseIdx hp), ?_⟩
            · rw [upd_ne (ne_of_none e nL)]
              exact sH6 _ _ e
            · refine cT6.to (by rw [upd_ne neLD.symm]; exact cT6.lst) (fun x y hx hc => ?_)
              exact hc.keep (fun o ho => by rw [upd_ne (ne_mem hx nL6)]; exact ho) keepL
            · rw [List.length_eraseIdx_of_lt hil]
              omega
            · rw [List.length_eraseIdx_of_lt hil]
              omega
            · rw [List.append_assoc]
              exact etot
    · have h3 : l.length ≤ 3 := by
        rcases Nat.lt_or_ge 3 l.length with z | z
        · exact absurd (decide_eq_true (show (3 : Int) < (l.length : Int) by omega)) e
        · exact z
      have hcut : cutM m l = [l] := by
        match m, hm with
        | m + 1, hm => rw [cutM, if_pos h3]
      rw [hcut] at etot
      refine ⟨_, rfl, .inl ⟨rfl, _, SqL.of cT.lst⟩, _, rfl, D, _, _, rfl, rfl, cT.lst, ?_, ?_⟩
      · rw [List.length_map, cT.len]
        exact small_of (by omega)
      have keepT : ∀ x y, H3 x = some (.tup y) → (upd H3 D (.lst (ts.map V.ref ++ [.ref L]))) x = some (.tup y) := fun x y hx => by
        rw [upd_ne (ne_of hx cT.lst (by intro z; cases z))]
        exact hx
      refine ⟨_, rfl, q _ D (fun x o e => ?_) nDH ⟨ts ++ [L], ?_⟩⟩
      · rw [upd_ne (ne_of_none e nDH)]
        exact sH _ _ e
      · rw [← etot]
        refine cT.push ?_ (fun x y hx hc => ?_) ?_
        · rw [upd_same, List.map_append]
          rfl
        · exact hc.keep (fun o ho => by rw [upd_ne (ne_mem hx nDt)]; exact ho) keepT
        · exact c3.keep (fun o ho => by rw [upd_ne neLD]; exact ho) keepT
end
end Fg

set_option Elab.async false
set_option linter.all false
set_option maxRecDepth 100000
set_option maxHeartbeats 2000000
namespace Fg
open PySem PySem.Spec PyProof.Rows L2
open PySem.W (Codec)
section
variable {P : Program} {w : World} {K : PySem.W.Frag} {mg : Str → Option Value} {base : Heap}
def spTri (K : PySem.W.Frag) : Sp := fun vs H Q _ => ∃ (a : Addr) (ns : List Int), vs = [.ref a] ∧ SqL K H a (ns.map V.int) ∧ ns.length ≤ 2000 ∧ ∀ H' p, H' p = some (.lst ((mTri ns).map V.int)) → Q (.ref p) H'
theorem scTri : FnScope ["f", "cut", "answer", "triangle"] ["f"] (defScope sTri) := ⟨rfl, rfl, rfl, by decide +kernel, rfl, by decide +kernel, by decide +kernel⟩
theorem cutM_small : ∀ (m : Nat) (l : List Pt), (∀ t ∈ cutM m l, t.length ≤ 3)
  | 0, l, t, h => by cases h
  | m + 1, l, t, h => by
    unfold cutM at h
    by_cases c : l.length ≤ 3
    · rw [if_pos c] at h
      rw [List.mem_singleton.mp h]
      exact c
    · rw [if_neg c] at h
      cases e : fstEar l with
      | none => rw [e] at h; cases h
      | some i =>
        rw [e] at h
        rcases List.mem_cons.mp h with h | h
        · rw [h]; exact Nat.le_refl 3
        · exact cutM_small m _ t h
theorem ok_tri {f f1 f2 f3 f4 : Addr} {fd fd1 fd2 fd3 fd4 : FuncData} (hE : ∀ ns, fig ns = true → allEars (prs ns).length (prs ns)) (F : Fun K "triangles" "triangles" sTri f fd) (B : Bu mg) (C : Co mg) (Fi : Gd P w K mg base "is_figure" 5 ["f"] (spFig K) f1 fd1) (Cr : Gd P w K mg base "corners_of" 1 ["f"] (spCorners K) f2 fd2)
    (Cu : Gd P w K mg base "cut_up" 5 ["corners"] (spCutUp K) f3 fd3) (Ro : Gd P w K mg base "row_of" 1 ["corners"] (spRow K) f4 fd4) : FnOk P w K mg base CX0 6 f fd ["f"] (spTri K) := by
  obtain ⟨t1, c1⟩ := C.told
  refine F.ok scTri (fun vs H Q E h => ?_) (fun cdv A outer s H vs Q E hr h => ?_)
  · obtain ⟨a, ns, rfl, _⟩ := h
    rfl
  · obtain ⟨a, ns, rfl, hS, hl, q⟩ := h
    have hr1 : Room 1 _ := hr.mono (by decide)
    refine ⟨_, pss_cons (ps_if (pt_not (pt_val (pe_call Fi.ok hr (by rfl) Fi.gl Fi.kp Fi.bd .nil pass0 (pa_cons (pv 0) pa_nil)))) (pss_one (ps_ret (pe_lst (pa_cons (pe_glob (v := .int (-22)) rfl c1 ⟨_, rfl⟩) pa_nil)))) pss_nil)
      (pss_cons (ps_set (i := 1) scTri.nd rfl (Or.inl rfl) (pe_call Cu.ok hr (by rfl) Cu.gl Cu.kp Cu.bd .nil pass0 (pa_cons (pe_call Cr.ok hr1 (by rfl) Cr.gl Cr.kp Cr.bd .nil pass0 (pa_cons (pv 0) pa_nil)) pa_nil)))
      (pss_cons (ps_set (i := 2) scTri.nd rfl (Or.inl rfl) (pe_lst (pa_cons (pe_callB call_len_seq (by rfl) B.len PySem.boot_len (pa_cons (pv 1) pa_nil)) pa_nil)))
      (pss_cons (ps_for PassesOwn.never rfl (pi_list (pv 1)) (pg_name (i := 3) scTri.nd rfl (Or.inl rfl))
        (pss_one (ps_expr (pe_bm PySem.F.plainAttrs_list PySem.F.slot_list_extend PySem.F.type_list_extend mt_extend (pv 2) (pa_cons (pe_call Ro.ok hr1 (by rfl) Ro.gl Ro.kp Ro.bd .nil pass0 (pa_cons (pv 3) pa_nil)) pa_nil)))))
      (pss_one (ps_ret (pv 2)))))), ?_⟩
    refine ⟨_, rfl, a, ns, rfl, hS, hl, fun H1 s1 => ⟨_, rfl, ?_⟩⟩
    unfold mTri at q
    refine ite2 (fun e => ?_) (fun e => ?_)
    · rw [Bool.not_eq_true'] at e
      rw [e] at q
      refine ⟨(by show 1 ≤ sizeLine; decide), fun p hp => ?_⟩
      exact q _ p upd_same
    · have e1 : fig ns = true := by
        revert e
        cases fig ns <;> simp
      have hears := hE ns e1
      rw [e1, if_pos rfl] at q
      have e2 : form ns = true := by
        unfold fig at e1
        rw [Bool.and_eq_true] at e1
        exact e1.1
      obtain ⟨sm, hev, h6, h16⟩ := form_sm e2
      have pl : (prs ns).length = ns.length / 2 := prs_length ns
      have lm := cutM_len (prs ns).length (prs ns)
      have sml := cutM_small (prs ns).length (prs ns)
      refine ⟨_, rfl, a, ns, rfl, s1.seq hS, hl, hev, fun H2 L s2 nL cs => ?_⟩
      refine ⟨L, _, rfl, cs, hears, by omega, by omega, sm, fun H3 D s3 nD cD => ?_⟩
      generalize cutM (prs ns).length (prs ns) = T at *
      obtain ⟨ts, cD⟩ := cD
      refine ⟨_, rfl, D, _, rfl, .inl (SqL.of cD.lst), ?_⟩
      rw [List.length_map, cD.len]
      refine ⟨(by show 1 ≤ sizeLine; decide), fun An nA => ?_⟩
      have s4 := same_upd (o := HO.lst [V.int (T.length : Int)]) nA
      refine ⟨_, rfl, D, rfl, ⟨_, SqL.of (s4 _ _ cD.lst)⟩, for_list (K := K) (a := D) (xs := ts.map V.ref) (fun i σ H' => ∃ v, σ = [some (.ref a), some (.ref D), some (.ref An), v] ∧ Same H3 H' ∧ H' An = some (.lst (((T.length : Int) :: (T.take i).flatMap flat).map V.int)))
        ⟨none, rfl, s4, upd_same⟩ (fun i σ H' _ ⟨_, _, s5, _⟩ => SqL.of (s5 _ _ cD.lst)) ?_ ?_⟩
      · rintro i y σ H' hi ⟨v, rfl, s5, d⟩
        have hi2 : i < T.length := by
          have := (List.getElem?_eq_some_iff.mp hi).1
          rw [List.length_map, cD.len] at this
          exact this
        obtain ⟨b, b1, b2⟩ := cD.item i _ (List.getElem?_eq_getElem hi2)
        have ey : y = V.ref b := by
          rw [List.getElem?_map, b1] at hi
          exact (Option.some.inj hi).symm
        subst ey
        have l3 := sml _ (List.getElem_mem hi2)
        have tk : T.take (i + 1) = T.take i ++ [T[i]] := by
          rw [List.take_add_one, List.getElem?_eq_getElem hi2]
          rfl
        have fl : ∀ (l : List (List Pt)), (∀ t ∈ l, t.length ≤ 3) → (l.flatMap flat).length ≤ 6 * l.length := fun l => by
          induction l with
          | nil => intro _; exact Nat.zero_le _
          | cons x l ih =>
            intro h
            have h1 := ih fun t ht => h t (List.mem_cons_of_mem _ ht)
            have h2 := h x (List.mem_cons_self ..)
            rw [List.flatMap_cons, List.length_append, flat_len, List.length_cons]
            omega
        have fl2 := fl (T.take i) fun t ht => sml t (List.mem_of_mem_take ht)
        have fl3 : (T.take i).length ≤ i := List.length_take_le _ _
        have fl4 := flat_len T[i]
        refine ⟨_, rfl, .inl ⟨rfl, _, SqL.of d⟩, ?_⟩
        refine ⟨_, rfl, b, _, rfl, b2.same s5, by omega, fun H6 r s6 nr er => ?_⟩
        refine ⟨An, r, _, _, rfl, rfl, s6 _ _ d, er, ?_, ?_⟩
        · rw [List.length_map, List.length_map, List.length_cons]
          exact Nat.le_of_lt (small_of (by omega))
        · refine ⟨_, rfl, fun x o e => ?_, ?_⟩
          · rw [upd_ne (ne_of_none e nA)]
            exact s6 _ _ (s5 _ _ e)
          · rw [upd_same, tk, List.flatMap_append, List.flatMap_singleton, ← List.map_append]
            rfl
      · rintro σ H' ⟨v, rfl, s5, d⟩
        rw [List.length_map, cD.len, List.take_length] at d
        exact ⟨_, rfl, q H' An d⟩
end
end Fg

set_option Elab.async false
namespace Fg
/-! ## Ears: signs -/
theorem sPP {x y : Int} (h : 0 < x) (k : 0 < y) : 0 < x * y := Int.mul_pos h k
theorem sPN {x y : Int} (h : 0 < x) (k : y < 0) : x * y < 0 := Int.mul_neg_of_pos_of_neg h k
theorem sNP {x y : Int} (h : x < 0) (k : 0 < y) : x * y < 0 := Int.mul_neg_of_neg_of_pos h k
theorem sNN {x y : Int} (h : x < 0) (k : y < 0) : 0 < x * y := Int.mul_pos_of_neg_of_neg h k
theorem wPP {x y : Int} (h : 0 ≤ x) (k : 0 ≤ y) : 0 ≤ x * y := Int.mul_nonneg h k
theorem wPN {x y : Int} (h : 0 ≤ x) (k : y ≤ 0) : x * y ≤ 0 := Int.mul_nonpos_of_nonneg_of_nonpos h k
theorem wNP {x y : Int} (h : x ≤ 0) (k : 0 ≤ y) : x * y ≤ 0 := Int.mul_nonpos_of_nonpos_of_nonneg h k
theorem wNN {x y : Int} (h : x ≤ 0) (k : y ≤ 0) : 0 ≤ x * y := Int.mul_nonneg_of_nonpos_of_nonpos h k
theorem dP {x y : Int} (h : 0 < x) (k : 0 < x * y) : 0 < y := by
  rcases Int.lt_trichotomy y 0 with e | e | e
  · have := sPN h e; omega
  · subst e; simp at k
  · exact e
theorem dN {x y : Int} (h : 0 < x) (k : x * y < 0) : y < 0 := by
  rcases Int.lt_trichotomy y 0 with e | e | e
  · exact e
  · subst e; simp at k
  · have := sPP h e; omega
theorem dZ {x y : Int} (h : 0 < x) (k : x * y = 0) : y = 0 := by
  rcases Int.lt_trichotomy y 0 with e | e | e
  · have := sPN h e; omega
  · exact e
  · have := sPP h e; omega
theorem dPw {x y : Int} (h : 0 < x) (k : 0 ≤ x * y) : 0 ≤ y := by
  rcases Int.lt_or_le y 0 with e | e
  · have := sPN h e; omega
  · exact e
theorem dNw {x y : Int} (h : 0 < x) (k : x * y ≤ 0) : y ≤ 0 := by
  rcases Int.lt_or_le 0 y with e | e
  · have := sPP h e; omega
  · exact e
theorem negP {x y : Int} (h : x < 0) (k : 0 < x * y) : y < 0 := by
  rcases Int.lt_trichotomy y 0 with e | e | e
  · exact e
  · subst e; simp at k
  · have := sNP h e; omega
theorem negN {x y : Int} (h : x < 0) (k : x * y < 0) : 0 < y := by
  rcases Int.lt_trichotomy y 0 with e | e | e
  · have := sNN h e; omega
  · subst e; simp at k
  · exact e
/-! ### points -/
theorem tn_cyc (a b c : Pt) : tn b c a = tn a b c := by unfold tn; grind
theorem tn_swap (a b c : Pt) : tn b a c = -tn a b c := by unfold tn; grind
theorem tn_swap2 (a b c : Pt) : tn a c b = -tn a b c := by unfold tn; grind
theorem tn_self1 (a b : Pt) : tn a a b = 0 := by unfold tn; grind
theorem tn_self2 (a b : Pt) : tn a b a = 0 := by unfold tn; grind
theorem tn_self3 (a b : Pt) : tn a b b = 0 := by unfold tn; grind
theorem tn_four (a b c d : Pt) : tn a b c = tn a b d + tn b c d + tn c a d := by unfold tn; grind
theorem tn_y1 (a b z y : Pt) : (b.2 - a.2) * tn z y a = (z.2 - a.2) * tn a b y - (y.2 - a.2) * tn a b z := by unfold tn; grind
theorem tn_y2 (a b z y : Pt) : (b.2 - a.2) * tn z y b = (z.2 - b.2) * tn a b y - (y.2 - b.2) * tn a b z := by unfold tn; grind
/-- z on the segment from a to b -/
def On (z a b : Pt) : Prop := tn a b z = 0 ∧ min a.1 b.1 ≤ z.1 ∧ z.1 ≤ max a.1 b.1 ∧ min a.2 b.2 ≤ z.2 ∧ z.2 ≤ max a.2 b.2
/-- both cross within -/
def Cross (a b c d : Pt) : Prop := tn a b c * tn a b d < 0 ∧ tn c d a * tn c d b < 0
theorem On.swap {z a b : Pt} (h : On z a b) : On z b a := by
  unfold On at *
  rw [tn_swap, Int.min_comm, Int.max_comm, Int.min_comm b.2, Int.max_comm b.2]
  exact ⟨by omega, h.2⟩
theorem Cross.flip {a b c d : Pt} (h : Cross a b c d) : Cross c d a b := ⟨h.2, h.1⟩
theorem Cross.swap {a b c d : Pt} (h : Cross a b c d) : Cross b a c d := by
  unfold Cross at *
  rw [tn_swap a b c, tn_swap a b d, Int.neg_mul_neg, Int.mul_comm (tn c d b)]
  exact h
theorem btwX {p q s t : Int} (hp : 0 < p) (h0 : 0 ≤ s) (h1 : s ≤ p) (e : q * s = p * t) : min 0 q ≤ t ∧ t ≤ max 0 q := by
  rcases Int.lt_or_le q 0 with hq | hq
  · have a1 : q * s ≤ 0 := wNP (by omega) h0
    have a2 : 0 ≤ q * (s - p) := wNN (by omega) (by omega)
    have a3 : q * (s - p) = p * (t - q) := by grind
    have a4 : t ≤ 0 := dNw hp (by omega)
    have a5 : 0 ≤ t - q := dPw hp (by omega)
    omega
  · have a1 : 0 ≤ q * s := wPP hq h0
    have a2 : q * (s - p) ≤ 0 := wPN hq (by omega)
    have a3 : q * (s - p) = p * (t - q) := by grind
    have a4 : 0 ≤ t := dPw hp (by omega)
    have a5 : t - q ≤ 0 := dNw hp (by omega)
    omega
/-- on the line, between in height -/
theorem onY {z a b : Pt} (h : tn a b z = 0) (h1 : a.2 ≤ z.2) (h2 : z.2 ≤ b.2) (h3 : a.2 < b.2) : On z a b := by
  have q := btwX (p := b.2 - a.2) (q := b.1 - a.1) (s := z.2 - a.2) (t := z.1 - a.1) (by omega) (by omega) (by omega) (by unfold tn at h; omega)
  refine ⟨h, ?_, ?_, ?_, ?_⟩ <;> omega
/-- on a level line -/
theorem onX {z a b : Pt} (h1 : a.2 = z.2) (h2 : b.2 = z.2) (h3 : min a.1 b.1 ≤ z.1) (h4 : z.1 ≤ max a.1 b.1) : On z a b := by
  refine ⟨?_, h3, h4, by omega, by omega⟩
  unfold tn
  have e1 : z.2 - a.2 = 0 := by omega
  have e2 : b.2 - a.2 = 0 := by omega
  rw [e1, e2]
  simp
/-! ### how often a ray to the right is crossed -/
def cr (a b z : Pt) : Int := if a.2 ≤ z.2 ∧ z.2 < b.2 ∧ 0 < tn a b z then 1 else if b.2 ≤ z.2 ∧ z.2 < a.2 ∧ tn a b z < 0 then -1 else 0
def dd (z y q : Pt) : Int := if z.2 < q.2 ∧ q.2 ≤ y.2 ∧ tn z y q < 0 then 1 else 0
theorem cr_swap (a b z : Pt) : cr b a z = -cr a b z := by
  unfold cr
  rw [tn_swap a b z]
  by_cases h1 : a.2 ≤ z.2 ∧ z.2 < b.2 ∧ 0 < tn a b z
  · rw [if_neg (by omega), if_pos (by omega), if_pos h1]
  · by_cases h2 : b.2 ≤ z.2 ∧ z.2 < a.2 ∧ tn a b z < 0
    · rw [if_pos (by omega), if_neg (by omega), if_pos h2]; rfl
    · rw [if_neg (by omega), if_neg (by omega), if_neg (by omega), if_neg (by omega)]; rfl
/-- no point in common -/
def Free4 (a b z y : Pt) : Prop := ¬On z a b ∧ ¬On y a b ∧ ¬On a z y ∧ ¬On b z y ∧ ¬Cross a b z y
theorem Free4.swap {a b z y : Pt} (h : Free4 a b z y) : Free4 b a z y :=
  ⟨fun e => h.1 e.swap, fun e => h.2.1 e.swap, h.2.2.2.1, h.2.2.1, fun e => h.2.2.2.2 e.swap⟩
theorem level {a b z : Pt} (h : z.2 = a.2) : tn a b z = (b.2 - a.2) * (a.1 - z.1) := by
  unfold tn
  have e : z.2 - a.2 = 0 := by omega
  rw [e]
  grind
theorem level2 {z y a : Pt} (h : a.2 = y.2) : tn z y a = (y.2 - z.2) * (y.1 - a.1) := by
  unfold tn
  rw [h]
  grind
theorem move_up {a b z y : Pt} (hz : z.2 ≤ y.2) (hab : a.2 ≤ b.2) (hf : Free4 a b z y) : cr a b y - cr a b z = dd z y a - dd z y b := by
  obtain ⟨f1, f2, f3, f4, f5⟩ := hf
  have i1 := tn_y1 a b z y
  have i2 := tn_y2 a b z y
  have i3 := tn_y1 z y a b
  have i4 := tn_y2 z y a b
  have nc : ¬ (tn a b z * tn a b y < 0 ∧ tn z y a * tn z y b < 0) := f5
  have o1 : tn a b z = 0 → a.2 ≤ z.2 → z.2 ≤ b.2 → a.2 < b.2 → False := fun e h1 h2 h3 => f1 (onY e h1 h2 h3)
  have o2 : tn a b y = 0 → a.2 ≤ y.2 → y.2 ≤ b.2 → a.2 < b.2 → False := fun e h1 h2 h3 => f2 (onY e h1 h2 h3)
  have o3 : tn z y a = 0 → z.2 ≤ a.2 → a.2 ≤ y.2 → z.2 < y.2 → False := fun e h1 h2 h3 => f3 (onY e h1 h2 h3)
  have o4 : tn z y b = 0 → z.2 ≤ b.2 → b.2 ≤ y.2 → z.2 < y.2 → False := fun e h1 h2 h3 => f4 (onY e h1 h2 h3)
  unfold cr dd
  by_cases la : a.2 ≤ z.2
  · by_cases lb : b.2 ≤ z.2
    · -- both low
      rw [if_neg (by omega), if_neg (by omega), if_neg (by omega), if_neg (by omega), if_neg (by omega), if_neg (by omega)]
    · by_cases mb : b.2 ≤ y.2
      · -- a low, b mid
        rw [if_neg (show ¬ (a.2 ≤ y.2 ∧ y.2 < b.2 ∧ 0 < tn a b y) by omega), if_neg (show ¬ (b.2 ≤ y.2 ∧ y.2 < a.2 ∧ tn a b y < 0) by omega), if_neg (show ¬ (b.2 ≤ z.2 ∧ z.2 < a.2 ∧ tn a b z < 0) by omega), if_neg (show ¬ (z.2 < a.2 ∧ a.2 ≤ y.2 ∧ tn z y a < 0) by omega)]
        have key : (0 < tn a b z) ↔ (tn z y b < 0) := by
          generalize tn a b z = α at *
          generalize tn a b y = α' at *
          generalize tn z y a = β at *
          generalize tn z y b = β' at *
          constructor
          · intro hα
            refine Int.not_le.mp fun hβ' => ?_
            have w1 : (a.2 - z.2) * β' ≤ 0 := wNP (by omega) hβ'
            have w2 : 0 < (y.2 - z.2) * α := sPP (by omega) hα
            have hβ : β < 0 := dN (x := b.2 - z.2) (by omega) (by omega)
            rcases Int.lt_or_eq_of_le hβ' with e | e
            · have w3 : 0 < (b.2 - a.2) * β' := sPP (by omega) e
              have w4 : 0 ≤ (y.2 - b.2) * α := wPP (by omega) (by omega)
              have w5 : α' < 0 := negP (x := z.2 - b.2) (by omega) (by omega)
              exact nc ⟨sPN hα w5, sNP hβ e⟩
            · exact o4 e.symm (by omega) mb (by omega)
          · intro hβ'
            refine Int.not_le.mp fun hα => ?_
            rcases Int.lt_or_eq_of_le hα with e | e
            · have w1 : 0 ≤ (a.2 - z.2) * β' := wNN (by omega) (by omega)
              have w2 : (y.2 - z.2) * α < 0 := sPN (by omega) e
              have hβ : 0 < β := dP (x := b.2 - z.2) (by omega) (by omega)
              have w3 : (b.2 - a.2) * β' < 0 := sPN (by omega) hβ'
              have w4 : (y.2 - b.2) * α ≤ 0 := wPN (by omega) (by omega)
              have w5 : 0 < α' := negN (x := z.2 - b.2) (by omega) (by omega)
              exact nc ⟨sNP e w5, sPN hβ hβ'⟩
            · exact o1 e la (by omega) (by omega)
        by_cases h : 0 < tn a b z
        · rw [if_pos (by omega), if_pos ⟨by omega, by omega, key.mp h⟩]
        · rw [if_neg (by omega), if_neg (fun q => h (key.mpr q.2.2))]
      · -- a low, b high
        rw [if_neg (show ¬ (b.2 ≤ y.2 ∧ y.2 < a.2 ∧ tn a b y < 0) by omega), if_neg (show ¬ (b.2 ≤ z.2 ∧ z.2 < a.2 ∧ tn a b z < 0) by omega), if_neg (show ¬ (z.2 < a.2 ∧ a.2 ≤ y.2 ∧ tn z y a < 0) by omega), if_neg (show ¬ (z.2 < b.2 ∧ b.2 ≤ y.2 ∧ tn z y b < 0) by omega)]
        have lev : ∀ s : Int, y.2 = a.2 → tn a b z * s < 0 ∨ True := fun _ _ => .inr trivial
        have key : (0 < tn a b z) ↔ (0 < tn a b y) := by
          have hx : y.2 = a.2 → z.2 = a.2 → ¬ (tn a b z * tn a b y < 0) := by
            intro e1 e2 q
            rw [level e2, level e1] at q
            have D : 0 < b.2 - a.2 := by omega
            have q2 : (b.2 - a.2) * ((b.2 - a.2) * ((a.1 - z.1) * (a.1 - y.1))) < 0 := by
              have : (b.2 - a.2) * ((b.2 - a.2) * ((a.1 - z.1) * (a.1 - y.1))) = (b.2 - a.2) * (a.1 - z.1) * ((b.2 - a.2) * (a.1 - y.1)) := by grind
              omega
            have q3 := dN D (dN D q2)
            refine f3 (onX (by omega) (by omega) ?_ ?_)
            · refine Int.not_lt.mp fun c => ?_
              have := sNN (x := a.1 - z.1) (y := a.1 - y.1) (by omega) (by omega)
              omega
            · refine Int.not_lt.mp fun c => ?_
              have := sPP (x := a.1 - z.1) (y := a.1 - y.1) (by omega) (by omega)
              omega
          generalize tn a b z = α at *
          generalize tn a b y = α' at *
          generalize tn z y a = β at *
          generalize tn z y b = β' at *
          have zero : ∀ (_ : β = 0) (_ : α * α' < 0), False := by
            intro e q
            rw [e, Int.mul_zero] at i1
            rcases Int.lt_trichotomy α 0 with c | c | c
            · have c' : 0 < α' := negN c q
              have w1 : 0 ≤ (z.2 - a.2) * α' := wPP (by omega) (by omega)
              have w2 : (y.2 - a.2) * α ≤ 0 := wPN (by omega) (by omega)
              have e1 : y.2 - a.2 = 0 := by
                rcases Int.lt_or_eq_of_le (show 0 ≤ y.2 - a.2 by omega) with k | k
                · have := sPN k c; omega
                · omega
              exact hx (by omega) (by omega) q
            · subst c; simp at q
            · have c' : α' < 0 := dN c q
              have w1 : (z.2 - a.2) * α' ≤ 0 := wPN (by omega) (by omega)
              have w2 : 0 ≤ (y.2 - a.2) * α := wPP (by omega) (by omega)
              have e1 : y.2 - a.2 = 0 := by
                rcases Int.lt_or_eq_of_le (show 0 ≤ y.2 - a.2 by omega) with k | k
                · have := sPP k c; omega
                · omega
              exact hx (by omega) (by omega) q
          constructor
          · intro hα
            refine Int.not_le.mp fun hα' => ?_
            rcases Int.lt_or_eq_of_le hα' with e | e
            · have w1 : (z.2 - a.2) * α' ≤ 0 := wPN (by omega) (by omega)
              have w2 : 0 ≤ (y.2 - a.2) * α := wPP (by omega) (by omega)
              have hβ : β ≤ 0 := dNw (x := b.2 - a.2) (by omega) (by omega)
              have w3 : 0 < (z.2 - b.2) * α' := sNN (by omega) e
              have w4 : (y.2 - b.2) * α < 0 := sNP (by omega) hα
              have hβ' : 0 < β' := dP (x := b.2 - a.2) (by omega) (by omega)
              rcases Int.lt_or_eq_of_le hβ with k | k
              · exact nc ⟨sPN hα e, sNP k hβ'⟩
              · exact zero k (sPN hα e)
            · exact o2 e (by omega) (by omega) (by omega)
          · intro hα'
            refine Int.not_le.mp fun hα => ?_
            rcases Int.lt_or_eq_of_le hα with e | e
            · have w1 : 0 ≤ (z.2 - a.2) * α' := wPP (by omega) (by omega)
              have w2 : (y.2 - a.2) * α ≤ 0 := wPN (by omega) (by omega)
              have hβ : 0 ≤ β := dPw (x := b.2 - a.2) (by omega) (by omega)
              have w3 : (z.2 - b.2) * α' < 0 := sNP (by omega) hα'
              have w4 : 0 < (y.2 - b.2) * α := sNN (by omega) e
              have hβ' : β' < 0 := dN (x := b.2 - a.2) (by omega) (by omega)
              rcases Int.lt_or_eq_of_le hβ with k | k
              · exact nc ⟨sNP e hα', sPN k hβ'⟩
              · exact zero k.symm (sNP e hα')
            · exact o1 e (by omega) (by omega) (by omega)
        by_cases h : 0 < tn a b z
        · rw [if_pos ⟨by omega, by omega, key.mp h⟩, if_pos (by omega)]; rfl
        · rw [if_neg (fun q => h (key.mpr q.2.2)), if_neg (by omega)]
  · by_cases ha : a.2 ≤ y.2
    · by_cases mb : b.2 ≤ y.2
      · -- both mid
        rw [if_neg (show ¬ (a.2 ≤ y.2 ∧ y.2 < b.2 ∧ 0 < tn a b y) by omega), if_neg (show ¬ (b.2 ≤ y.2 ∧ y.2 < a.2 ∧ tn a b y < 0) by omega), if_neg (show ¬ (a.2 ≤ z.2 ∧ z.2 < b.2 ∧ 0 < tn a b z) by omega), if_neg (show ¬ (b.2 ≤ z.2 ∧ z.2 < a.2 ∧ tn a b z < 0) by omega)]
        have key : (tn z y a < 0) ↔ (tn z y b < 0) := by
          have hx : a.2 = y.2 → b.2 = y.2 → ¬ (tn z y a * tn z y b < 0) := by
            intro e1 e2 q
            rw [level2 e1, level2 e2] at q
            have D : 0 < y.2 - z.2 := by omega
            have q2 : (y.2 - z.2) * ((y.2 - z.2) * ((y.1 - a.1) * (y.1 - b.1))) < 0 := by
              have : (y.2 - z.2) * ((y.2 - z.2) * ((y.1 - a.1) * (y.1 - b.1))) = (y.2 - z.2) * (y.1 - a.1) * ((y.2 - z.2) * (y.1 - b.1)) := by grind
              omega
            have q3 := dN D (dN D q2)
            refine f2 (onX e1 e2 ?_ ?_)
            · refine Int.not_lt.mp fun c => ?_
              have := sNN (x := y.1 - a.1) (y := y.1 - b.1) (by omega) (by omega)
              omega
            · refine Int.not_lt.mp fun c => ?_
              have := sPP (x := y.1 - a.1) (y := y.1 - b.1) (by omega) (by omega)
              omega
          generalize tn a b z = α at *
          generalize tn a b y = α' at *
          generalize tn z y a = β at *
          generalize tn z y b = β' at *
          have zero : ∀ (_ : α' = 0) (_ : β * β' < 0), False := by
            intro e q
            rw [e, Int.mul_zero] at i4
            rcases Int.lt_trichotomy β 0 with c | c | c
            · have c' : 0 < β' := negN c q
              have w1 : (a.2 - y.2) * β' ≤ 0 := wNP (by omega) (by omega)
              have w2 : 0 ≤ (b.2 - y.2) * β := wNN (by omega) (by omega)
              have e1 : a.2 - y.2 = 0 := by
                rcases Int.lt_or_eq_of_le (show a.2 - y.2 ≤ 0 by omega) with k | k
                · have := sNP k c'; omega
                · omega
              exact hx (by omega) (by omega) q
            · subst c; simp at q
            · have c' : β' < 0 := dN c q
              have w1 : 0 ≤ (a.2 - y.2) * β' := wNN (by omega) (by omega)
              have w2 : (b.2 - y.2) * β ≤ 0 := wNP (by omega) (by omega)
              have e1 : a.2 - y.2 = 0 := by
                rcases Int.lt_or_eq_of_le (show a.2 - y.2 ≤ 0 by omega) with k | k
                · have := sNN k c'; omega
                · omega
              exact hx (by omega) (by omega) q
          constructor
          · intro hβ
            refine Int.not_le.mp fun hβ' => ?_
            rcases Int.lt_or_eq_of_le hβ' with e | e
            · have w1 : 0 < (a.2 - z.2) * β' := sPP (by omega) e
              have w2 : (b.2 - z.2) * β < 0 := sPN (by omega) hβ
              have hα : 0 < α := dP (x := y.2 - z.2) (by omega) (by omega)
              have w3 : (a.2 - y.2) * β' ≤ 0 := wNP (by omega) (by omega)
              have w4 : 0 ≤ (b.2 - y.2) * β := wNN (by omega) (by omega)
              have hα' : α' ≤ 0 := dNw (x := y.2 - z.2) (by omega) (by omega)
              rcases Int.lt_or_eq_of_le hα' with k | k
              · exact nc ⟨sPN hα k, sNP hβ e⟩
              · exact zero k (sNP hβ e)
            · exact o4 e.symm (by omega) mb (by omega)
          · intro hβ'
            refine Int.not_le.mp fun hβ => ?_
            rcases Int.lt_or_eq_of_le hβ with e | e
            · have w1 : (a.2 - z.2) * β' < 0 := sPN (by omega) hβ'
              have w2 : 0 < (b.2 - z.2) * β := sPP (by omega) e
              have hα : α < 0 := dN (x := y.2 - z.2) (by omega) (by omega)
              have w3 : 0 ≤ (a.2 - y.2) * β' := wNN (by omega) (by omega)
              have w4 : (b.2 - y.2) * β ≤ 0 := wNP (by omega) (by omega)
              have hα' : 0 ≤ α' := dPw (x := y.2 - z.2) (by omega) (by omega)
              rcases Int.lt_or_eq_of_le hα' with k | k
              · exact nc ⟨sNP hα k, sPN e hβ'⟩
              · exact zero k.symm (sPN e hβ')
            · exact o3 e.symm (by omega) ha (by omega)
        by_cases h : tn z y a < 0
        · rw [if_pos ⟨by omega, by omega, h⟩, if_pos ⟨by omega, by omega, key.mp h⟩]; rfl
        · rw [if_neg (fun q => h q.2.2), if_neg (fun q => h (key.mpr q.2.2))]
      · -- a mid, b high
        rw [if_neg (show ¬ (b.2 ≤ y.2 ∧ y.2 < a.2 ∧ tn a b y < 0) by omega), if_neg (show ¬ (a.2 ≤ z.2 ∧ z.2 < b.2 ∧ 0 < tn a b z) by omega), if_neg (show ¬ (b.2 ≤ z.2 ∧ z.2 < a.2 ∧ tn a b z < 0) by omega), if_neg (show ¬ (z.2 < b.2 ∧ b.2 ≤ y.2 ∧ tn z y b < 0) by omega)]
        have key : (0 < tn a b y) ↔ (tn z y a < 0) := by
          generalize tn a b z = α at *
          generalize tn a b y = α' at *
          generalize tn z y a = β at *
          generalize tn z y b = β' at *
          constructor
          · intro hα'
            refine Int.not_le.mp fun hβ => ?_
            rcases Int.lt_or_eq_of_le hβ with e | e
            · have w1 : 0 ≤ (b.2 - y.2) * β := wPP (by omega) hβ
              have w2 : 0 < (y.2 - z.2) * α' := sPP (by omega) hα'
              have w0 : 0 < (a.2 - y.2) * β' := by omega
              have hay : a.2 - y.2 < 0 := by
                rcases Int.lt_or_eq_of_le (show a.2 - y.2 ≤ 0 by omega) with k | k
                · exact k
                · rw [k] at w0; simp at w0
              have hβ' : β' < 0 := negP hay w0
              have w3 : 0 < (b.2 - a.2) * β := sPP (by omega) e
              have w4 : (z.2 - a.2) * α' < 0 := sNP (by omega) hα'
              have w5 : (y.2 - a.2) * α < 0 := by omega
              have hα : α < 0 := dN (x := y.2 - a.2) (by omega) w5
              exact nc ⟨sNP hα hα', sPN e hβ'⟩
            · exact o3 e.symm (by omega) ha (by omega)
          · intro hβ
            refine Int.not_le.mp fun hα' => ?_
            rcases Int.lt_or_eq_of_le hα' with e | e
            · have w1 : (b.2 - y.2) * β < 0 := sPN (by omega) hβ
              have w2 : (y.2 - z.2) * α' < 0 := sPN (by omega) e
              have w0 : (a.2 - y.2) * β' < 0 := by omega
              have hay : a.2 - y.2 < 0 := by
                rcases Int.lt_or_eq_of_le (show a.2 - y.2 ≤ 0 by omega) with k | k
                · exact k
                · rw [k] at w0; simp at w0
              have hβ' : 0 < β' := negN hay w0
              have w3 : (b.2 - a.2) * β < 0 := sPN (by omega) hβ
              have w4 : 0 < (z.2 - a.2) * α' := sNN (by omega) e
              have w5 : 0 < (y.2 - a.2) * α := by omega
              have hα : 0 < α := dP (x := y.2 - a.2) (by omega) w5
              exact nc ⟨sPN hα e, sNP hβ hβ'⟩
            · exact o2 e ha (by omega) (by omega)
        by_cases h : 0 < tn a b y
        · rw [if_pos ⟨by omega, by omega, h⟩, if_pos ⟨by omega, by omega, key.mp h⟩]
        · rw [if_neg (fun q => h q.2.2), if_neg (fun q => h (key.mpr q.2.2))]
    · -- both high
      rw [if_neg (by omega), if_neg (by omega), if_neg (by omega), if_neg (by omega), if_neg (by omega), if_neg (by omega)]
/-- a way that has no point in common with a side -/
theorem move {a b z y : Pt} (hz : z.2 ≤ y.2) (hf : Free4 a b z y) : cr a b y - cr a b z = dd z y a - dd z y b := by
  rcases Int.le_total a.2 b.2 with h | h
  · exact move_up hz h hf
  · have q := move_up hz h hf.swap
    rw [cr_swap a b y, cr_swap a b z] at q
    omega
end Fg

set_option Elab.async false
namespace Fg
/-! ### a closed way that meets itself nowhere -/
structure Poly (m : Nat) (q : Nat → Pt) : Prop where
  three : 3 ≤ m
  per : ∀ k, q (k + m) = q k
  one : ∀ k, q k ≠ q (k + 1)
  off : ∀ e t, 2 ≤ t → t + 1 ≤ m → ¬On (q (e + t)) (q e) (q (e + 1))
  nox : ∀ e f, ¬Cross (q e) (q (e + 1)) (q f) (q (f + 1))
theorem Poly.far {m : Nat} {q : Nat → Pt} (P : Poly m q) (e t : Nat) (h1 : 2 ≤ t) (h2 : t + 2 ≤ m) : Free4 (q (e + t)) (q (e + t + 1)) (q e) (q (e + 1)) := by
  refine ⟨?_, ?_, P.off e t h1 (by omega), P.off e (t + 1) (by omega) (by omega), P.nox _ _⟩
  · have := P.off (e + t) (m - t) (by omega) (by omega)
    rw [show e + t + (m - t) = e + m by omega, P.per] at this
    exact this
  · have := P.off (e + t) (m - t + 1) (by omega) (by omega)
    rw [show e + t + (m - t + 1) = e + 1 + m by omega, P.per] at this
    exact this
def sm (f : Nat → Int) (i : Nat) : Nat → Int
  | 0 => 0
  | n + 1 => sm f i n + f (i + n)
theorem sm_head (f : Nat → Int) (i : Nat) : ∀ n, sm f i (n + 1) = f i + sm f (i + 1) n
  | 0 => by simp [sm]
  | n + 1 => by
    show sm f i (n + 1) + f (i + (n + 1)) = f i + (sm f (i + 1) n + f (i + 1 + n))
    rw [sm_head f i n, show i + (n + 1) = i + 1 + n by omega]
    omega
theorem sm_tele {f g : Nat → Int} {D : Nat → Int} (i : Nat) : ∀ n, (∀ t, t < n → f (i + t) - g (i + t) = D (i + t) - D (i + t + 1)) → sm f i n - sm g i n = D i - D (i + n)
  | 0, _ => by simp [sm]
  | n + 1, h => by
    have q := sm_tele i n fun t ht => h t (by omega)
    have q2 := h n (by omega)
    show sm f i n + f (i + n) - (sm g i n + g (i + n)) = D i - D (i + (n + 1))
    rw [show i + (n + 1) = i + n + 1 by omega]
    omega
theorem sm_congr {f g : Nat → Int} (i : Nat) : ∀ n, (∀ t, t < n → f (i + t) = g (i + t)) → sm f i n = sm g i n
  | 0, _ => rfl
  | n + 1, h => by
    show sm f i n + f (i + n) = sm g i n + g (i + n)
    rw [sm_congr i n fun t ht => h t (by omega), h n (by omega)]
/-- q stands above p (of like height: on its left) -/
def up (p q : Pt) : Prop := p.2 < q.2 ∨ (q.2 = p.2 ∧ q.1 < p.1)
instance (p q : Pt) : Decidable (up p q) := by unfold up; exact inferInstance
def ka (u p w : Pt) : Int := if (up p u ∧ ¬up p w) ∨ ((up p u ↔ up p w) ∧ 0 < tn p u w) then 1 else 0
def ph (p q : Pt) : Int := if up p q then 0 else 1
theorem lev_pos {p q u : Pt} (e : u.2 = p.2) : (p.2 < q.2 → u.1 < p.1 → 0 < tn p q u) ∧ (p.2 < q.2 → p.1 < u.1 → tn p q u < 0) ∧ (q.2 < p.2 → u.1 < p.1 → tn p q u < 0) ∧ (q.2 < p.2 → p.1 < u.1 → 0 < tn p q u) := by
  rw [level e]
  exact ⟨fun h k => sPP (by omega) (by omega), fun h k => sPN (by omega) (by omega), fun h k => sNP (by omega) (by omega), fun h k => sNN (by omega) (by omega)⟩
theorem lev_q {p q u : Pt} (e : q.2 = p.2) : (p.1 < q.1 → p.2 < u.2 → 0 < tn p q u) ∧ (p.1 < q.1 → u.2 < p.2 → tn p q u < 0) ∧ (q.1 < p.1 → p.2 < u.2 → tn p q u < 0) ∧ (q.1 < p.1 → u.2 < p.2 → 0 < tn p q u) ∧ (u.2 = p.2 → tn p q u = 0) := by
  have h : tn p q u = (q.1 - p.1) * (u.2 - p.2) := by
    unfold tn
    have : q.2 - p.2 = 0 := by omega
    rw [this]
    simp
  rw [h]
  refine ⟨fun h k => sPP (by omega) (by omega), fun h k => sPN (by omega) (by omega), fun h k => sNP (by omega) (by omega), fun h k => sNN (by omega) (by omega), fun k => ?_⟩
  rw [show u.2 - p.2 = 0 by omega]
  simp
/-- two ways out of p on one line go to unlike sides -/
theorem ray {p q u : Pt} (h1 : ¬On u p q) (h2 : ¬On q p u) (e : tn p q u = 0) : ¬(p.2 < q.2 ∧ p.2 < u.2) ∧ ¬(q.2 < p.2 ∧ u.2 < p.2) ∧ ¬(q.2 = p.2 ∧ u.2 = p.2 ∧ p.1 < q.1 ∧ p.1 < u.1) ∧ ¬(q.2 = p.2 ∧ u.2 = p.2 ∧ q.1 < p.1 ∧ u.1 < p.1) := by
  have e2 : tn p u q = 0 := by rw [tn_swap2]; omega
  have e3 : tn q p u = 0 := by rw [tn_swap]; omega
  have e4 : tn u p q = 0 := by rw [tn_swap]; omega
  refine ⟨fun k => ?_, fun k => ?_, fun k => ?_, fun k => ?_⟩
  · rcases Int.le_total u.2 q.2 with z | z
    · exact h1 (onY e (by omega) z (by omega))
    · exact h2 (onY e2 (by omega) z (by omega))
  · rcases Int.le_total u.2 q.2 with z | z
    · exact h2 (onY e4 z (by omega) (by omega)).swap
    · exact h1 (onY e3 z (by omega) (by omega)).swap
  · rcases Int.le_total u.1 q.1 with z | z
    · exact h1 (onX (by omega) (by omega) (by omega) (by omega))
    · exact h2 (onX (by omega) (by omega) (by omega) (by omega))
  · rcases Int.le_total u.1 q.1 with z | z
    · exact h2 (onX (by omega) (by omega) (by omega) (by omega))
    · exact h1 (onX (by omega) (by omega) (by omega) (by omega))
theorem ne_pt {p q : Pt} (h : p ≠ q) : ¬(p.1 = q.1 ∧ p.2 = q.2) := fun k => h (Prod.ext k.1 k.2)
theorem pos4 {p u : Pt} (h : p ≠ u) : u.2 < p.2 ∨ p.2 < u.2 ∨ (u.2 = p.2 ∧ u.1 < p.1) ∨ (u.2 = p.2 ∧ p.1 < u.1) := by
  have := ne_pt h
  omega
/-- the sign of the turn, told by the places -/
theorem sgn {p q u : Pt} (hpq : p ≠ q) (hpu : p ≠ u) (h1 : ¬On u p q) (h2 : ¬On q p u) :
    (u.2 = p.2 → p.2 < q.2 → u.1 < p.1 → 0 < tn p q u) ∧ (u.2 = p.2 → p.2 < q.2 → p.1 < u.1 → tn p q u < 0) ∧ (u.2 = p.2 → q.2 < p.2 → u.1 < p.1 → tn p q u < 0) ∧ (u.2 = p.2 → q.2 < p.2 → p.1 < u.1 → 0 < tn p q u) ∧
    (q.2 = p.2 → p.1 < q.1 → p.2 < u.2 → 0 < tn p q u) ∧ (q.2 = p.2 → p.1 < q.1 → u.2 < p.2 → tn p q u < 0) ∧ (q.2 = p.2 → q.1 < p.1 → p.2 < u.2 → tn p q u < 0) ∧ (q.2 = p.2 → q.1 < p.1 → u.2 < p.2 → 0 < tn p q u) ∧
    (p.2 < q.2 → p.2 < u.2 → tn p q u ≠ 0) ∧ (q.2 < p.2 → u.2 < p.2 → tn p q u ≠ 0) ∧ (q.2 = p.2 → u.2 = p.2 → tn p q u = 0) ∧ ¬(q.2 = p.2 ∧ u.2 = p.2 ∧ p.1 < q.1 ∧ p.1 < u.1) ∧ ¬(q.2 = p.2 ∧ u.2 = p.2 ∧ q.1 < p.1 ∧ u.1 < p.1) := by
  have r := ray h1 h2
  have l1 := fun e => lev_pos (p := p) (q := q) (u := u) e
  have l2 := fun e => lev_q (p := p) (q := q) (u := u) e
  refine ⟨fun e => (l1 e).1, fun e => (l1 e).2.1, fun e => (l1 e).2.2.1, fun e => (l1 e).2.2.2, fun e => (l2 e).1, fun e => (l2 e).2.1, fun e => (l2 e).2.2.1, fun e => (l2 e).2.2.2.1,
    fun a b c => (r c).1 ⟨a, b⟩, fun a b c => (r c).2.1 ⟨a, b⟩, fun a b => (l2 a).2.2.2.2 b, fun k => (r ((l2 k.1).2.2.2.2 k.2.1)).2.2.1 k, fun k => (r ((l2 k.1).2.2.2.2 k.2.1)).2.2.2 k⟩
theorem cr_of {a b z : Pt} {τ : Int} (e : tn a b z = τ) : cr a b z = if a.2 ≤ z.2 ∧ z.2 < b.2 ∧ 0 < τ then 1 else if b.2 ≤ z.2 ∧ z.2 < a.2 ∧ τ < 0 then -1 else 0 := by
  subst e; rfl
theorem dd_of {z y q : Pt} {τ : Int} (e : tn z y q = τ) : dd z y q = if z.2 < q.2 ∧ q.2 ≤ y.2 ∧ τ < 0 then 1 else 0 := by
  subst e; rfl
theorem ka_up {u p w : Pt} {τ : Int} (e : tn p u w = τ) (h1 : up p u) (h2 : up p w) : ka u p w = if 0 < τ then 1 else 0 := by
  subst e
  unfold ka
  simp [h1, h2]
theorem ka_dn {u p w : Pt} {τ : Int} (e : tn p u w = τ) (h1 : ¬up p u) (h2 : ¬up p w) : ka u p w = if 0 < τ then 1 else 0 := by
  subst e
  unfold ka
  simp [h1, h2]
theorem ka_ud {u p w : Pt} (h1 : up p u) (h2 : ¬up p w) : ka u p w = 1 := by
  unfold ka
  simp [h1, h2]
theorem ka_du {u p w : Pt} (h1 : ¬up p u) (h2 : up p w) : ka u p w = 0 := by
  unfold ka
  simp [h1, h2]
theorem ph_up {p q : Pt} (h : up p q) : ph p q = 0 := if_pos h
theorem ph_dn {p q : Pt} (h : ¬up p q) : ph p q = 1 := if_neg h
theorem lo_u1 {p q u : Pt} (hpq : p ≠ q) (hpu : p ≠ u) (h : p.2 ≤ q.2) (h1 : ¬On u p q) (h2 : ¬On q p u) : -dd p q u + cr u p q = -ka u p q + ph p q := by
  have g := sgn hpq hpu h1 h2
  have t1 : tn u p q = tn p q u := (tn_cyc u p q).symm
  have t2 : tn p u q = -tn p q u := by rw [tn_swap2]
  rw [cr_of t1]
  unfold dd
  rcases pos4 hpq with c2 | c2 | c2 | c2
  · omega
  · have uq : up p q := .inl c2
    rw [ph_up uq]
    rcases pos4 hpu with c1 | c1 | c1 | c1
    · rw [ka_du (by unfold up; omega) uq, if_neg (by omega), if_neg (by omega), if_neg (by omega)]
    · rw [ka_up t2 (.inl c1) uq]
      rcases Int.lt_trichotomy (tn p q u) 0 with s | s | s
      · rw [if_pos (show 0 < -tn p q u by omega)]
        rcases Int.lt_or_le q.2 u.2 with z | z
        · rw [if_neg (by omega), if_neg (by omega), if_pos (by omega)]; rfl
        · rw [if_pos (by omega), if_neg (by omega), if_neg (by omega)]
      · exact absurd s (g.2.2.2.2.2.2.2.2.1 c2 c1)
      · rw [if_neg (show ¬ 0 < -tn p q u by omega), if_neg (by omega), if_neg (by omega), if_neg (by omega)]
    · have s := g.1 c1.1 c2 c1.2
      rw [ka_up t2 (.inr c1) uq, if_neg (show ¬ 0 < -tn p q u by omega), if_neg (by omega), if_neg (by omega), if_neg (by omega)]
    · rw [ka_du (by unfold up; omega) uq, if_neg (by omega), if_neg (by omega), if_neg (by omega)]
  · have uq : up p q := .inr c2
    rw [ph_up uq]
    rcases pos4 hpu with c1 | c1 | c1 | c1
    · rw [ka_du (by unfold up; omega) uq, if_neg (by omega), if_neg (by omega), if_neg (by omega)]
    · have s := g.2.2.2.2.2.2.1 c2.1 c2.2 c1
      rw [ka_up t2 (.inl c1) uq, if_pos (show 0 < -tn p q u by omega), if_neg (by omega), if_neg (by omega), if_pos (by omega)]; rfl
    · exact absurd ⟨c2.1, c1.1, c2.2, c1.2⟩ g.2.2.2.2.2.2.2.2.2.2.2.2
    · rw [ka_du (by unfold up; omega) uq, if_neg (by omega), if_neg (by omega), if_neg (by omega)]
  · have uq : ¬up p q := by unfold up; omega
    rw [ph_dn uq]
    rcases pos4 hpu with c1 | c1 | c1 | c1
    · have s := g.2.2.2.2.2.1 c2.1 c2.2 c1
      rw [ka_dn t2 (by unfold up; omega) uq, if_pos (show 0 < -tn p q u by omega), if_neg (by omega), if_neg (by omega), if_neg (by omega)]; rfl
    · have s := g.2.2.2.2.1 c2.1 c2.2 c1
      rw [ka_ud (.inl c1) uq, if_neg (by omega), if_neg (by omega), if_neg (by omega)]; rfl
    · rw [ka_ud (.inr c1) uq, if_neg (by omega), if_neg (by omega), if_neg (by omega)]; rfl
    · exact absurd ⟨c2.1, c1.1, c2.2, c1.2⟩ g.2.2.2.2.2.2.2.2.2.2.2.1
theorem lo_r1 {p q r : Pt} (hpq : p ≠ q) (hqr : q ≠ r) (h : p.2 ≤ q.2) (h1 : ¬On r q p) (h2 : ¬On p q r) : dd p q r - cr q r p = ka p q r - ph p q := by
  have g := sgn (p := q) (q := p) (u := r) (Ne.symm hpq) hqr h1 h2
  have t1 : tn p q r = -tn q p r := by rw [tn_swap]
  have t2 : tn q r p = -tn q p r := by rw [tn_swap2]
  rw [cr_of t2, dd_of t1]
  rcases pos4 hpq with c2 | c2 | c2 | c2
  · omega
  · -- q above p
    have up1 : up p q := .inl c2
    have dn : ¬up q p := by unfold up; omega
    rw [ph_up up1]
    rcases pos4 hqr with c1 | c1 | c1 | c1
    · rw [ka_dn rfl dn (by unfold up; omega)]
      rcases Int.lt_trichotomy (tn q p r) 0 with s | s | s
      · rw [if_neg (by omega), if_neg (by omega), if_neg (by omega), if_neg (by omega)]
      · exact absurd s (g.2.2.2.2.2.2.2.2.2.1 c2 c1)
      · rw [if_pos s]
        rcases Int.lt_or_le p.2 r.2 with z | z
        · rw [if_pos (by omega), if_neg (by omega), if_neg (by omega)]
        · rw [if_neg (by omega), if_neg (by omega), if_pos (by omega)]; rfl
    · rw [ka_du dn (.inl c1), if_neg (by omega), if_neg (by omega), if_neg (by omega)]
    · have s := g.2.2.1 c1.1 c2 c1.2
      rw [ka_du dn (.inr c1), if_neg (by omega), if_neg (by omega), if_neg (by omega)]
    · have s := g.2.2.2.1 c1.1 c2 c1.2
      rw [ka_dn rfl dn (by unfold up; omega), if_pos s, if_pos (by omega), if_neg (by omega), if_neg (by omega)]
  · -- q on the left of p
    have up1 : up p q := .inr c2
    have dn : ¬up q p := by unfold up; omega
    rw [ph_up up1]
    rcases pos4 hqr with c1 | c1 | c1 | c1
    · have s := g.2.2.2.2.2.1 c2.1.symm c2.2 c1
      rw [ka_dn rfl dn (by unfold up; omega), if_neg (show ¬ 0 < tn q p r by omega), if_neg (by omega), if_neg (by omega), if_neg (by omega)]
    · have s := g.2.2.2.2.1 c2.1.symm c2.2 c1
      rw [ka_du dn (.inl c1), if_neg (by omega), if_neg (by omega), if_neg (by omega)]
    · rw [ka_du dn (.inr c1), if_neg (by omega), if_neg (by omega), if_neg (by omega)]
    · exact absurd ⟨c2.1.symm, c1.1, c2.2, c1.2⟩ g.2.2.2.2.2.2.2.2.2.2.2.1
  · -- q on the right of p
    have dn1 : ¬up p q := by unfold up; omega
    have u : up q p := .inr ⟨c2.1.symm, c2.2⟩
    rw [ph_dn dn1]
    rcases pos4 hqr with c1 | c1 | c1 | c1
    · rw [ka_ud u (by unfold up; omega), if_neg (by omega), if_neg (by omega), if_neg (by omega)]; rfl
    · have s := g.2.2.2.2.2.2.1 c2.1.symm c2.2 c1
      rw [ka_up rfl u (.inl c1), if_neg (show ¬ 0 < tn q p r by omega), if_neg (by omega), if_pos (by omega)]
    · exact absurd ⟨c2.1.symm, c1.1, c2.2, c1.2⟩ g.2.2.2.2.2.2.2.2.2.2.2.2
    · rw [ka_ud u (by unfold up; omega), if_neg (by omega), if_neg (by omega), if_neg (by omega)]; rfl
theorem lo_u2 {p q u : Pt} (hpq : p ≠ q) (hpu : p ≠ u) (h : q.2 < p.2) (h1 : ¬On u p q) (h2 : ¬On q p u) : dd q p u + cr u p q = -ka u p q + ph p q := by
  have g := sgn hpq hpu h1 h2
  have t0 : tn q p u = -tn p q u := by rw [tn_swap]
  have t1 : tn u p q = tn p q u := (tn_cyc u p q).symm
  have t2 : tn p u q = -tn p q u := by rw [tn_swap2]
  have dq : ¬up p q := by unfold up; omega
  rw [cr_of t1, dd_of t0, ph_dn dq]
  rcases pos4 hpu with c1 | c1 | c1 | c1
  · rw [ka_dn t2 (by unfold up; omega) dq]
    rcases Int.lt_trichotomy (tn p q u) 0 with s | s | s
    · rw [if_pos (show 0 < -tn p q u by omega), if_neg (by omega), if_neg (by omega), if_neg (by omega)]; rfl
    · exact absurd s (g.2.2.2.2.2.2.2.2.2.1 h c1)
    · rw [if_neg (show ¬ 0 < -tn p q u by omega)]
      rcases Int.lt_or_le q.2 u.2 with z | z
      · rw [if_pos (by omega), if_neg (by omega), if_neg (by omega)]; rfl
      · rw [if_neg (by omega), if_pos (by omega)]; rfl
  · rw [ka_ud (.inl c1) dq, if_neg (by omega), if_neg (by omega), if_neg (by omega)]; rfl
  · have s := g.2.2.1 c1.1 h c1.2
    rw [ka_ud (.inr c1) dq, if_neg (by omega), if_neg (by omega), if_neg (by omega)]; rfl
  · have s := g.2.2.2.1 c1.1 h c1.2
    rw [ka_dn t2 (by unfold up; omega) dq, if_neg (show ¬ 0 < -tn p q u by omega), if_pos (by omega), if_neg (by omega), if_neg (by omega)]; rfl
theorem lo_r2 {p q r : Pt} (hpq : p ≠ q) (hqr : q ≠ r) (h : q.2 < p.2) (h1 : ¬On r q p) (h2 : ¬On p q r) : -dd q p r - cr q r p = ka p q r - ph p q := by
  have g := sgn (p := q) (q := p) (u := r) (Ne.symm hpq) hqr h1 h2
  have t2 : tn q r p = -tn q p r := by rw [tn_swap2]
  have dq : ¬up p q := by unfold up; omega
  have u : up q p := .inl h
  rw [cr_of t2, dd_of rfl, ph_dn dq]
  rcases pos4 hqr with c1 | c1 | c1 | c1
  · rw [ka_ud u (by unfold up; omega), if_neg (by omega), if_neg (by omega), if_neg (by omega)]; rfl
  · rw [ka_up rfl u (.inl c1)]
    rcases Int.lt_trichotomy (tn q p r) 0 with s | s | s
    · rw [if_neg (show ¬ 0 < tn q p r by omega)]
      rcases Int.lt_or_le p.2 r.2 with z | z
      · rw [if_neg (by omega), if_pos (by omega)]; rfl
      · rw [if_pos (by omega), if_neg (by omega), if_neg (by omega)]; rfl
    · exact absurd s (g.2.2.2.2.2.2.2.2.1 h c1)
    · rw [if_pos s, if_neg (by omega), if_neg (by omega), if_neg (by omega)]; rfl
  · have s := g.1 c1.1 h c1.2
    rw [ka_up rfl u (.inr c1), if_pos s, if_neg (by omega), if_neg (by omega), if_neg (by omega)]; rfl
  · have s := g.2.1 c1.1 h c1.2
    rw [ka_ud u (by unfold up; omega), if_neg (by omega), if_neg (by omega), if_neg (by omega)]; rfl
/-! ### the number that is the same at each corner -/
def Sk (m : Nat) (q : Nat → Pt) (k : Nat) : Int := sm (fun e => cr (q e) (q (e + 1)) (q k)) (k + 1) (m - 2)
def Kk (m : Nat) (q : Nat → Pt) (k : Nat) : Int := Sk m q k - ka (q (k + m - 1)) (q k) (q (k + 1))
theorem Poly.next {m : Nat} {q : Nat → Pt} (P : Poly m q) (k : Nat) : Kk m q (k + 1) = Kk m q k := by
  have h3 := P.three
  have ep : q (k + m) = q k := P.per k
  have e1 : Sk m q k = cr (q (k + 1)) (q (k + 2)) (q k) + sm (fun e => cr (q e) (q (e + 1)) (q k)) (k + 2) (m - 3) := by
    unfold Sk
    rw [show m - 2 = (m - 3) + 1 by omega, sm_head]
  have e2 : Sk m q (k + 1) = sm (fun e => cr (q e) (q (e + 1)) (q (k + 1))) (k + 2) (m - 3) + cr (q (k + m - 1)) (q k) (q (k + 1)) := by
    unfold Sk
    rw [show m - 2 = (m - 3) + 1 by omega]
    show sm _ (k + 2) (m - 3) + cr (q (k + 2 + (m - 3))) (q (k + 2 + (m - 3) + 1)) (q (k + 1)) = _
    rw [show k + 2 + (m - 3) = k + m - 1 by omega, show k + m - 1 + 1 = k + m by omega, ep]
  have off1 : ¬On (q (k + m - 1)) (q k) (q (k + 1)) := by
    have := P.off k (m - 1) (by omega) (by omega)
    rw [show k + (m - 1) = k + m - 1 by omega] at this
    exact this
  have off2 : ¬On (q (k + 1)) (q k) (q (k + m - 1)) := fun z => by
    have := P.off (k + m - 1) 2 (by omega) (by omega)
    rw [show k + m - 1 + 2 = k + 1 + m by omega, show k + m - 1 + 1 = k + m by omega, P.per, ep] at this
    exact this z.swap
  have off3 : ¬On (q (k + 2)) (q (k + 1)) (q k) := fun z => P.off k 2 (by omega) (by omega) z.swap
  have off4 : ¬On (q k) (q (k + 1)) (q (k + 2)) := by
    have := P.off (k + 1) (m - 1) (by omega) (by omega)
    rw [show k + 1 + (m - 1) = k + m by omega, ep] at this
    exact this
  have n1 : q k ≠ q (k + 1) := P.one k
  have n2 : q (k + 1) ≠ q (k + 2) := P.one (k + 1)
  have n3 : q k ≠ q (k + m - 1) := fun z => by
    have := P.one (k + m - 1)
    rw [show k + m - 1 + 1 = k + m by omega, ep] at this
    exact this z.symm
  have fr : ∀ t, t < m - 3 → Free4 (q (k + 2 + t)) (q (k + 2 + t + 1)) (q k) (q (k + 1)) := fun t ht => by
    have := P.far k (2 + t) (by omega) (by omega)
    rw [show k + (2 + t) = k + 2 + t by omega] at this
    exact this
  unfold Kk
  rw [show k + 1 + m - 1 = k + m by omega, ep, show k + 1 + 1 = k + 2 by omega]
  rcases Int.lt_or_le (q (k + 1)).2 (q k).2 with h | h
  · have tele := sm_tele (f := fun e => cr (q e) (q (e + 1)) (q k)) (g := fun e => cr (q e) (q (e + 1)) (q (k + 1))) (D := fun e => dd (q (k + 1)) (q k) (q e)) (k + 2) (m - 3) fun t ht => by
      obtain ⟨f1, f2, f3, f4, f5⟩ := fr t ht
      refine move (by omega) ⟨f2, f1, fun z => f3 z.swap, fun z => f4 z.swap, fun z => f5 z.flip.swap.flip⟩
    rw [show k + 2 + (m - 3) = k + m - 1 by omega] at tele
    have u := lo_u2 n1 n3 h off1 off2
    have r := lo_r2 n1 n2 h off3 off4
    omega
  · have tele := sm_tele (f := fun e => cr (q e) (q (e + 1)) (q (k + 1))) (g := fun e => cr (q e) (q (e + 1)) (q k)) (D := fun e => dd (q k) (q (k + 1)) (q e)) (k + 2) (m - 3) fun t ht => move h (fr t ht)
    rw [show k + 2 + (m - 3) = k + m - 1 by omega] at tele
    have u := lo_u1 n1 n3 h off1 off2
    have r := lo_r1 n1 n2 h off3 off4
    omega
theorem Poly.same {m : Nat} {q : Nat → Pt} (P : Poly m q) (k : Nat) : ∀ t, Kk m q (k + t) = Kk m q k
  | 0 => rfl
  | t + 1 => by
    rw [← Nat.add_assoc, P.next, P.same k t]
theorem Poly.all {m : Nat} {q : Nat → Pt} (P : Poly m q) (j k : Nat) : Kk m q j = Kk m q k := by
  have h1 := P.same 0 j
  have h2 := P.same 0 k
  rw [Nat.zero_add] at h1 h2
  omega
end Fg

set_option Elab.async false
set_option linter.all false
namespace Fg
/-! ### triangles by three numbers: A = tn v w, B = tn u v, H = tn w u -/
theorem bary (u v w y : Pt) : tn v w y + tn u v y + tn w u y = tn u v w := by unfold tn; grind
theorem bU (u v w g h : Pt) : tn u v w * tn g h u = tn w u g * tn u v h - tn u v g * tn w u h := by unfold tn; grind
theorem bW (u v w g h : Pt) : tn u v w * tn g h w = tn v w g * tn w u h - tn w u g * tn v w h := by unfold tn; grind
theorem bV (u v w g h : Pt) : tn u v w * tn g h v = tn u v g * tn v w h - tn v w g * tn u v h := by unfold tn; grind
/-- a point on two lines lies between -/
theorem onL {s t g h z : Pt} (e : tn g h z = 0) (fz : tn s t z = 0) (h1 : tn s t g < 0) (h2 : 0 < tn s t h) : On z g h := by
  have i1 : (tn s t h - tn s t g) * (z.1 - g.1) = (tn s t z - tn s t g) * (h.1 - g.1) - tn g h z * (t.1 - s.1) := by unfold tn; grind
  have i2 : (tn s t h - tn s t g) * (z.2 - g.2) = (tn s t z - tn s t g) * (h.2 - g.2) - tn g h z * (t.2 - s.2) := by unfold tn; grind
  rw [e, fz, Int.zero_mul, Int.sub_zero] at i1 i2
  have q1 := btwX (p := tn s t h - tn s t g) (q := h.1 - g.1) (s := 0 - tn s t g) (t := z.1 - g.1) (by omega) (by omega) (by omega) (by rw [i1, Int.mul_comm])
  have q2 := btwX (p := tn s t h - tn s t g) (q := h.2 - g.2) (s := 0 - tn s t g) (t := z.2 - g.2) (by omega) (by omega) (by omega) (by rw [i2, Int.mul_comm])
  refine ⟨e, ?_, ?_, ?_, ?_⟩ <;> omega
def inT (u v w z : Pt) : Prop := 0 ≤ tn u v z ∧ 0 ≤ tn v w z ∧ 0 ≤ tn w u z
theorem inT_cyc {u v w z : Pt} (h : inT u v w z) : inT v w u z := ⟨h.2.1, h.2.2, h.1⟩
/-- a side that comes in over uw, from outside, goes over uv or vw, or through v -/
theorem cutx {u v w g h : Pt} (D : 0 < tn u v w) (Hg : 0 < tn w u g) (Hh : tn w u h < 0) (Z : tn g h u * tn g h w < 0) (out : ¬inT u v w g) : Cross g h u v ∨ Cross g h v w ∨ On v g h := by
  have hU := bU u v w g h
  have hW := bW u v w g h
  have hV := bV u v w g h
  have sg := bary u v w g
  have sh := bary u v w h
  have tz : tn u v v = 0 := tn_self3 u v
  have tz2 : tn v w v = 0 := tn_self2 v w
  unfold inT at out
  have hon1 : tn g h v = 0 → tn u v g < 0 → 0 < tn u v h → On v g h := fun e a b => onL e tz a b
  have hon2 : tn g h v = 0 → tn v w g < 0 → 0 < tn v w h → On v g h := fun e a b => onL e tz2 a b
  unfold Cross
  generalize tn u v w = d at *
  generalize tn v w g = gA at *
  generalize tn u v g = gB at *
  generalize tn w u g = gH at *
  generalize tn v w h = hA at *
  generalize tn u v h = hB at *
  generalize tn w u h = hH at *
  generalize tn g h u = fu at *
  generalize tn g h v = fv at *
  generalize tn g h w = fw at *
  -- fu > 0 > fw
  have zs : fu - fw = gH - hH := by
    have : d * (fu - fw - (gH - hH)) = 0 := by grind
    have := dZ D this
    omega
  have fuP : 0 < fu := by
    rcases Int.lt_trichotomy fu 0 with k | k | k
    · have := negN k Z
      omega
    · subst k; simp at Z
    · exact k
  have fwN : fw < 0 := dN fuP Z
  have zA : 0 < gH * hA - gA * hH := by have := sPN D fwN; omega
  have zB : 0 < gH * hB - gB * hH := by have := sPP D fuP; omega
  have key1 : gB < 0 → 0 < hB := fun k => by
    have k1 := sNN k Hh
    exact dP Hg (by omega)
  have key2 : gA < 0 → 0 < hA := fun k => by
    have k1 := sNN k Hh
    exact dP Hg (by omega)
  by_cases cB : gB < 0
  · have cB' := key1 cB
    by_cases cA : gA < 0
    · have cA' := key2 cA
      rcases Int.lt_trichotomy fv 0 with s | s | s
      · exact .inl ⟨sPN fuP s, sNP cB cB'⟩
      · exact .inr (.inr (hon1 s cB cB'))
      · exact .inr (.inl ⟨sPN s fwN, sNP cA cA'⟩)
    · -- fv ≤ 0
      have k : 0 ≤ gA * hB - gB * hA := by
        rcases Int.lt_or_le hA 0 with m | m
        · have e1 : 0 < hB * (gH * hA - gA * hH) := sPP cB' zA
          have e2 : 0 < (-hA) * (gH * hB - gB * hH) := sPP (by omega) zB
          have e3 : 0 < (-hH) * (gA * hB - gB * hA) := by grind
          have := dP (by omega) e3
          omega
        · have e1 : 0 ≤ gA * hB := wPP (by omega) (by omega)
          have e2 : gB * hA ≤ 0 := wNP (by omega) m
          omega
      have fv0 : fv ≤ 0 := dNw D (by omega)
      rcases Int.lt_or_eq_of_le fv0 with s | s
      · exact .inl ⟨sPN fuP s, sNP cB cB'⟩
      · exact .inr (.inr (hon1 s cB cB'))
  · have cA : gA < 0 := by omega
    have cA' := key2 cA
    have k : gA * hB - gB * hA ≤ 0 := by
      rcases Int.lt_or_le hB 0 with m | m
      · have e1 : 0 < hA * (gH * hB - gB * hH) := sPP cA' zB
        have e2 : 0 < (-hB) * (gH * hA - gA * hH) := sPP (by omega) zA
        have e3 : 0 < (-hH) * (gB * hA - gA * hB) := by grind
        have := dP (by omega) e3
        omega
      · have e1 : gA * hB ≤ 0 := wNP (by omega) m
        have e2 : 0 ≤ gB * hA := wPP (by omega) (by omega)
        omega
    have fv0 : 0 ≤ fv := dPw D (by omega)
    rcases Int.lt_or_eq_of_le fv0 with s | s
    · exact .inr (.inl ⟨sPN s fwN, sNP cA cA'⟩)
    · exact .inr (.inr (hon2 s.symm cA cA'))
/-! ### the chord to the corner nearest to v -/
theorem algH {D xA xB gA gB hA hB : Int} (hD : 0 < D) (h1 : 0 < xA) (h2 : 0 < xB) (h3 : xA + xB ≤ D) (Wg : 0 < gA * xB - gB * xA) (Wh : 0 < hB * xA - hA * xB) (hC : 0 < gA * hB - gB * hA)
    (hX : gA * hB - gB * hA < (gA * xB - gB * xA) + (hB * xA - hA * xB)) (hab : gA - hA ≤ hB - gB) :
    (0 < gA ∧ 0 ≤ gB ∧ gA + gB < xA + xB) ∨ (gB < 0 ∧ 0 < hB ∧ gA * hB - gB * hA < (hB - gB) * D) := by
  have s0 : 0 < xA + xB := by omega
  have e1 : (xA + xB) * (gA * hB - gB * hA) = (gA + gB) * ((gA * xB - gB * xA) + (hB * xA - hA * xB)) + (gA * xB - gB * xA) * ((hB - gB) - (gA - hA)) := by grind
  have e2 : 0 ≤ (gA * xB - gB * xA) * ((hB - gB) - (gA - hA)) := wPP (by omega) (by omega)
  have e3 : (hB - gB) * (xA + xB) = (gA * xB - gB * xA) + (hB * xA - hA * xB) + xB * ((hB - gB) - (gA - hA)) := by grind
  have e4 : 0 ≤ xB * ((hB - gB) - (gA - hA)) := wPP (by omega) (by omega)
  have e5 : 0 < (xA + xB) * (hB - gB) := by rw [Int.mul_comm]; omega
  have a0 : 0 < hB - gB := dP s0 e5
  have e6 : 0 ≤ (hB - gB) * (D - (xA + xB)) := wPP (by omega) (by omega)
  have e7 : (hB - gB) * (D - (xA + xB)) = (hB - gB) * D - (hB - gB) * (xA + xB) := by grind
  by_cases c : gB < 0
  · refine .inr ⟨c, ?_, by omega⟩
    refine Int.not_le.mp fun hb => ?_
    -- both beyond: impossible
    have k1 : hA < 0 := by
      refine Int.not_le.mp fun ha => ?_
      have := wPP ha (show 0 ≤ xB by omega)
      have := wNP hb (show 0 ≤ xA by omega)
      omega
    have k2 := sNN c k1
    by_cases ga : 0 ≤ gA
    · have := wPN ga hb
      omega
    · have m1 : 0 < (-gB) * xA - (-gA) * xB := by grind
      have m2 : 0 < (-hA) * xB - (-hB) * xA := by grind
      have m3 : 0 < ((-gB) * xA - (-gA) * xB) * ((-hA) * xB) := sPP m1 (sPP (by omega) h2)
      have m4 : 0 ≤ ((-gA) * xB) * ((-hA) * xB - (-hB) * xA) := wPP (wPP (by omega) (by omega)) (by omega)
      have m5 : 0 < (xA * xB) * (gB * hA - gA * hB) := by grind
      have := dP (sPP h1 h2) m5
      omega
  · have gA0 : 0 < gA := by
      have w1 : 0 ≤ gB * xA := wPP (by omega) (by omega)
      have w2 : 0 < xB * gA := by rw [Int.mul_comm]; omega
      exact dP h2 w2
    refine .inl ⟨gA0, by omega, ?_⟩
    refine Int.not_le.mp fun hs => ?_
    have k1 : 0 < (gA + gB) * (((gA * xB - gB * xA) + (hB * xA - hA * xB)) - (gA * hB - gB * hA)) := sPP (by omega) (by omega)
    have k2 : 0 ≤ ((gA + gB) - (xA + xB)) * (gA * hB - gB * hA) := wPP (by omega) (by omega)
    have k3 : (xA + xB) * (gA * hB - gB * hA) < (xA + xB) * (gA * hB - gB * hA) := by grind
    omega
theorem bX (u v w g h x : Pt) : tn u v w * tn v x g = tn u v x * tn v w g - tn v w x * tn u v g := by unfold tn; grind
theorem bF (u v w g h x : Pt) : tn u v w * tn g h x = ((tn v w g * tn u v x - tn u v g * tn v w x) + (tn u v h * tn v w x - tn v w h * tn u v x)) - (tn v w g * tn u v h - tn u v g * tn v w h) := by unfold tn; grind
/-- a side over the way from v to x: it goes over uv or vw, or has an end nearer to v -/
theorem chordx {u v w x g h : Pt} (D : 0 < tn u v w) (xA : 0 < tn v w x) (xB : 0 < tn u v x) (xH : 0 ≤ tn w u x) (c : Cross g h v x) (sg : 0 < tn v x g) :
    Cross g h u v ∨ Cross g h v w ∨ (inT u v w g ∧ g ≠ v ∧ tn w u x < tn w u g) ∨ (inT u v w h ∧ h ≠ v ∧ tn w u x < tn w u h) := by
  obtain ⟨c1, c2⟩ := c
  have sh : tn v x h < 0 := dN sg c2
  have hV := bV u v w g h
  have hU := bU u v w g h
  have hW := bW u v w g h
  have hXg := bX u v w g h x
  have hXh := bX u v w h g x
  have hF := bF u v w g h x
  have bx := bary u v w x
  have bg := bary u v w g
  have bh := bary u v w h
  have gv : 0 < tn v w g → g ≠ v := fun k e => by rw [e, tn_self2] at k; omega
  have hv : 0 < tn u v h → h ≠ v := fun k e => by rw [e, tn_self3] at k; omega
  unfold Cross inT
  generalize tn u v w = d at *
  generalize tn v w g = gA at *
  generalize tn u v g = gB at *
  generalize tn w u g = gH at *
  generalize tn v w h = hA at *
  generalize tn u v h = hB at *
  generalize tn w u h = hH at *
  generalize tn g h u = fu at *
  generalize tn g h v = fv at *
  generalize tn g h w = fw at *
  generalize tn g h x = fx at *
  generalize tn v x g = kg at *
  generalize tn v x h = kh at *
  generalize tn v w x = pA at *
  generalize tn u v x = pB at *
  generalize tn w u x = pH at *
  have Wg : 0 < gA * pB - gB * pA := by
    have := sPP D sg
    have e : gA * pB - gB * pA = d * kg := by grind
    omega
  have Wh : 0 < hB * pA - hA * pB := by
    have := sPN D sh
    have e : hB * pA - hA * pB = -(d * kh) := by grind
    omega
  have fxs : d * fv < d * fx := by omega
  have fxv : fv < fx := by
    have : 0 < d * (fx - fv) := by grind
    have := dP D this
    omega
  have fvN : fv < 0 := by
    rcases Int.lt_trichotomy fv 0 with k | k | k
    · exact k
    · subst k; simp at c1
    · have := sPP k (show 0 < fx by omega)
      omega
  have fxP : 0 < fx := negN fvN c1
  have hC : 0 < gA * hB - gB * hA := by have := sPN D fvN; omega
  have hXX : gA * hB - gB * hA < (gA * pB - gB * pA) + (hB * pA - hA * pB) := by have := sPP D fxP; omega
  rcases Int.le_total (gA - hA) (hB - gB) with hab | hab
  · rcases algH D xA xB (by omega) Wg Wh hC hXX hab with ⟨q1, q2, q3⟩ | ⟨q1, q2, q3⟩
    · exact .inr (.inr (.inl ⟨⟨q2, by omega, by omega⟩, gv q1, by omega⟩))
    · have fuP : 0 < fu := by
        have e : d * fu = (hB - gB) * d - (gA * hB - gB * hA) := by
          rw [hU, show gH = d - gA - gB by omega, show hH = d - hA - hB by omega]; grind
        exact dP D (by omega)
      exact .inl ⟨sPN fuP fvN, sNP q1 q2⟩
  · have q := algH (xA := pB) (xB := pA) (gA := hB) (gB := hA) (hA := gB) (hB := gA) D xB xA (by omega) (by omega) (by omega) (by grind) (by grind) (by omega)
    rcases q with ⟨q1, q2, q3⟩ | ⟨q1, q2, q3⟩
    · exact .inr (.inr (.inr ⟨⟨by omega, q2, by omega⟩, hv q1, by omega⟩))
    · have fwP : 0 < fw := by
        have e : d * fw = (gA - hA) * d - (gA * hB - gB * hA) := by
          rw [hW, show gH = d - gA - gB by omega, show hH = d - hA - hB by omega]; grind
        have q3' : gA * hB - gB * hA < (gA - hA) * d := by grind
        exact dP D (by omega)
      refine .inr (.inl ⟨sNP fvN fwP, ?_⟩)
      rw [Int.mul_comm]
      exact sNP q1 q2
/-! ### behind w -/
theorem behind {u v w r : Pt} (D : 0 < tn u v w) (out : ¬inT u v w r) (nc : ¬Cross w r u v) (n1 : ¬On u w r) (n2 : ¬On v w r) : ¬(0 ≤ tn w u r ∧ 0 ≤ tn v w r) := by
  rintro ⟨h1, h2⟩
  have rB : tn u v r < 0 := by
    unfold inT at out
    omega
  have t1 : tn w r u = -tn w u r := by rw [tn_swap2]
  have t2 : tn w r v = tn v w r := tn_cyc v w r
  have z1 : tn u v u = 0 := tn_self2 u v
  have z2 : tn u v v = 0 := tn_self3 u v
  rcases Int.lt_or_eq_of_le h1 with k1 | k1
  · rcases Int.lt_or_eq_of_le h2 with k2 | k2
    · refine nc ⟨?_, sPN D rB⟩
      rw [t1, t2]
      exact sNP (by omega) k2
    · refine n2 (On.swap (onL (s := u) (t := v) ?_ z2 rB D))
      rw [tn_swap, t2, ← k2]
      rfl
  · refine n1 (On.swap (onL (s := u) (t := v) ?_ z1 rB D))
    rw [tn_swap, t1, ← k1]
    rfl
end Fg

set_option Elab.async false
set_option linter.all false
namespace Fg
/-! ### directions -/
def LP (Y X : Int) : Prop := 0 < Y ∨ (Y = 0 ∧ 0 < X)
theorem lp_mul {s Y X : Int} (h : 0 < s) (k : LP Y X) : LP (s * Y) (s * X) := by
  rcases k with k | ⟨k1, k2⟩
  · exact .inl (sPP h k)
  · exact .inr ⟨by rw [k1, Int.mul_zero], sPP h k2⟩
theorem lp_neg {s Y X : Int} (h : s < 0) (k : LP (-Y) (-X)) : LP (s * Y) (s * X) := by
  rcases k with k | ⟨k1, k2⟩
  · exact .inl (sNN h (by omega))
  · exact .inr ⟨by rw [show Y = 0 by omega, Int.mul_zero], sNN h (by omega)⟩
theorem lp_add {a b c d : Int} (h : LP a b) (k : LP c d) : LP (a + c) (b + d) := by unfold LP at *; omega
theorem lp_div {D Y X : Int} (h : 0 < D) (k : LP (D * Y) (D * X)) : LP Y X := by
  rcases k with k | ⟨k1, k2⟩
  · exact .inl (dP h k)
  · exact .inr ⟨dZ h k1, dP h k2⟩
theorem up_lp {w q : Pt} : up w q ↔ LP (q.2 - w.2) (w.1 - q.1) := by unfold up LP; omega
theorem dn_lp {w q : Pt} (h : w ≠ q) : ¬up w q ↔ LP (-(q.2 - w.2)) (-(w.1 - q.1)) := by
  have := ne_pt h
  unfold up LP
  omega
theorem combo (u v w r : Pt) : tn u v w * (r.2 - w.2) = tn v w r * (u.2 - w.2) + tn w u r * (v.2 - w.2) ∧ tn u v w * (w.1 - r.1) = tn v w r * (w.1 - u.1) + tn w u r * (w.1 - v.1) := by
  constructor
  · unfold tn; grind
  · unfold tn; grind
theorem dn_of {w q : Pt} (k : LP (-(q.2 - w.2)) (-(w.1 - q.1))) : ¬up w q := by
  unfold up LP at *
  omega
/-- what of r is told by the two numbers -/
theorem comb_up {u v w r : Pt} (D : 0 < tn u v w) (h1 : (0 < tn v w r ∧ up w u) ∨ (tn v w r < 0 ∧ ¬up w u) ∨ tn v w r = 0) (h2 : (0 < tn w u r ∧ up w v) ∨ (tn w u r < 0 ∧ ¬up w v) ∨ tn w u r = 0) (h3 : ¬(tn v w r = 0 ∧ tn w u r = 0)) (nu : w ≠ u) (nv : w ≠ v) : up w r := by
  obtain ⟨e1, e2⟩ := combo u v w r
  rw [up_lp]
  refine lp_div D ?_
  rw [e1, e2]
  have k1 : LP (tn v w r * (u.2 - w.2)) (tn v w r * (w.1 - u.1)) ∨ (tn v w r = 0) := by
    rcases h1 with ⟨a, b⟩ | ⟨a, b⟩ | a
    · exact .inl (lp_mul a (up_lp.mp b))
    · exact .inl (lp_neg a ((dn_lp nu).mp b))
    · exact .inr a
  have k2 : LP (tn w u r * (v.2 - w.2)) (tn w u r * (w.1 - v.1)) ∨ (tn w u r = 0) := by
    rcases h2 with ⟨a, b⟩ | ⟨a, b⟩ | a
    · exact .inl (lp_mul a (up_lp.mp b))
    · exact .inl (lp_neg a ((dn_lp nv).mp b))
    · exact .inr a
  rcases k1 with k1 | k1
  · rcases k2 with k2 | k2
    · exact lp_add k1 k2
    · rw [k2, Int.zero_mul, Int.zero_mul, Int.add_zero, Int.add_zero]
      exact k1
  · rcases k2 with k2 | k2
    · rw [k1, Int.zero_mul, Int.zero_mul, Int.zero_add, Int.zero_add]
      exact k2
    · exact absurd ⟨k1, k2⟩ h3
theorem comb_dn {u v w r : Pt} (D : 0 < tn u v w) (h1 : (0 < tn v w r ∧ ¬up w u) ∨ (tn v w r < 0 ∧ up w u) ∨ tn v w r = 0) (h2 : (0 < tn w u r ∧ ¬up w v) ∨ (tn w u r < 0 ∧ up w v) ∨ tn w u r = 0) (h3 : ¬(tn v w r = 0 ∧ tn w u r = 0)) (nu : w ≠ u) (nv : w ≠ v) : ¬up w r := by
  obtain ⟨e1, e2⟩ := combo u v w r
  refine dn_of (lp_div D ?_)
  have m : ∀ x : Int, tn u v w * (-x) = -(tn u v w * x) := fun x => Int.mul_neg _ _
  rw [m, m, e1, e2]
  have pos : ∀ {s Y X : Int}, 0 < s → LP (-Y) (-X) → LP (-(s * Y)) (-(s * X)) := fun {s Y X} a b => by
    have := lp_mul a b
    rw [Int.mul_neg, Int.mul_neg] at this
    exact this
  have neg : ∀ {s Y X : Int}, s < 0 → LP Y X → LP (-(s * Y)) (-(s * X)) := fun {s Y X} a b => by
    have := lp_mul (s := -s) (by omega) b
    rw [Int.neg_mul, Int.neg_mul] at this
    exact this
  have k1 : LP (-(tn v w r * (u.2 - w.2))) (-(tn v w r * (w.1 - u.1))) ∨ (tn v w r = 0) := by
    rcases h1 with ⟨a, b⟩ | ⟨a, b⟩ | a
    · exact .inl (pos a ((dn_lp nu).mp b))
    · exact .inl (neg a (up_lp.mp b))
    · exact .inr a
  have k2 : LP (-(tn w u r * (v.2 - w.2))) (-(tn w u r * (w.1 - v.1))) ∨ (tn w u r = 0) := by
    rcases h2 with ⟨a, b⟩ | ⟨a, b⟩ | a
    · exact .inl (pos a ((dn_lp nv).mp b))
    · exact .inl (neg a (up_lp.mp b))
    · exact .inr a
  rw [Int.neg_add, Int.neg_add]
  rcases k1 with k1 | k1
  · rcases k2 with k2 | k2
    · exact lp_add k1 k2
    · rw [k2, Int.zero_mul, Int.zero_mul, Int.neg_zero, Int.add_zero, Int.add_zero]
      exact k1
  · rcases k2 with k2 | k2
    · rw [k1, Int.zero_mul, Int.zero_mul, Int.neg_zero, Int.zero_add, Int.zero_add]
      exact k2
    · exact absurd ⟨k1, k2⟩ h3
theorem cr_ud {u v w : Pt} (D : 0 < tn u v w) : cr u v w = if ¬up w u ∧ up w v then 1 else 0 := by
  have t1 : tn w u v = tn u v w := (tn_cyc w u v).symm
  have t2 : tn w v u = -tn u v w := by rw [tn_swap2, t1]
  unfold cr
  rw [if_neg (show ¬ (v.2 ≤ w.2 ∧ w.2 < u.2 ∧ tn u v w < 0) by omega)]
  by_cases c : u.2 ≤ w.2 ∧ w.2 < v.2 ∧ 0 < tn u v w
  · rw [if_pos c, if_pos]
    refine ⟨fun k => ?_, .inl c.2.1⟩
    unfold up at k
    have k2 : u.2 = w.2 ∧ u.1 < w.1 := by omega
    have e := level (a := w) (b := v) (z := u) k2.1
    have := sPP (x := v.2 - w.2) (y := w.1 - u.1) (by omega) (by omega)
    omega
  · rw [if_neg c, if_neg]
    rintro ⟨k1, k2⟩
    unfold up at k1 k2
    by_cases e : w.2 < v.2
    · exact c ⟨by omega, e, D⟩
    · have e2 : v.2 = w.2 ∧ v.1 < w.1 := by omega
      have e3 := level (a := w) (b := u) (z := v) e2.1
      have := wNP (x := u.2 - w.2) (y := w.1 - v.1) (by omega) (by omega)
      omega
/-- a corner v taken out between u and w -/
theorem ka_cut {u v w r : Pt} (D : 0 < tn u v w) (N : ¬(0 ≤ tn w u r ∧ 0 ≤ tn v w r)) (nu : w ≠ u) (nv : w ≠ v) : ka v w r - ka u w r = cr u v w := by
  rw [cr_ud D]
  have t : tn w v r = -tn v w r := by rw [tn_swap]
  by_cases cu : up w u
  · by_cases cv : up w v
    · rw [if_neg (fun k => k.1 cu)]
      by_cases c : up w r
      · rw [ka_up t cv c, ka_up rfl cu c]
        by_cases a : tn v w r < 0
        · have h : 0 < tn w u r := by
            refine Int.not_le.mp fun h => ?_
            refine comb_dn D (.inr (.inl ⟨a, cu⟩)) ?_ (by omega) nu nv c
            rcases Int.lt_or_eq_of_le h with k | k
            · exact .inr (.inl ⟨k, cv⟩)
            · exact .inr (.inr k)
          rw [if_pos (by omega), if_pos h]; rfl
        · rw [if_neg (by omega), if_neg (by omega)]; rfl
      · rw [ka_ud cv c, ka_ud cu c]; rfl
    · rw [if_neg (fun k => k.1 cu)]
      by_cases c : up w r
      · rw [ka_du cv c, ka_up rfl cu c]
        have h : ¬ 0 < tn w u r := fun h => comb_dn D (.inr (.inl ⟨by omega, cu⟩)) (.inl ⟨h, cv⟩) (by omega) nu nv c
        rw [if_neg h]; rfl
      · rw [ka_dn t cv c, ka_ud cu c]
        have a : tn v w r < 0 := by
          refine Int.not_le.mp fun a => ?_
          refine c (comb_up D ?_ (.inr (.inl ⟨by omega, cv⟩)) (by omega) nu nv)
          rcases Int.lt_or_eq_of_le a with k | k
          · exact .inl ⟨k, cu⟩
          · exact .inr (.inr k.symm)
        rw [if_pos (by omega)]; rfl
  · by_cases cv : up w v
    · rw [if_pos ⟨cu, cv⟩]
      by_cases c : up w r
      · rw [ka_up t cv c, ka_du cu c]
        have a : tn v w r < 0 := by
          refine Int.not_le.mp fun a => ?_
          refine comb_dn D ?_ (.inr (.inl ⟨by omega, cv⟩)) (by omega) nu nv c
          rcases Int.lt_or_eq_of_le a with k | k
          · exact .inl ⟨k, cu⟩
          · exact .inr (.inr k.symm)
        rw [if_pos (by omega)]; rfl
      · rw [ka_ud cv c, ka_dn rfl cu c]
        have h : ¬ 0 < tn w u r := fun h => c (comb_up D (.inr (.inl ⟨by omega, cu⟩)) (.inl ⟨h, cv⟩) (by omega) nu nv)
        rw [if_neg h]; rfl
    · rw [if_neg (fun k => cv k.2)]
      by_cases c : up w r
      · rw [ka_du cv c, ka_du cu c]; rfl
      · rw [ka_dn t cv c, ka_dn rfl cu c]
        by_cases a : tn v w r < 0
        · have h : 0 < tn w u r := by
            refine Int.not_le.mp fun h => ?_
            refine c (comb_up D (.inr (.inl ⟨a, cu⟩)) ?_ (by omega) nu nv)
            rcases Int.lt_or_eq_of_le h with k | k
            · exact .inr (.inl ⟨k, cv⟩)
            · exact .inr (.inr k)
          rw [if_pos (by omega), if_pos h]; rfl
        · rw [if_neg (by omega), if_neg (by omega)]; rfl
/-! ### from the lowest corner -/
theorem cr_low {a b v : Pt} (ha : up v a) (hb : up v b) : cr a b v = 0 := by
  unfold cr
  have h1 : ¬ (a.2 ≤ v.2 ∧ v.2 < b.2 ∧ 0 < tn a b v) := by
    rintro ⟨k1, k2, k3⟩
    unfold up at ha
    have e : v.2 = a.2 ∧ a.1 < v.1 := by omega
    rw [level e.1] at k3
    have := sPN (x := b.2 - a.2) (y := a.1 - v.1) (by omega) (by omega)
    omega
  have h2 : ¬ (b.2 ≤ v.2 ∧ v.2 < a.2 ∧ tn a b v < 0) := by
    rintro ⟨k1, k2, k3⟩
    unfold up at hb
    have e : v.2 = b.2 ∧ b.1 < v.1 := by omega
    have t : tn a b v = -tn b a v := by rw [tn_swap]
    rw [t, level e.1] at k3
    have := sPN (x := a.2 - b.2) (y := b.1 - v.1) (by omega) (by omega)
    omega
  rw [if_neg h1, if_neg h2]
theorem cr_self1 (v w : Pt) : cr v w v = 0 := by
  unfold cr
  rw [tn_self2, if_neg (by omega), if_neg (by omega)]
theorem cr_self2 (u v : Pt) : cr u v v = 0 := by
  unfold cr
  rw [tn_self3, if_neg (by omega), if_neg (by omega)]
theorem lw {v w o : Pt} (hw : up v w) (ho : up v o) : cr v w o + dd v o w = if 0 < tn v w o then 1 else 0 := by
  have t : tn v o w = -tn v w o := by rw [tn_swap2]
  rw [dd_of t]
  unfold cr up at *
  by_cases s : 0 < tn v w o
  · have hw2 : v.2 < w.2 := by
      refine Int.not_le.mp fun k => ?_
      have e : w.2 = v.2 ∧ w.1 < v.1 := by omega
      have := (lev_q (p := v) (q := w) (u := o) e.1)
      by_cases z : v.2 < o.2
      · have := this.2.2.1 e.2 z; omega
      · have := this.2.2.2.2 (by omega); omega
    by_cases z : o.2 < w.2
    · rw [if_pos (by omega), if_neg (by omega), if_pos s]; rfl
    · rw [if_neg (by omega), if_neg (by omega), if_pos (by omega), if_pos s]; rfl
  · rw [if_neg (by omega), if_neg (by omega), if_neg (by omega), if_neg s]; rfl
/-! ### how often a closed way goes round a point -/
def Wd (m : Nat) (q : Nat → Pt) (z : Pt) : Int := sm (fun e => cr (q e) (q (e + 1)) z) 0 m
theorem sm_rot {f : Nat → Int} {m : Nat} (h : ∀ k, f (k + m) = f k) (hm : 0 < m) : ∀ k, sm f k m = sm f 0 m
  | 0 => rfl
  | k + 1 => by
    rw [← sm_rot h hm k]
    obtain ⟨c, rfl⟩ : ∃ c, m = c + 1 := ⟨m - 1, by omega⟩
    rw [sm_head f k c]
    show sm f (k + 1) c + f (k + 1 + c) = _
    have := h k
    rw [show k + 1 + c = k + (c + 1) by omega, this]
    omega
theorem Poly.wrot {m : Nat} {q : Nat → Pt} (P : Poly m q) (z : Pt) (k : Nat) : sm (fun e => cr (q e) (q (e + 1)) z) k m = Wd m q z :=
  sm_rot (fun j => by show cr (q (j + m)) (q (j + m + 1)) z = _; rw [P.per, show j + m + 1 = j + 1 + m by omega, P.per]) (by have := P.three; omega) k
theorem Poly.wmove {m : Nat} {q : Nat → Pt} (P : Poly m q) {z y : Pt} (h : ∀ e, Free4 (q e) (q (e + 1)) z y) : Wd m q y = Wd m q z := by
  have e0 : q (0 + m) = q 0 := P.per 0
  rcases Int.le_total z.2 y.2 with c | c
  · have tele := sm_tele (f := fun e => cr (q e) (q (e + 1)) y) (g := fun e => cr (q e) (q (e + 1)) z) (D := fun e => dd z y (q e)) 0 m fun t _ => move c (h _)
    rw [e0] at tele
    unfold Wd
    omega
  · have tele := sm_tele (f := fun e => cr (q e) (q (e + 1)) z) (g := fun e => cr (q e) (q (e + 1)) y) (D := fun e => dd y z (q e)) 0 m fun t _ => by
      obtain ⟨f1, f2, f3, f4, f5⟩ := h (0 + t)
      exact move c ⟨f2, f1, fun z => f3 z.swap, fun z => f4 z.swap, fun z => f5 z.flip.swap.flip⟩
    rw [e0] at tele
    unfold Wd
    omega
theorem sm_zero {f : Nat → Int} (i : Nat) : ∀ n, (∀ t, t < n → f (i + t) = 0) → sm f i n = 0
  | 0, _ => rfl
  | n + 1, h => by
    show sm f i n + f (i + n) = 0
    rw [sm_zero i n fun t ht => h t (by omega), h n (by omega)]
    rfl
theorem wout {m : Nat} {q : Nat → Pt} {v : Pt} (h : ∀ e, up v (q e)) : Wd m q v = 0 := sm_zero 0 m fun t _ => cr_low (h _) (h _)
theorem Poly.wlow {m : Nat} {q : Nat → Pt} (P : Poly m q) (k : Nat) {o : Pt} (low : ∀ t, 1 ≤ t → t < m → up (q k) (q (k + t))) (ho : up (q k) o)
    (fr : ∀ t, 1 ≤ t → t + 1 < m → Free4 (q (k + t)) (q (k + t + 1)) (q k) o) : Wd m q o = (if 0 < tn (q k) (q (k + 1)) o then 1 else 0) - (if 0 < tn (q k) (q (k + m - 1)) o then 1 else 0) := by
  have h3 := P.three
  have ho2 : (q k).2 ≤ o.2 := by unfold up at ho; omega
  rw [← P.wrot o k]
  obtain ⟨c, rfl⟩ : ∃ c, m = c + 2 := ⟨m - 2, by omega⟩
  rw [show c + 2 = (c + 1) + 1 by omega, sm_head]
  show cr (q k) (q (k + 1)) o + (sm (fun e => cr (q e) (q (e + 1)) o) (k + 1) c + cr (q (k + 1 + c)) (q (k + 1 + c + 1)) o) = _
  have tele := sm_tele (f := fun e => cr (q e) (q (e + 1)) o) (g := fun e => cr (q e) (q (e + 1)) (q k)) (D := fun e => dd (q k) o (q e)) (k + 1) c fun t ht => by
    have := fr (1 + t) (by omega) (by omega)
    rw [show k + (1 + t) = k + 1 + t by omega] at this
    exact move ho2 this
  have z := sm_zero (f := fun e => cr (q e) (q (e + 1)) (q k)) (k + 1) c fun t ht => by
    have l1 := low (1 + t) (by omega) (by omega)
    have l2 := low (1 + t + 1) (by omega) (by omega)
    rw [show k + (1 + t) = k + 1 + t by omega] at l1
    rw [show k + (1 + t + 1) = k + 1 + t + 1 by omega] at l2
    exact cr_low l1 l2
  have ep : q (k + 1 + c + 1) = q k := by
    have := P.per k
    rw [show k + (c + 2) = k + 1 + c + 1 by omega] at this
    exact this
  have l1 := low 1 (by omega) (by omega)
  have l2 := low (c + 1) (by omega) (by omega)
  rw [show k + (c + 1) = k + 1 + c by omega] at l2
  have w1 := lw l1 ho
  have w2 := lw l2 ho
  have cs := cr_swap (q k) (q (k + 1 + c)) o
  rw [ep, show k + (c + 1 + 1) - 1 = k + 1 + c by omega]
  omega
end Fg

set_option Elab.async false
set_option linter.all false
namespace Fg
theorem On.left (a b : Pt) : On a a b := ⟨tn_self2 a b, by omega, by omega, by omega, by omega⟩
theorem Poly.pern {m : Nat} {q : Nat → Pt} (P : Poly m q) (k : Nat) : ∀ c, q (k + m * c) = q k
  | 0 => rfl
  | c + 1 => by
    rw [Nat.mul_succ, ← Nat.add_assoc, P.per, P.pern k c]
theorem Poly.rep {m : Nat} {q : Nat → Pt} (P : Poly m q) (k e : Nat) : ∃ t, t < m ∧ q k = q (e + t) := by
  have hm : 0 < m := by have := P.three; omega
  refine ⟨(k + m * e - e) % m, Nat.mod_lt _ hm, ?_⟩
  have h1 : e ≤ m * e := Nat.le_mul_of_pos_left e hm
  have h2 := Nat.mod_add_div (k + m * e - e) m
  have h3 := P.pern (e + (k + m * e - e) % m) ((k + m * e - e) / m)
  rw [Nat.add_assoc, h2, show e + (k + m * e - e) = k + m * e by omega, P.pern] at h3
  exact h3
theorem Poly.ne {m : Nat} {q : Nat → Pt} (P : Poly m q) (k t : Nat) (h1 : 0 < t) (h2 : t < m) : q k ≠ q (k + t) := by
  intro e
  by_cases c : t = 1
  · subst c
    exact P.one k e
  · have := P.off k t (by omega) (by omega)
    rw [← e] at this
    exact this (On.left _ _)
/-- a way between two corners that no side and no other corner touches -/
def Fr (p : Nat → Pt) (a b : Pt) : Prop := (∀ k, On (p k) a b → p k = a ∨ p k = b) ∧ ∀ e, ¬Cross (p e) (p (e + 1)) a b
theorem Fr.swap {p : Nat → Pt} {a b : Pt} (h : Fr p a b) : Fr p b a := ⟨fun k o => (h.1 k o.swap).symm, fun e c => h.2 e c.flip.swap.flip⟩
theorem Poly.edge {m : Nat} {q : Nat → Pt} (P : Poly m q) (e : Nat) : Fr q (q e) (q (e + 1)) := by
  refine ⟨fun k o => ?_, fun f => P.nox f e⟩
  obtain ⟨t, h1, h2⟩ := P.rep k e
  rw [h2] at o ⊢
  by_cases c0 : t = 0
  · subst c0
    exact .inl rfl
  · by_cases c1 : t = 1
    · subst c1
      exact .inr rfl
    · exact absurd o (P.off e t (by omega) (by omega))
/-- the corners from i on, len + 1 of them -/
def sub (p : Nat → Pt) (i len : Nat) : Nat → Pt := fun t => p (i + t % (len + 1))
theorem sub_lt {p : Nat → Pt} {i len t : Nat} (h : t ≤ len) : sub p i len t = p (i + t) := by
  unfold sub
  rw [Nat.mod_eq_of_lt (by omega)]
theorem sub_wrap {p : Nat → Pt} {i len : Nat} : sub p i len (len + 1) = p i := by
  unfold sub
  rw [Nat.mod_self]
  rfl
theorem sub_wrap2 {p : Nat → Pt} {i len t : Nat} (h : t ≤ len) : sub p i len (t + (len + 1)) = p (i + t) := by
  unfold sub
  rw [Nat.add_mod_right, Nat.mod_eq_of_lt (by omega)]
theorem sub_mod (p : Nat → Pt) (i len e t : Nat) : sub p i len (e + t) = sub p i len (e % (len + 1) + t) := by
  unfold sub
  rw [Nat.mod_add_mod]
theorem sub_at (p : Nat → Pt) (i len e : Nat) : ∃ c, c ≤ len ∧ sub p i len e = p (i + c) := ⟨e % (len + 1), by have := Nat.mod_lt e (show 0 < len + 1 by omega); omega, rfl⟩
/-- its sides: those of p, and the last -/
theorem sub_edge (p : Nat → Pt) (i len e : Nat) : (∃ c, c < len ∧ c = e % (len + 1) ∧ sub p i len e = p (i + c) ∧ sub p i len (e + 1) = p (i + c + 1)) ∨ (len = e % (len + 1) ∧ sub p i len e = p (i + len) ∧ sub p i len (e + 1) = p i) := by
  have hc := Nat.mod_lt e (show 0 < len + 1 by omega)
  have e0 := sub_mod p i len e 0
  have e1 := sub_mod p i len e 1
  rw [Nat.add_zero, Nat.add_zero] at e0
  rw [e0, e1]
  generalize e % (len + 1) = c at *
  by_cases k : c < len
  · refine .inl ⟨c, k, rfl, sub_lt (by omega), ?_⟩
    rw [sub_lt (by omega)]
    rfl
  · have : c = len := by omega
    subst this
    exact .inr ⟨rfl, sub_lt (by omega), sub_wrap⟩
theorem Poly.part {n : Nat} {p : Nat → Pt} (P : Poly n p) {i len : Nat} (h2 : 2 ≤ len) (hn : len + 1 ≤ n) (lid : Fr p (p (i + len)) (p i)) : Poly (len + 1) (sub p i len) := by
  refine ⟨by omega, fun k => ?_, fun k => ?_, fun e t ht1 ht2 => ?_, fun e f => ?_⟩
  · unfold sub
    rw [Nat.add_mod_right]
  · rcases sub_edge p i len k with ⟨c, hc, _, a, b⟩ | ⟨_, a, b⟩
    · rw [a, b]
      exact P.one _
    · rw [a, b]
      exact fun z => P.ne i len (by omega) (by omega) z.symm
  · rcases sub_edge p i len e with ⟨c, hc, ec, a, b⟩ | ⟨ec, a, b⟩
    · rw [a, b, sub_mod, ← ec]
      by_cases k : c + t ≤ len
      · rw [sub_lt k]
        have := P.off (i + c) t ht1 (by omega)
        rw [show i + c + t = i + (c + t) by omega] at this
        exact this
      · have k2 : c + t = (c + t - (len + 1)) + (len + 1) := by omega
        rw [k2, sub_wrap2 (by omega)]
        have := P.off (i + c) (n - (len + 1) + t) (by omega) (by omega)
        rw [show i + c + (n - (len + 1) + t) = i + (c + t - (len + 1)) + n by omega, P.per] at this
        exact this
    · rw [a, b, sub_mod, ← ec]
      have k2 : len + t = (t - 1) + (len + 1) := by omega
      rw [k2, sub_wrap2 (by omega)]
      intro o
      rcases lid.1 _ o with z | z
      · refine P.ne (i + (t - 1)) (len - (t - 1)) (by omega) (by omega) ?_
        rw [show i + (t - 1) + (len - (t - 1)) = i + len by omega]
        exact z
      · exact P.ne i (t - 1) (by omega) (by omega) z.symm
  · rcases sub_edge p i len e with ⟨c, hc, ec, a, b⟩ | ⟨ec, a, b⟩
    · rcases sub_edge p i len f with ⟨c', hc', ec', a', b'⟩ | ⟨ec', a', b'⟩
      · rw [a, b, a', b']
        exact P.nox _ _
      · rw [a, b, a', b']
        exact lid.2 _
    · rcases sub_edge p i len f with ⟨c', hc', ec', a', b'⟩ | ⟨ec', a', b'⟩
      · rw [a, b, a', b']
        exact fun z => lid.2 _ z.flip
      · rw [a, b, a', b']
        rintro ⟨z, _⟩
        rw [tn_self2] at z
        simp at z
/-- each side of the part is free -/
theorem Poly.side {n : Nat} {p : Nat → Pt} (P : Poly n p) {i len : Nat} (lid : Fr p (p (i + len)) (p i)) (e : Nat) : Fr p (sub p i len e) (sub p i len (e + 1)) := by
  rcases sub_edge p i len e with ⟨c, hc, _, a, b⟩ | ⟨_, a, b⟩
  · rw [a, b]
    exact P.edge _
  · rw [a, b]
    exact lid
/-! ### a side of p and the part's sides -/
theorem Poly.offv {n : Nat} {p : Nat → Pt} (P : Poly n p) {k e : Nat} (h1 : p k ≠ p e) (h2 : p k ≠ p (e + 1)) : ¬On (p k) (p e) (p (e + 1)) := fun o => by
  rcases (P.edge e).1 k o with z | z
  · exact h1 z
  · exact h2 z
/-- corner a, corner b, a free way; a side that ends at neither -/
theorem Poly.free4 {n : Nat} {p : Nat → Pt} (P : Poly n p) {a b : Nat} (F : Fr p (p a) (p b)) {e : Nat} (h1 : p a ≠ p e) (h2 : p a ≠ p (e + 1)) (h3 : p b ≠ p e) (h4 : p b ≠ p (e + 1)) : Free4 (p e) (p (e + 1)) (p a) (p b) := by
  refine ⟨P.offv h1 h2, P.offv h3 h4, fun o => ?_, fun o => ?_, F.2 e⟩
  · rcases F.1 _ o with z | z
    · exact h1 z.symm
    · exact h3 z.symm
  · rcases F.1 _ o with z | z
    · exact h2 z.symm
    · exact h4 z.symm
theorem Poly.free4' {n : Nat} {p : Nat → Pt} (P : Poly n p) {a b : Nat} (F : Fr p (p a) (p b)) {e : Nat} (h1 : p a ≠ p e) (h2 : p a ≠ p (e + 1)) (h3 : p b ≠ p e) (h4 : p b ≠ p (e + 1)) : Free4 (p a) (p b) (p e) (p (e + 1)) := by
  obtain ⟨f1, f2, f3, f4, f5⟩ := P.free4 F h1 h2 h3 h4
  exact ⟨f3, f4, f1, f2, fun z => f5 z.flip⟩
/-- corners outside the part are gone round alike -/
theorem Poly.obst {n : Nat} {p : Nat → Pt} (P : Poly n p) {i len : Nat} (h2 : 2 ≤ len) (hn : len + 1 ≤ n) (lid : Fr p (p (i + len)) (p i)) (t : Nat) (h1 : len < t) (h3 : t + 1 < n) : Wd (len + 1) (sub p i len) (p (i + t + 1)) = Wd (len + 1) (sub p i len) (p (i + t)) := by
  have Q := P.part h2 hn lid
  have ne : ∀ c s, c ≤ len → len < s → s < n → p (i + s) ≠ p (i + c) := fun c s hc hs hs2 z => by
    refine P.ne (i + c) (s - c) (by omega) (by omega) ?_
    rw [show i + c + (s - c) = i + s by omega]
    exact z.symm
  refine Q.wmove fun e => ?_
  rcases sub_edge p i len e with ⟨c, hc, _, a, b⟩ | ⟨_, a, b⟩
  · rw [a, b]
    exact P.free4 (a := i + t) (b := i + t + 1) (P.edge (i + t)) (ne c t (by omega) h1 (by omega)) (ne (c + 1) t (by omega) h1 (by omega)) (ne c (t + 1) (by omega) (by omega) h3) (ne (c + 1) (t + 1) (by omega) (by omega) h3)
  · rw [a, b]
    exact P.free4' (a := i + len) (b := i) lid (fun z => ne len t (by omega) h1 (by omega) z.symm) (fun z => ne len (t + 1) (by omega) (by omega) h3 z.symm) (fun z => ne 0 t (by omega) h1 (by omega) z.symm) (fun z => ne 0 (t + 1) (by omega) (by omega) h3 z.symm)
theorem Poly.obsts {n : Nat} {p : Nat → Pt} (P : Poly n p) {i len : Nat} (h2 : 2 ≤ len) (hn : len + 1 ≤ n) (lid : Fr p (p (i + len)) (p i)) : ∀ d t, len < t → t + d < n → Wd (len + 1) (sub p i len) (p (i + (t + d))) = Wd (len + 1) (sub p i len) (p (i + t))
  | 0, t, _, _ => rfl
  | d + 1, t, h1, h3 => by
    have q := P.obst h2 hn lid (t + d) (by omega) (by omega)
    rw [show i + (t + (d + 1)) = i + (t + d) + 1 by omega, q]
    exact P.obsts h2 hn lid d t h1 (by omega)
theorem Poly.obstAll {n : Nat} {p : Nat → Pt} (P : Poly n p) {i len : Nat} (h2 : 2 ≤ len) (hn : len + 1 ≤ n) (lid : Fr p (p (i + len)) (p i)) {s : Nat} (hs : len < s) (hs2 : s < n) (z : Wd (len + 1) (sub p i len) (p (i + s)) = 0) : ∀ t, len < t → t < n → Wd (len + 1) (sub p i len) (p (i + t)) = 0 := by
  intro t h1 h3
  rcases Nat.le_total s t with c | c
  · have q := P.obsts h2 hn lid (t - s) s hs (by omega)
    rw [show s + (t - s) = t by omega] at q
    rw [q, z]
  · have q := P.obsts h2 hn lid (s - t) t h1 (by omega)
    rw [show t + (s - t) = s by omega] at q
    rw [← q, z]
/-! ### the number at a cut -/
theorem sm_shift {f g : Nat → Int} (i j : Nat) : ∀ n, (∀ t, t < n → f (i + t) = g (j + t)) → sm f i n = sm g j n
  | 0, _ => rfl
  | n + 1, h => by
    show sm f i n + f (i + n) = sm g j n + g (j + n)
    rw [sm_shift i j n fun t ht => h t (by omega), h n (by omega)]
theorem cut_first {p : Nat → Pt} {i len : Nat} (h : 3 ≤ len) (e : ka (p i) (p (i + 1)) (p (i + 2)) - ka (p (i + len)) (p (i + 1)) (p (i + 2)) = cr (p (i + len)) (p i) (p (i + 1))) :
    Kk (len + 1) (sub p i len) 1 = Kk len (sub p (i + 1) (len - 1)) 0 := by
  obtain ⟨c, rfl⟩ : ∃ c, len = c + 3 := ⟨len - 3, by omega⟩
  unfold Kk Sk
  show sm (fun e => cr (sub p i (c + 3) e) (sub p i (c + 3) (e + 1)) (sub p i (c + 3) 1)) 2 (c + 1 + 1) - _ = sm (fun e => cr (sub p (i + 1) (c + 2) e) (sub p (i + 1) (c + 2) (e + 1)) (sub p (i + 1) (c + 2) 0)) 1 (c + 1) - _
  show sm (fun e => cr (sub p i (c + 3) e) (sub p i (c + 3) (e + 1)) (sub p i (c + 3) 1)) 2 (c + 1) + cr (sub p i (c + 3) (2 + (c + 1))) (sub p i (c + 3) (2 + (c + 1) + 1)) (sub p i (c + 3) 1) - _ = _
  have s1 : sub p i (c + 3) 1 = p (i + 1) := sub_lt (by omega)
  have s2 : sub p (i + 1) (c + 2) 0 = p (i + 1) := sub_lt (by omega)
  have s3 : sub p i (c + 3) (2 + (c + 1)) = p (i + (c + 3)) := by rw [sub_lt (by omega)]; congr 1; omega
  have s4 : sub p i (c + 3) (2 + (c + 1) + 1) = p i := by rw [show 2 + (c + 1) + 1 = c + 3 + 1 by omega, sub_wrap]
  have s5 : sub p i (c + 3) (1 + (c + 3 + 1) - 1) = p i := by rw [show 1 + (c + 3 + 1) - 1 = c + 3 + 1 by omega, sub_wrap]
  have s6 : sub p i (c + 3) (1 + 1) = p (i + 2) := sub_lt (by omega)
  have s7 : sub p (i + 1) (c + 2) (0 + (c + 3) - 1) = p (i + (c + 3)) := by rw [show 0 + (c + 3) - 1 = c + 2 by omega, sub_lt (by omega)]; congr 1; omega
  have s8 : sub p (i + 1) (c + 2) (0 + 1) = p (i + 2) := by rw [sub_lt (by omega)]
  have k := sm_shift (f := fun e => cr (sub p i (c + 3) e) (sub p i (c + 3) (e + 1)) (p (i + 1))) (g := fun e => cr (sub p (i + 1) (c + 2) e) (sub p (i + 1) (c + 2) (e + 1)) (p (i + 1))) 2 1 (c + 1) fun t ht => by
    show cr (sub p i (c + 3) (2 + t)) (sub p i (c + 3) (2 + t + 1)) (p (i + 1)) = cr (sub p (i + 1) (c + 2) (1 + t)) (sub p (i + 1) (c + 2) (1 + t + 1)) (p (i + 1))
    rw [sub_lt (by omega), sub_lt (by omega), sub_lt (by omega), sub_lt (by omega), show i + (2 + t) = i + 1 + (1 + t) by omega, show i + (2 + t + 1) = i + 1 + (1 + t + 1) by omega]
  show _ - ka (sub p i (c + 3) (1 + (c + 3 + 1) - 1)) (sub p i (c + 3) 1) (sub p i (c + 3) (1 + 1)) = _ - ka (sub p (i + 1) (c + 2) (0 + (c + 3) - 1)) (sub p (i + 1) (c + 2) 0) (sub p (i + 1) (c + 2) (0 + 1))
  rw [s1, s2, s3, s4, s5, s6, s7, s8, k]
  omega
theorem cut_last {p : Nat → Pt} {i len : Nat} (h : 3 ≤ len) (e : ka (p (i + len)) (p i) (p (i + 1)) - ka (p (i + (len - 1))) (p i) (p (i + 1)) = cr (p (i + (len - 1))) (p (i + len)) (p i)) :
    Kk (len + 1) (sub p i len) 0 = Kk len (sub p i (len - 1)) 0 := by
  obtain ⟨c, rfl⟩ : ∃ c, len = c + 3 := ⟨len - 3, by omega⟩
  unfold Kk Sk
  show sm (fun e => cr (sub p i (c + 3) e) (sub p i (c + 3) (e + 1)) (sub p i (c + 3) 0)) 1 (c + 1) + cr (sub p i (c + 3) (1 + (c + 1))) (sub p i (c + 3) (1 + (c + 1) + 1)) (sub p i (c + 3) 0) - ka (sub p i (c + 3) (0 + (c + 3 + 1) - 1)) (sub p i (c + 3) 0) (sub p i (c + 3) (0 + 1))
    = sm (fun e => cr (sub p i (c + 2) e) (sub p i (c + 2) (e + 1)) (sub p i (c + 2) 0)) 1 (c + 1) - ka (sub p i (c + 2) (0 + (c + 3) - 1)) (sub p i (c + 2) 0) (sub p i (c + 2) (0 + 1))
  have s1 : sub p i (c + 3) 0 = p i := sub_lt (by omega)
  have s2 : sub p i (c + 2) 0 = p i := sub_lt (by omega)
  have s3 : sub p i (c + 3) (1 + (c + 1)) = p (i + (c + 2)) := by rw [sub_lt (by omega)]; congr 1; omega
  have s4 : sub p i (c + 3) (1 + (c + 1) + 1) = p (i + (c + 3)) := by rw [sub_lt (by omega)]; congr 1; omega
  have s5 : sub p i (c + 3) (0 + (c + 3 + 1) - 1) = p (i + (c + 3)) := by rw [show 0 + (c + 3 + 1) - 1 = c + 3 by omega, sub_lt (by omega)]
  have s6 : sub p i (c + 3) (0 + 1) = p (i + 1) := sub_lt (by omega)
  have s7 : sub p i (c + 2) (0 + (c + 3) - 1) = p (i + (c + 2)) := by rw [show 0 + (c + 3) - 1 = c + 2 by omega, sub_lt (by omega)]
  have s8 : sub p i (c + 2) (0 + 1) = p (i + 1) := sub_lt (by omega)
  have k := sm_shift (f := fun e => cr (sub p i (c + 3) e) (sub p i (c + 3) (e + 1)) (p i)) (g := fun e => cr (sub p i (c + 2) e) (sub p i (c + 2) (e + 1)) (p i)) 1 1 (c + 1) fun t ht => by
    show cr (sub p i (c + 3) (1 + t)) (sub p i (c + 3) (1 + t + 1)) (p i) = cr (sub p i (c + 2) (1 + t)) (sub p i (c + 2) (1 + t + 1)) (p i)
    rw [sub_lt (by omega), sub_lt (by omega), sub_lt (by omega), sub_lt (by omega)]
  have e' : ka (p (i + (c + 3))) (p i) (p (i + 1)) - ka (p (i + (c + 2))) (p i) (p (i + 1)) = cr (p (i + (c + 2))) (p (i + (c + 3))) (p i) := e
  rw [s1, s2, s3, s4, s5, s6, s7, s8, k]
  omega
/-! ### free ways in a triangle -/
theorem onT {u v w z : Pt} (D : 0 < tn u v w) (h : On z u w) : tn w u z = 0 ∧ 0 ≤ tn u v z ∧ 0 ≤ tn v w z := by
  obtain ⟨h0, h1, h2, h3, h4⟩ := h
  have e0 : tn w u z = 0 := by rw [tn_swap]; omega
  have b := bary u v w z
  have i1 : tn u v w * (z.1 - u.1) = tn u v z * (w.1 - u.1) + tn w u z * (v.1 - u.1) := by unfold tn; grind
  have i2 : tn u v w * (z.2 - u.2) = tn u v z * (w.2 - u.2) + tn w u z * (v.2 - u.2) := by unfold tn; grind
  rw [e0, Int.zero_mul, Int.add_zero] at i1 i2
  -- z - u = (B / D) (w - u)
  have key : ∀ {s q : Int}, tn u v w * s = tn u v z * q → min 0 q ≤ s → s ≤ max 0 q → q ≠ 0 → 0 ≤ tn u v z ∧ tn u v z ≤ tn u v w := by
    intro s q e l1 l2 q0
    rcases Int.lt_or_lt_of_ne q0 with k | k
    · have a1 : tn u v w * s ≤ 0 := wPN (by omega) (by omega)
      have a2 : 0 ≤ tn u v w * (s - q) := wPP (by omega) (by omega)
      have a3 : tn u v w * (s - q) = q * (tn u v z - tn u v w) := by grind
      refine ⟨Int.not_lt.mp fun c => ?_, Int.not_lt.mp fun c => ?_⟩
      · have := sNN c k; omega
      · have := sNP k (show 0 < tn u v z - tn u v w by omega); omega
    · have a1 : 0 ≤ tn u v w * s := wPP (by omega) (by omega)
      have a2 : tn u v w * (s - q) ≤ 0 := wPN (by omega) (by omega)
      have a3 : tn u v w * (s - q) = q * (tn u v z - tn u v w) := by grind
      refine ⟨Int.not_lt.mp fun c => ?_, Int.not_lt.mp fun c => ?_⟩
      · have := sNP c k; omega
      · have := sPP k (show 0 < tn u v z - tn u v w by omega); omega
  have : 0 ≤ tn u v z ∧ tn u v z ≤ tn u v w := by
    by_cases c : w.1 - u.1 = 0
    · by_cases c2 : w.2 - u.2 = 0
      · exfalso
        have : tn u v w = 0 := by
          unfold tn
          rw [c, c2]
          simp
        omega
      · exact key i2 (by omega) (by omega) c2
    · exact key i1 (by omega) (by omega) c
  exact ⟨e0, this.1, by omega⟩
theorem Poly.cutFr {n : Nat} {p : Nat → Pt} (P : Poly n p) {a b c : Nat} (D : 0 < tn (p a) (p b) (p c)) (F1 : Fr p (p a) (p b)) (F2 : Fr p (p b) (p c))
    (emp : ∀ k, inT (p a) (p b) (p c) (p k) → p k = p a ∨ p k = p b ∨ p k = p c) (hv : ∀ e, (p e = p b → ¬Cross (p e) (p (e + 1)) (p a) (p c)) ∧ (p (e + 1) = p b → ¬Cross (p e) (p (e + 1)) (p a) (p c))) : Fr p (p a) (p c) := by
  have zb : tn (p c) (p a) (p b) = tn (p a) (p b) (p c) := (tn_cyc (p c) (p a) (p b)).symm
  refine ⟨fun k o => ?_, fun e cr => ?_⟩
  · obtain ⟨o1, o2, o3⟩ := onT D o
    rcases emp k ⟨o2, o3, by omega⟩ with z | z | z
    · exact .inl z
    · rw [z] at o1
      omega
    · exact .inr z
  · have go : ∀ g h : Pt, (∃ k, g = p k) → (g = p e ∧ h = p (e + 1) ∨ g = p (e + 1) ∧ h = p e) → Cross g h (p a) (p c) → 0 < tn (p c) (p a) g → False := by
      rintro g h ⟨k, hk⟩ hgh ⟨c1, c2⟩ sg
      have t1 : tn (p a) (p c) g = -tn (p c) (p a) g := by rw [tn_swap]
      have t2 : tn (p a) (p c) h = -tn (p c) (p a) h := by rw [tn_swap]
      rw [t1, t2, Int.neg_mul_neg] at c2
      have sh := dN sg c2
      have gb : g ≠ p b := by
        intro z
        rcases hgh with ⟨y1, y2⟩ | ⟨y1, y2⟩
        · exact (hv e).1 (by rw [← y1, z]) cr
        · exact (hv e).2 (by rw [← y1, z]) cr
      have out : ¬inT (p a) (p b) (p c) g := by
        intro z
        rw [hk] at z sg gb
        rcases emp k z with y | y | y
        · rw [y, tn_self3] at sg; omega
        · exact gb y
        · rw [y, tn_self2] at sg; omega
      have hb : h ≠ p b := fun z => by rw [z, zb] at sh; omega
      have crs : ∀ x y : Pt, Fr p x y → ¬Cross g h x y := by
        intro x y F z
        rcases hgh with ⟨y1, y2⟩ | ⟨y1, y2⟩
        · rw [y1, y2] at z; exact F.2 e z
        · rw [y1, y2] at z; exact F.2 e z.swap
      rcases cutx D sg sh c1 out with z | z | z
      · exact crs _ _ F1 z
      · exact crs _ _ F2 z
      · rcases hgh with ⟨y1, y2⟩ | ⟨y1, y2⟩
        · rw [y1, y2] at z
          exact P.offv (k := b) (fun w => gb (by rw [y1, w])) (fun w => hb (by rw [y2, w])) z
        · rw [y1, y2] at z
          exact P.offv (k := b) (fun w => hb (by rw [y2, w])) (fun w => gb (by rw [y1, w])) z.swap
    have cr' := cr
    obtain ⟨c1, c2⟩ := cr'
    have t1 : tn (p a) (p c) (p e) = -tn (p c) (p a) (p e) := by rw [tn_swap]
    rcases Int.lt_trichotomy (tn (p a) (p c) (p e)) 0 with k | k | k
    · exact go (p e) (p (e + 1)) ⟨e, rfl⟩ (.inl ⟨rfl, rfl⟩) cr (by omega)
    · rw [k] at c2; simp at c2
    · have k2 := dN k c2
      have t2 : tn (p a) (p c) (p (e + 1)) = -tn (p c) (p a) (p (e + 1)) := by rw [tn_swap]
      exact go (p (e + 1)) (p e) ⟨e + 1, rfl⟩ (.inr ⟨rfl, rfl⟩) cr.swap (by omega)
theorem Poly.chordNo {n : Nat} {p : Nat → Pt} (P : Poly n p) {a b c x : Nat} (D : 0 < tn (p a) (p b) (p c)) (xA : 0 < tn (p b) (p c) (p x)) (xB : 0 < tn (p a) (p b) (p x)) (xH : 0 ≤ tn (p c) (p a) (p x))
    (mx : ∀ k, inT (p a) (p b) (p c) (p k) → p k ≠ p b → tn (p c) (p a) (p k) ≤ tn (p c) (p a) (p x)) {k1 k2 : Nat} (n1 : ¬Cross (p k1) (p k2) (p a) (p b)) (n2 : ¬Cross (p k1) (p k2) (p b) (p c)) : ¬Cross (p k1) (p k2) (p b) (p x) := by
  have go : ∀ i j, (¬Cross (p i) (p j) (p a) (p b)) → (¬Cross (p i) (p j) (p b) (p c)) → Cross (p i) (p j) (p b) (p x) → 0 < tn (p b) (p x) (p i) → False := by
    intro i j m1 m2 cc sg
    rcases chordx D xA xB xH cc sg with z | z | ⟨z1, z2, z3⟩ | ⟨z1, z2, z3⟩
    · exact m1 z
    · exact m2 z
    · have := mx i z1 z2
      omega
    · have := mx j z1 z2
      omega
  intro cr
  have cr' := cr
  obtain ⟨c1, c2⟩ := cr'
  rcases Int.lt_trichotomy (tn (p b) (p x) (p k1)) 0 with k | k | k
  · exact go k2 k1 (fun z => n1 z.swap) (fun z => n2 z.swap) cr.swap (negN k c2)
  · rw [k] at c2; simp at c2
  · exact go k1 k2 n1 n2 cr k
theorem Poly.chordFr {n : Nat} {p : Nat → Pt} (P : Poly n p) {a b c x : Nat} (D : 0 < tn (p a) (p b) (p c)) (F1 : Fr p (p a) (p b)) (F2 : Fr p (p b) (p c)) (xA : 0 < tn (p b) (p c) (p x)) (xB : 0 < tn (p a) (p b) (p x)) (xH : 0 ≤ tn (p c) (p a) (p x))
    (mx : ∀ k, inT (p a) (p b) (p c) (p k) → p k ≠ p b → tn (p c) (p a) (p k) ≤ tn (p c) (p a) (p x)) : Fr p (p b) (p x) := by
  have bx := bary (p a) (p b) (p c) (p x)
  refine ⟨fun k o => ?_, fun e cr => ?_⟩
  · -- a corner on the chord is nearer
    by_cases kb : p k = p b
    · exact .inl kb
    · right
      obtain ⟨o0, o1, o2, o3, o4⟩ := o
      -- A(z) xB = B(z) xA
      have e1 := bX (p a) (p b) (p c) (p k) (p k) (p x)
      rw [o0, Int.mul_zero] at e1
      -- D (z - v) = A (u - v) + B (w - v); the same for x
      have f1 : tn (p a) (p b) (p x) * ((p k).1 - (p b).1) = tn (p a) (p b) (p k) * ((p x).1 - (p b).1) - tn (p b) (p x) (p k) * ((p b).1 - (p a).1) := by unfold tn; grind
      have f2 : tn (p a) (p b) (p x) * ((p k).2 - (p b).2) = tn (p a) (p b) (p k) * ((p x).2 - (p b).2) - tn (p b) (p x) (p k) * ((p b).2 - (p a).2) := by unfold tn; grind
      rw [o0, Int.zero_mul, Int.sub_zero] at f1 f2
      have key : ∀ {s q : Int}, tn (p a) (p b) (p x) * s = tn (p a) (p b) (p k) * q → min 0 q ≤ s → s ≤ max 0 q → q ≠ 0 → 0 ≤ tn (p a) (p b) (p k) ∧ tn (p a) (p b) (p k) ≤ tn (p a) (p b) (p x) := by
        intro s q e l1 l2 q0
        rcases Int.lt_or_lt_of_ne q0 with hq | hq
        · have a1 : tn (p a) (p b) (p x) * s ≤ 0 := wPN (by omega) (by omega)
          have a2 : 0 ≤ tn (p a) (p b) (p x) * (s - q) := wPP (by omega) (by omega)
          have a3 : tn (p a) (p b) (p x) * (s - q) = q * (tn (p a) (p b) (p k) - tn (p a) (p b) (p x)) := by grind
          refine ⟨Int.not_lt.mp fun c => ?_, Int.not_lt.mp fun c => ?_⟩
          · have := sNN c hq; omega
          · have := sNP hq (show 0 < tn (p a) (p b) (p k) - tn (p a) (p b) (p x) by omega); omega
        · have a1 : 0 ≤ tn (p a) (p b) (p x) * s := wPP (by omega) (by omega)
          have a2 : tn (p a) (p b) (p x) * (s - q) ≤ 0 := wPN (by omega) (by omega)
          have a3 : tn (p a) (p b) (p x) * (s - q) = q * (tn (p a) (p b) (p k) - tn (p a) (p b) (p x)) := by grind
          refine ⟨Int.not_lt.mp fun c => ?_, Int.not_lt.mp fun c => ?_⟩
          · have := sNP c hq; omega
          · have := sPP hq (show 0 < tn (p a) (p b) (p k) - tn (p a) (p b) (p x) by omega); omega
      have hB : 0 ≤ tn (p a) (p b) (p k) ∧ tn (p a) (p b) (p k) ≤ tn (p a) (p b) (p x) := by
        by_cases c1 : (p x).1 - (p b).1 = 0
        · by_cases c2 : (p x).2 - (p b).2 = 0
          · exfalso
            have : tn (p a) (p b) (p x) = 0 := by
              have ex : p x = p b := Prod.ext (by omega) (by omega)
              rw [ex, tn_self3]
            omega
          · exact key f2 (by omega) (by omega) c2
        · exact key f1 (by omega) (by omega) c1
      have eAB : tn (p a) (p b) (p x) * tn (p b) (p c) (p k) = tn (p b) (p c) (p x) * tn (p a) (p b) (p k) := by omega
      have hA0 : 0 ≤ tn (p b) (p c) (p k) := dPw xB (by have := wPP (show 0 ≤ tn (p b) (p c) (p x) by omega) hB.1; omega)
      have hA1 : tn (p b) (p c) (p k) ≤ tn (p b) (p c) (p x) := by
        have h1 : 0 ≤ tn (p b) (p c) (p x) * (tn (p a) (p b) (p x) - tn (p a) (p b) (p k)) := wPP (by omega) (by omega)
        have h2 : tn (p b) (p c) (p x) * (tn (p a) (p b) (p x) - tn (p a) (p b) (p k)) = tn (p a) (p b) (p x) * (tn (p b) (p c) (p x) - tn (p b) (p c) (p k)) := by grind
        have := dPw xB (by omega : 0 ≤ tn (p a) (p b) (p x) * (tn (p b) (p c) (p x) - tn (p b) (p c) (p k)))
        omega
      have bk := bary (p a) (p b) (p c) (p k)
      have m := mx k ⟨hB.1, hA0, by omega⟩ kb
      have eB : tn (p a) (p b) (p k) = tn (p a) (p b) (p x) := by omega
      rw [eB] at f1 f2
      have g1 : tn (p a) (p b) (p x) * ((p k).1 - (p x).1) = 0 := by grind
      have g2 : tn (p a) (p b) (p x) * ((p k).2 - (p x).2) = 0 := by grind
      have g1 := dZ xB g1
      have g2 := dZ xB g2
      exact Prod.ext (by omega) (by omega)
  · exact P.chordNo D xA xB xH mx (F1.2 e) (F2.2 e) cr
end Fg

set_option Elab.async false
set_option linter.all false
namespace Fg
theorem up_trans {a b c : Pt} (h : up a b) (k : up b c) : up a c := by unfold up at *; omega
theorem up_total {a b : Pt} (h : a ≠ b) : up a b ∨ up b a := by
  have := ne_pt h
  unfold up
  omega
theorem lowest (f : Nat → Pt) : ∀ m, 0 < m → (∀ s t, s < t → t < m → f s ≠ f t) → ∃ a, a < m ∧ ∀ t, t < m → t ≠ a → up (f a) (f t)
  | 0, h, _ => by omega
  | 1, _, _ => ⟨0, by omega, fun t h1 h2 => by omega⟩
  | m + 2, _, hd => by
    obtain ⟨a, h1, h2⟩ := lowest f (m + 1) (by omega) fun s t a b => hd s t a (by omega)
    rcases up_total (hd a (m + 1) h1 (by omega)) with k | k
    · refine ⟨a, by omega, fun t ht hne => ?_⟩
      by_cases e : t = m + 1
      · rw [e]; exact k
      · exact h2 t (by omega) hne
    · refine ⟨m + 1, by omega, fun t ht hne => ?_⟩
      by_cases e : t = a
      · rw [e]; exact k
      · exact up_trans k (h2 t (by omega) e)
theorem argmax (C : Nat → Prop) (f : Nat → Int) : ∀ n, (∃ t, t < n ∧ C t) → ∃ t, t < n ∧ C t ∧ ∀ s, s < n → C s → f s ≤ f t
  | 0, ⟨t, h, _⟩ => by omega
  | n + 1, ⟨t, h, hc⟩ => by
    by_cases e : ∃ t, t < n ∧ C t
    · obtain ⟨a, h1, h2, h3⟩ := argmax C f n e
      by_cases c : C n ∧ f a < f n
      · refine ⟨n, by omega, c.1, fun s hs cs => ?_⟩
        by_cases z : s = n
        · subst z; omega
        · have := h3 s (by omega) cs; omega
      · refine ⟨a, by omega, h2, fun s hs cs => ?_⟩
        by_cases z : s = n
        · subst z
          have : ¬ f a < f s := fun q => c ⟨cs, q⟩
          omega
        · exact h3 s (by omega) cs
    · have tn' : t = n := by
        rcases Nat.lt_or_ge t n with z | z
        · exact absurd ⟨t, z, hc⟩ e
        · omega
      subst tn'
      refine ⟨t, by omega, hc, fun s hs cs => ?_⟩
      by_cases z : s = t
      · subst z; omega
      · exact absurd ⟨s, by omega, cs⟩ e
theorem sideOn {u v w z : Pt} (D : 0 < tn u v w) (h : inT u v w z) (e : tn v w z = 0) : On z v w := by
  obtain ⟨h1, h2, h3⟩ := h
  have b := bary u v w z
  have i1 : tn u v w * (z.1 - v.1) = tn v w z * (u.1 - v.1) + tn u v z * (w.1 - v.1) := by unfold tn; grind
  have i2 : tn u v w * (z.2 - v.2) = tn v w z * (u.2 - v.2) + tn u v z * (w.2 - v.2) := by unfold tn; grind
  rw [e, Int.zero_mul, Int.zero_add] at i1 i2
  have q1 := btwX (p := tn u v w) (q := w.1 - v.1) (s := tn u v z) (t := z.1 - v.1) D h1 (by omega) (by rw [i1, Int.mul_comm])
  have q2 := btwX (p := tn u v w) (q := w.2 - v.2) (s := tn u v z) (t := z.2 - v.2) D h1 (by omega) (by rw [i2, Int.mul_comm])
  refine ⟨e, ?_, ?_, ?_, ?_⟩ <;> omega
theorem wedge_up {u v w z : Pt} (D : 0 < tn u v w) (hA : 0 < tn v w z) (hB : 0 < tn u v z) (hu : up v u) (hw : up v w) : up v z := by
  have i1 : tn u v w * (v.1 - z.1) = tn v w z * (v.1 - u.1) + tn u v z * (v.1 - w.1) := by unfold tn; grind
  have i2 : tn u v w * (z.2 - v.2) = tn v w z * (u.2 - v.2) + tn u v z * (w.2 - v.2) := by unfold tn; grind
  rw [up_lp]
  refine lp_div D ?_
  rw [i1, i2]
  exact lp_add (lp_mul hA (up_lp.mp hu)) (lp_mul hB (up_lp.mp hw))
/-- the lowest corner of a part, and a corner outside that is seen from it -/
theorem Poly.see {n : Nat} {p : Nat → Pt} (P : Poly n p) {i len : Nat} (h2 : 2 ≤ len) (hn : len + 1 ≤ n) (lid : Fr p (p (i + len)) (p i)) {a s : Nat} (ha : a ≤ len) (low : ∀ c, c ≤ len → c ≠ a → up (p (i + a)) (p (i + c)))
    (hs : ∀ c, c ≤ len → p s ≠ p (i + c)) (F : Fr p (p (i + a)) (p s)) (ho : up (p (i + a)) (p s)) (hl : 0 < a → a < len → ¬Cross (p (i + len)) (p i) (p (i + a)) (p s)) :
    Wd (len + 1) (sub p i len) (p s) = (if 0 < tn (p (i + a)) (sub p i len (a + 1)) (p s) then 1 else 0) - (if 0 < tn (p (i + a)) (sub p i len (a + len)) (p s) then 1 else 0) := by
  have Q := P.part h2 hn lid
  have ea : sub p i len a = p (i + a) := sub_lt ha
  have ne : ∀ c d, c ≤ len → d ≤ len → c ≠ d → p (i + c) ≠ p (i + d) := fun c d hc hd hcd z => by
    rcases Nat.lt_or_gt_of_ne hcd with k | k
    · refine P.ne (i + c) (d - c) (by omega) (by omega) ?_
      rw [show i + c + (d - c) = i + d by omega]; exact z
    · refine P.ne (i + d) (c - d) (by omega) (by omega) ?_
      rw [show i + d + (c - d) = i + c by omega]; exact z.symm
  have md : ∀ t, 1 ≤ t → t ≤ len → (a + t) % (len + 1) ≠ a ∧ (a + t) % (len + 1) ≤ len := fun t h1 h3 => by
    refine ⟨?_, by have := Nat.mod_lt (a + t) (show 0 < len + 1 by omega); omega⟩
    by_cases k : a + t < len + 1
    · rw [Nat.mod_eq_of_lt k]; omega
    · rw [show a + t = (a + t - (len + 1)) + (len + 1) by omega, Nat.add_mod_right, Nat.mod_eq_of_lt (by omega)]; omega
  have md2 : ∀ t, 1 ≤ t → t + 1 ≤ len → ((a + t) % (len + 1) < len → (a + t) % (len + 1) + 1 ≠ a) ∧ ((a + t) % (len + 1) = len → 0 < a ∧ a < len) := fun t h1 h3 => by
    by_cases k : a + t < len + 1
    · rw [Nat.mod_eq_of_lt k]; omega
    · rw [show a + t = (a + t - (len + 1)) + (len + 1) by omega, Nat.add_mod_right, Nat.mod_eq_of_lt (by omega)]; omega
  have q := Q.wlow a (o := p s) (fun t h1 h3 => by
      obtain ⟨m1, m2⟩ := md t h1 (by omega)
      rw [ea]
      exact low _ m2 m1) (by rw [ea]; exact ho) (fun t h1 h3 => by
      obtain ⟨m1, m2⟩ := md t h1 (by omega)
      obtain ⟨m3, m4⟩ := md2 t h1 (by omega)
      rw [ea]
      rcases sub_edge p i len (a + t) with ⟨c, hc, ec, k1, k2⟩ | ⟨ec, k1, k2⟩
      · rw [k1, k2]
        rw [← ec] at m1 m3
        exact P.free4 (a := i + a) (b := s) F (ne a c ha (by omega) (Ne.symm m1)) (ne a (c + 1) ha (by omega) (Ne.symm (m3 hc))) (hs c (by omega)) (hs (c + 1) (by omega))
      · rw [k1, k2]
        obtain ⟨a1, a2⟩ := m4 ec.symm
        refine ⟨fun o => ?_, fun o => ?_, fun o => ?_, fun o => ?_, hl a1 a2⟩
        · rcases lid.1 (i + a) o with z | z
          · exact ne a len ha (by omega) (by omega) z
          · exact ne a 0 ha (by omega) (by omega) z
        · rcases lid.1 s o with z | z
          · exact hs len (by omega) z
          · exact hs 0 (by omega) z
        · rcases F.1 (i + len) o with z | z
          · exact ne len a (by omega) ha (by omega) z
          · exact hs len (by omega) z.symm
        · rcases F.1 i o with z | z
          · exact ne 0 a (by omega) ha (by omega) z
          · exact hs 0 (by omega) z.symm)
  rw [ea, show a + (len + 1) - 1 = a + len by omega] at q
  exact q
/-- an ear -/
def EarAt (n : Nat) (p : Nat → Pt) (k : Nat) : Prop := 0 < tn (p (k + n - 1)) (p k) (p (k + 1)) ∧ ∀ t, 2 ≤ t → t + 2 ≤ n → ¬inT (p (k + n - 1)) (p k) (p (k + 1)) (p (k + t))
theorem Poly.earOf {n : Nat} {p : Nat → Pt} (P : Poly n p) {k : Nat} (hk : 0 < k) (D : 0 < tn (p (k - 1)) (p k) (p (k + 1))) (emp : ∀ j, inT (p (k - 1)) (p k) (p (k + 1)) (p j) → p j = p (k - 1) ∨ p j = p k ∨ p j = p (k + 1)) : EarAt n p k := by
  have h3 := P.three
  have e : p (k + n - 1) = p (k - 1) := by
    rw [show k + n - 1 = k - 1 + n by omega, P.per]
  unfold EarAt
  rw [e]
  refine ⟨D, fun t h1 h2 z => ?_⟩
  rcases emp _ z with y | y | y
  · refine P.ne (k - 1) (t + 1) (by omega) (by omega) ?_
    rw [show k - 1 + (t + 1) = k + t by omega]; exact y.symm
  · exact P.ne k t (by omega) (by omega) y.symm
  · refine P.ne (k + 1) (t - 1) (by omega) (by omega) ?_
    rw [show k + 1 + (t - 1) = k + t by omega]; exact y.symm
/-- the turn at the lowest corner of a part -/
theorem Poly.lowTurn {m : Nat} {q : Nat → Pt} (Q : Poly m q) {a : Nat} (low : ∀ t, 1 ≤ t → t < m → up (q a) (q (a + t))) : (Kk m q a = 0 ↔ 0 < tn (q (a + m - 1)) (q a) (q (a + 1))) ∧ (Kk m q a = 0 ∨ Kk m q a = -1) ∧ tn (q (a + m - 1)) (q a) (q (a + 1)) ≠ 0 := by
  have h3 := Q.three
  have s0 : Sk m q a = 0 := sm_zero (a + 1) (m - 2) fun t ht => by
    have l1 := low (1 + t) (by omega) (by omega)
    have l2 := low (1 + t + 1) (by omega) (by omega)
    rw [show a + (1 + t) = a + 1 + t by omega] at l1
    rw [show a + (1 + t + 1) = a + 1 + t + 1 by omega] at l2
    exact cr_low l1 l2
  have l1 := low 1 (by omega) (by omega)
  have l2 := low (m - 1) (by omega) (by omega)
  rw [show a + (m - 1) = a + m - 1 by omega] at l2
  have t1 : tn (q a) (q (a + m - 1)) (q (a + 1)) = -tn (q (a + m - 1)) (q a) (q (a + 1)) := by rw [tn_swap]
  have nz : tn (q (a + m - 1)) (q a) (q (a + 1)) ≠ 0 := by
    intro z
    have o1 : ¬On (q (a + 1)) (q a) (q (a + m - 1)) := fun o => by
      have := Q.off (a + m - 1) 2 (by omega) (by omega)
      rw [show a + m - 1 + 2 = a + 1 + m by omega, show a + m - 1 + 1 = a + m by omega, Q.per, Q.per] at this
      exact this o.swap
    have o2 : ¬On (q (a + m - 1)) (q a) (q (a + 1)) := by
      have := Q.off a (m - 1) (by omega) (by omega)
      rw [show a + (m - 1) = a + m - 1 by omega] at this
      exact this
    have r := ray (p := q a) (q := q (a + m - 1)) (u := q (a + 1)) o1 o2 (by rw [t1]; omega)
    have lz := lev_pos (p := q a) (q := q (a + m - 1)) (u := q (a + 1))
    have lq := lev_q (p := q a) (q := q (a + m - 1)) (u := q (a + 1))
    unfold up at l1 l2
    rw [t1] at lz lq
    rcases l1 with l1 | l1
    · rcases l2 with l2 | l2
      · exact r.1 ⟨l2, l1⟩
      · have := (lq l2.1).2.2.1 l2.2 l1
        omega
    · rcases l2 with l2 | l2
      · have := (lz l1.1).1 l2 l1.2
        omega
      · exact r.2.2.2 ⟨l2.1, l1.1, l2.2, l1.2⟩
  unfold Kk
  rw [s0, ka_up t1 l2 l1]
  constructor
  · constructor
    · intro z
      split at z <;> omega
    · intro z
      rw [if_neg (by omega)]
      rfl
  · refine ⟨?_, nz⟩
    split
    · exact .inr rfl
    · exact .inl rfl
end Fg

set_option Elab.async false
set_option linter.all false
namespace Fg
theorem Poly.rep2 {m : Nat} {q : Nat → Pt} (P : Poly m q) (k e : Nat) : ∃ t, t < m ∧ ∀ d, q (k + d) = q (e + t + d) := by
  have hm : 0 < m := by have := P.three; omega
  refine ⟨(k + m * e - e) % m, Nat.mod_lt _ hm, fun d => ?_⟩
  have h1 : e ≤ m * e := Nat.le_mul_of_pos_left e hm
  have h2 := Nat.mod_add_div (k + m * e - e) m
  have h3 := P.pern (e + (k + m * e - e) % m + d) ((k + m * e - e) / m)
  have h4 : e + (k + m * e - e) % m + d + m * ((k + m * e - e) / m) = k + d + m * e := by omega
  rw [h4, P.pern] at h3
  exact h3
theorem mod_ne {a t len : Nat} (ha : a ≤ len) (h1 : 1 ≤ t) (h3 : t ≤ len) : (a + t) % (len + 1) ≠ a ∧ (a + t) % (len + 1) ≤ len := by
  refine ⟨?_, by have := Nat.mod_lt (a + t) (show 0 < len + 1 by omega); omega⟩
  by_cases k : a + t < len + 1
  · rw [Nat.mod_eq_of_lt k]; omega
  · rw [show a + t = (a + t - (len + 1)) + (len + 1) by omega, Nat.add_mod_right, Nat.mod_eq_of_lt (by omega)]; omega
/-- a side from v over uw goes into the angle at v -/
theorem crossV {u v w h : Pt} (D : 0 < tn u v w) (c : Cross v h u w) : 0 < tn v w h ∧ 0 < tn u v h := by
  obtain ⟨c1, c2⟩ := c
  have t1 : tn v h u = tn u v h := tn_cyc u v h
  have t2 : tn v h w = -tn v w h := by rw [tn_swap2]
  have t3 : tn u w v = -tn u v w := by rw [tn_swap2]
  have t4 : tn u w h = -tn w u h := by rw [tn_swap]
  rw [t1, t2] at c1
  rw [t3, t4, Int.neg_mul_neg] at c2
  have hH := dN D c2
  have b := bary u v w h
  have c1' : 0 < tn u v h * tn v w h := by
    have : tn u v h * -tn v w h = -(tn u v h * tn v w h) := Int.mul_neg _ _
    omega
  rcases Int.lt_trichotomy (tn u v h) 0 with k | k | k
  · have := negP k c1'
    omega
  · rw [k] at c1'; simp at c1'
  · exact ⟨dP k c1', k⟩
theorem Poly.earIn {n : Nat} {p : Nat → Pt} (P : Poly n p) : ∀ (len i : Nat), 2 ≤ len → len + 1 ≤ n → Fr p (p (i + len)) (p i) → Kk (len + 1) (sub p i len) 0 = 0 →
    (∀ t, len < t → t < n → Wd (len + 1) (sub p i len) (p (i + t)) = 0) → ∃ k, i < k ∧ k < i + len ∧ EarAt n p k := by
  intro len
  induction len using Nat.strongRecOn with
  | ind len ih =>
  intro i h2 hn lid hK hO
  have Q := P.part h2 hn lid
  have ne : ∀ c d, c < n → d < n → c ≠ d → p (i + c) ≠ p (i + d) := fun c d hc hd hcd z => by
    rcases Nat.lt_or_gt_of_ne hcd with k | k
    · refine P.ne (i + c) (d - c) (by omega) (by omega) ?_
      rw [show i + c + (d - c) = i + d by omega]; exact z
    · refine P.ne (i + d) (c - d) (by omega) (by omega) ?_
      rw [show i + d + (c - d) = i + c by omega]; exact z.symm
  obtain ⟨a, ha', low'⟩ := lowest (fun c => p (i + c)) (len + 1) (by omega) fun s t hst ht => ne s t (by omega) (by omega) (by omega)
  have ha : a ≤ len := by omega
  have low : ∀ c, c ≤ len → c ≠ a → up (p (i + a)) (p (i + c)) := fun c hc hca => low' c (by omega) hca
  have ea : sub p i len a = p (i + a) := sub_lt ha
  -- the corners ahead of it and behind it
  obtain ⟨cu, cw, hcu, hcw, eu, ew, hrel⟩ : ∃ cu cw, cu ≤ len ∧ cw ≤ len ∧ sub p i len (a + len) = p (i + cu) ∧ sub p i len (a + 1) = p (i + cw) ∧ ((a = 0 ∧ cu = len ∧ cw = 1) ∨ (a = len ∧ cu + 1 = len ∧ cw = 0) ∨ (0 < a ∧ a < len ∧ cu + 1 = a ∧ cw = a + 1)) := by
    by_cases a0 : a = 0
    · subst a0
      exact ⟨len, 1, by omega, by omega, by rw [Nat.zero_add]; exact sub_lt (by omega), sub_lt (by omega), .inl ⟨rfl, rfl, rfl⟩⟩
    · have e1 : sub p i len (a + len) = p (i + (a - 1)) := by
        rw [show a + len = (a - 1) + (len + 1) by omega]
        exact sub_wrap2 (by omega)
      by_cases al : a = len
      · subst al
        exact ⟨a - 1, 0, by omega, by omega, e1, sub_wrap, .inr (.inl ⟨rfl, by omega, rfl⟩)⟩
      · exact ⟨a - 1, a + 1, by omega, by omega, e1, sub_lt (by omega), .inr (.inr ⟨by omega, by omega, by omega, rfl⟩)⟩
  have cua : cu ≠ a := by omega
  have cwa : cw ≠ a := by omega
  have cuw : cu ≠ cw := by omega
  have lowQ : ∀ t, 1 ≤ t → t < len + 1 → up (sub p i len a) (sub p i len (a + t)) := fun t h1 h3 => by
    obtain ⟨m1, m2⟩ := mod_ne ha h1 (show t ≤ len by omega)
    rw [ea]
    exact low _ m2 m1
  have D : 0 < tn (p (i + cu)) (p (i + a)) (p (i + cw)) := by
    have := (Q.lowTurn lowQ).1.mp (by rw [Q.all a 0]; exact hK)
    rw [show a + (len + 1) - 1 = a + len by omega, eu, ew, ea] at this
    exact this
  have F1 : Fr p (p (i + cu)) (p (i + a)) := by
    have := P.side lid (a + len)
    rw [eu, show a + len + 1 = a + (len + 1) by omega, sub_wrap2 ha] at this
    exact this
  have F2 : Fr p (p (i + a)) (p (i + cw)) := by
    have := P.side lid a
    rw [ea, ew] at this
    exact this
  have upu := low cu hcu cua
  have upw := low cw hcw cwa
  -- what is seen from v within the angle is no corner outside the part
  have noSee : ∀ s, (∀ c, c ≤ len → p s ≠ p (i + c)) → Fr p (p (i + a)) (p s) → 0 < tn (p (i + a)) (p (i + cw)) (p s) → 0 < tn (p (i + cu)) (p (i + a)) (p s) → (0 < a → a < len → ¬Cross (p (i + len)) (p i) (p (i + a)) (p s)) → False := by
    intro s hs F hA hB hl
    have q := P.see h2 hn lid ha low hs F (wedge_up D hA hB upu upw) hl
    obtain ⟨t, ht, et⟩ := P.rep s i
    have htl : len < t := by
      rcases Nat.lt_or_ge len t with k | k
      · exact k
      · exact absurd et (hs t k)
    have z := hO t htl ht
    rw [← et, q, eu, ew, if_pos hA, if_neg (by rw [tn_swap]; omega)] at z
    exact absurd z (by decide)
  have hv : ∀ e, (p e = p (i + a) → ¬Cross (p e) (p (e + 1)) (p (i + cu)) (p (i + cw))) ∧ (p (e + 1) = p (i + a) → ¬Cross (p e) (p (e + 1)) (p (i + cu)) (p (i + cw))) := by
    intro e
    constructor
    · intro he c
      rw [he] at c
      obtain ⟨hA, hB⟩ := crossV D c
      obtain ⟨t, ht, hd⟩ := P.rep2 e (i + a)
      have t0 : t = 0 := by
        have := hd 0
        rcases Nat.eq_zero_or_pos t with k | k
        · exact k
        · exact absurd (he.symm.trans this) (P.ne (i + a) t k ht)
      subst t0
      have e1 : p (e + 1) = p (i + a + 1) := hd 1
      rcases hrel with ⟨r1, r2, r3⟩ | ⟨r1, r2, r3⟩ | ⟨r1, r2, r3, r4⟩
      · rw [e1, show i + a + 1 = i + cw by omega, tn_self3] at hA; omega
      · by_cases k : len + 1 = n
        · rw [e1, show i + a + 1 = i + cw + n by omega, P.per, tn_self3] at hA; omega
        · refine noSee (e + 1) (fun c hc z => ?_) ?_ hA hB (fun k1 k2 => by omega)
          · rw [e1, show i + a + 1 = i + (a + 1) by omega] at z
            exact ne (a + 1) c (by omega) (by omega) (by omega) z
          · have := P.edge e
            rw [he] at this
            exact this
      · rw [e1, show i + a + 1 = i + cw by omega, tn_self3] at hA; omega
    · intro he c
      have c := c.swap
      rw [he] at c
      obtain ⟨hA, hB⟩ := crossV D c
      obtain ⟨t, ht, hd⟩ := P.rep2 e (i + a)
      have t0 : t + 1 = n := by
        have := hd 1
        rcases Nat.lt_or_ge (t + 1) n with k | k
        · exact absurd (he.symm.trans this) (P.ne (i + a) (t + 1) (by omega) k)
        · omega
      have e1 : p e = p (i + a + t) := hd 0
      rcases hrel with ⟨r1, r2, r3⟩ | ⟨r1, r2, r3⟩ | ⟨r1, r2, r3, r4⟩
      · by_cases k : len + 1 = n
        · rw [e1, show i + a + t = i + cu by omega, tn_self2] at hB; omega
        · refine noSee e (fun c hc z => ?_) ?_ hA hB (fun k1 k2 => by omega)
          · rw [e1, show i + a + t = i + t by omega] at z
            exact ne t c (by omega) (by omega) (by omega) z
          · have := P.edge e
            rw [he] at this
            exact this.swap
      · rw [e1, show i + a + t = i + cu + n by omega, P.per, tn_self2] at hB; omega
      · rw [e1, show i + a + t = i + cu + n by omega, P.per, tn_self2] at hB; omega
  by_cases emp : ∀ k, inT (p (i + cu)) (p (i + a)) (p (i + cw)) (p k) → p k = p (i + cu) ∨ p k = p (i + a) ∨ p k = p (i + cw)
  · have F3 : Fr p (p (i + cu)) (p (i + cw)) := P.cutFr D F1 F2 emp hv
    rcases hrel with ⟨r1, r2, r3⟩ | ⟨r1, r2, r3⟩ | ⟨r1, r2, r3, r4⟩
    · subst r1 r2 r3
      rw [Nat.add_zero] at *
      by_cases l2 : cu = 2
      · subst l2
        refine ⟨i + 1, by omega, by omega, P.earOf (by omega) ?_ fun j z => ?_⟩
        · show 0 < tn (p i) (p (i + 1)) (p (i + 2))
          rw [tn_cyc]
          exact D
        · rcases emp j (inT_cyc (inT_cyc z)) with y | y | y
          · exact .inr (.inr y)
          · exact .inl y
          · exact .inr (.inl y)
      · have hK1 : Kk (cu + 1) (sub p i cu) 1 = 0 := by rw [Q.all 1 0]; exact hK
        have cut := cut_first (p := p) (i := i) (len := cu) (by omega) (by
          refine ka_cut D (behind D ?_ (fun z => F1.2 (i + 1) z) ?_ ?_) ?_ ?_
          · intro z
            rcases emp _ z with y | y | y
            · exact ne 2 cu (by omega) (by omega) (by omega) y
            · exact ne 2 0 (by omega) (by omega) (by omega) y
            · exact ne 2 1 (by omega) (by omega) (by omega) y
          · exact P.offv (k := i + cu) (e := i + 1) (ne cu 1 (by omega) (by omega) (by omega)) (ne cu 2 (by omega) (by omega) (by omega))
          · exact P.offv (k := i) (e := i + 1) (ne 0 1 (by omega) (by omega) (by omega)) (ne 0 2 (by omega) (by omega) (by omega))
          · exact ne 1 cu (by omega) (by omega) (by omega)
          · exact ne 1 0 (by omega) (by omega) (by omega))
        have lid' : Fr p (p (i + 1 + (cu - 1))) (p (i + 1)) := by
          rw [show i + 1 + (cu - 1) = i + cu by omega]
          exact F3
        obtain ⟨k, k1, k2, k3⟩ := ih (cu - 1) (by omega) (i + 1) (by omega) (by omega) lid' (by rw [show cu - 1 + 1 = cu by omega, ← cut]; exact hK1) (P.obstAll (by omega) (by omega) lid' (s := n - 1) (by omega) (by omega) (by
          rw [show i + 1 + (n - 1) = i + n by omega, P.per]
          refine wout fun e => ?_
          obtain ⟨c, hc, ec⟩ := sub_at p (i + 1) (cu - 1) e
          rw [ec, show i + 1 + c = i + (1 + c) by omega]
          exact low (1 + c) (by omega) (by omega)))
        exact ⟨k, by omega, by omega, k3⟩
    · subst r1 r3
      have rcu : cu = a - 1 := by omega
      subst rcu
      rw [Nat.add_zero] at *
      by_cases l2 : a = 2
      · subst l2
        refine ⟨i + 1, by omega, by omega, P.earOf (by omega) ?_ fun j z => ?_⟩
        · show 0 < tn (p i) (p (i + 1)) (p (i + 2))
          rw [← tn_cyc]
          exact D
        · rcases emp j (inT_cyc z) with y | y | y
          · exact .inr (.inl y)
          · exact .inr (.inr y)
          · exact .inl y
      · have cut := cut_last (p := p) (i := i) (len := a) (by omega) (by
          refine ka_cut D (behind D ?_ (fun z => F1.2 i z) ?_ ?_) ?_ ?_
          · intro z
            rcases emp _ z with y | y | y
            · exact ne 1 (a - 1) (by omega) (by omega) (by omega) y
            · exact ne 1 a (by omega) (by omega) (by omega) y
            · exact ne 1 0 (by omega) (by omega) (by omega) y
          · exact P.offv (k := i + (a - 1)) (e := i) (ne (a - 1) 0 (by omega) (by omega) (by omega)) (ne (a - 1) 1 (by omega) (by omega) (by omega))
          · exact P.offv (k := i + a) (e := i) (ne a 0 (by omega) (by omega) (by omega)) (ne a 1 (by omega) (by omega) (by omega))
          · exact ne 0 (a - 1) (by omega) (by omega) (by omega)
          · exact ne 0 a (by omega) (by omega) (by omega))
        obtain ⟨k, k1, k2, k3⟩ := ih (a - 1) (by omega) i (by omega) (by omega) F3 (by rw [show a - 1 + 1 = a by omega, ← cut]; exact hK) (P.obstAll (by omega) (by omega) F3 (s := a) (by omega) (by omega) (by
          refine wout fun e => ?_
          obtain ⟨c, hc, ec⟩ := sub_at p i (a - 1) e
          rw [ec]
          exact low c (by omega) (by omega)))
        exact ⟨k, by omega, by omega, k3⟩
    · subst r4
      have rcu : cu = a - 1 := by omega
      subst rcu
      have e1 : i + a - 1 = i + (a - 1) := by omega
      refine ⟨i + a, by omega, by omega, P.earOf (by omega) ?_ ?_⟩
      · rw [e1]; exact D
      · rw [e1]; exact emp
  · -- a corner within
    have ex : ∃ t, t < n ∧ (inT (p (i + cu)) (p (i + a)) (p (i + cw)) (p (i + t)) ∧ p (i + t) ≠ p (i + cu) ∧ p (i + t) ≠ p (i + a) ∧ p (i + t) ≠ p (i + cw)) := by
      refine Classical.byContradiction fun no => emp fun k hk => ?_
      obtain ⟨t, ht, et⟩ := P.rep k i
      refine Classical.byContradiction fun no2 => no ⟨t, ht, ?_⟩
      rw [← et]
      exact ⟨hk, fun z => no2 (.inl z), fun z => no2 (.inr (.inl z)), fun z => no2 (.inr (.inr z))⟩
    obtain ⟨b, hb, ⟨hin, bu, bv, bw⟩, hmax⟩ := argmax _ (fun t => tn (p (i + cw)) (p (i + cu)) (p (i + t))) n ex
    have D2 : 0 < tn (p (i + cw)) (p (i + cu)) (p (i + a)) := by rw [← tn_cyc]; exact D
    have xA : 0 < tn (p (i + a)) (p (i + cw)) (p (i + b)) := by
      rcases Int.lt_or_eq_of_le hin.2.1 with k | k
      · exact k
      · rcases F2.1 _ (sideOn D hin k.symm) with z | z
        · exact absurd z bv
        · exact absurd z bw
    have xB : 0 < tn (p (i + cu)) (p (i + a)) (p (i + b)) := by
      rcases Int.lt_or_eq_of_le hin.1 with k | k
      · exact k
      · rcases F1.1 _ (sideOn D2 (inT_cyc (inT_cyc hin)) k.symm) with z | z
        · exact absurd z bu
        · exact absurd z bv
    have xH := hin.2.2
    have mx : ∀ k, inT (p (i + cu)) (p (i + a)) (p (i + cw)) (p k) → p k ≠ p (i + a) → tn (p (i + cw)) (p (i + cu)) (p k) ≤ tn (p (i + cw)) (p (i + cu)) (p (i + b)) := by
      intro k hk hka
      by_cases k1 : p k = p (i + cu)
      · rw [k1, tn_self3]; exact xH
      · by_cases k2 : p k = p (i + cw)
        · rw [k2, tn_self2]; exact xH
        · obtain ⟨t, ht, et⟩ := P.rep k i
          rw [et] at hk hka k1 k2 ⊢
          exact hmax t ht ⟨hk, k1, hka, k2⟩
    have F4 := P.chordFr D F1 F2 xA xB xH mx
    have bca : b ≠ a := fun z => bv (by rw [z])
    have bcu : b ≠ cu := fun z => bu (by rw [z])
    have bcw : b ≠ cw := fun z => bw (by rw [z])
    by_cases hbl : b ≤ len
    · rcases Nat.lt_or_gt_of_ne bca with k | k
      · -- b < a
        have hba : b + 2 ≤ a := by omega
        have lid' : Fr p (p (i + b + (a - b))) (p (i + b)) := by
          rw [show i + b + (a - b) = i + a by omega]
          exact F4
        have Q' := P.part (i := i + b) (len := a - b) (by omega) (by omega) lid'
        have av : sub p (i + b) (a - b) (a - b) = p (i + a) := by rw [sub_lt (by omega)]; congr 1; omega
        have au : sub p (i + b) (a - b) (a - b + (a - b)) = p (i + cu) := by
          rw [show a - b + (a - b) = (a - b - 1) + (a - b + 1) by omega, sub_wrap2 (by omega)]
          congr 1; omega
        have ax : sub p (i + b) (a - b) (a - b + 1) = p (i + b) := sub_wrap
        have hK' : Kk (a - b + 1) (sub p (i + b) (a - b)) 0 = 0 := by
          rw [Q'.all 0 (a - b)]
          refine (Q'.lowTurn (a := a - b) fun t h1 h3 => ?_).1.mpr ?_
          · obtain ⟨m1, m2⟩ := mod_ne (a := a - b) (len := a - b) (Nat.le_refl _) h1 (show t ≤ a - b by omega)
            rw [av]
            show up _ (p (i + b + (a - b + t) % (a - b + 1)))
            rw [Nat.add_assoc]
            exact low _ (by omega) (by omega)
          · rw [show a - b + (a - b + 1) - 1 = a - b + (a - b) by omega, au, av, ax]
            exact xB
        have w0 : Wd (a - b + 1) (sub p (i + b) (a - b)) (p (i + cw)) = 0 := by
          have q := P.see (i := i + b) (len := a - b) (a := a - b) (s := i + cw) (by omega) (by omega) lid' (Nat.le_refl _) (fun c hc hca => by
              rw [show i + b + (a - b) = i + a by omega, show i + b + c = i + (b + c) by omega]
              exact low _ (by omega) (by omega)) (fun c hc => by
              rw [show i + b + c = i + (b + c) by omega]
              exact ne cw (b + c) (by omega) (by omega) (by omega)) (by rw [show i + b + (a - b) = i + a by omega]; exact F2) (by rw [show i + b + (a - b) = i + a by omega]; exact upw) (fun k1 k2 => by omega)
          rw [show i + b + (a - b) = i + a by omega, au, ax] at q
          rw [q, if_neg (by rw [tn_swap2]; omega), if_neg (by rw [tn_swap]; omega)]
          rfl
        obtain ⟨k, k1, k2, k3⟩ := ih (a - b) (by omega) (i + b) (by omega) (by omega) lid' hK' (by
          rcases hrel with ⟨r1, r2, r3⟩ | ⟨r1, r2, r3⟩ | ⟨r1, r2, r3, r4⟩
          · omega
          · refine P.obstAll (by omega) (by omega) lid' (s := n - b) (by omega) (by omega) ?_
            rw [show i + b + (n - b) = i + cw + n by omega, P.per]
            exact w0
          · refine P.obstAll (by omega) (by omega) lid' (s := a - b + 1) (by omega) (by omega) ?_
            rw [show i + b + (a - b + 1) = i + cw by omega]
            exact w0)
        exact ⟨k, by omega, by omega, k3⟩
      · -- a < b
        have hba : a + 2 ≤ b := by omega
        have lid' : Fr p (p (i + a + (b - a))) (p (i + a)) := by
          rw [show i + a + (b - a) = i + b by omega]
          exact F4.swap
        have Q' := P.part (i := i + a) (len := b - a) (by omega) (by omega) lid'
        have av : sub p (i + a) (b - a) 0 = p (i + a) := sub_lt (by omega)
        have ax : sub p (i + a) (b - a) (0 + (b - a)) = p (i + b) := by rw [Nat.zero_add, sub_lt (by omega)]; congr 1; omega
        have aw : sub p (i + a) (b - a) (0 + 1) = p (i + cw) := by rw [sub_lt (by omega)]; congr 1; omega
        have hK' : Kk (b - a + 1) (sub p (i + a) (b - a)) 0 = 0 := by
          refine (Q'.lowTurn (a := 0) fun t h1 h3 => ?_).1.mpr ?_
          · rw [av, Nat.zero_add, sub_lt (by omega), show i + a + t = i + (a + t) by omega]
            exact low _ (by omega) (by omega)
          · rw [show 0 + (b - a + 1) - 1 = 0 + (b - a) by omega, ax, av, aw, ← tn_cyc]
            exact xA
        have w0 : Wd (b - a + 1) (sub p (i + a) (b - a)) (p (i + cu)) = 0 := by
          have q := P.see (i := i + a) (len := b - a) (a := 0) (s := i + cu) (by omega) (by omega) lid' (Nat.zero_le _) (fun c hc hca => by
              rw [Nat.add_zero, show i + a + c = i + (a + c) by omega]
              exact low _ (by omega) (by omega)) (fun c hc => by
              rw [show i + a + c = i + (a + c) by omega]
              exact ne cu (a + c) (by omega) (by omega) (by omega)) (by rw [Nat.add_zero]; exact F1.swap) (by rw [Nat.add_zero]; exact upu) (fun k1 k2 => by omega)
          rw [Nat.add_zero, ax, aw] at q
          rw [q, if_pos (by rw [tn_cyc]; exact D), if_pos (by rw [tn_cyc]; exact xB)]
          rfl
        obtain ⟨k, k1, k2, k3⟩ := ih (b - a) (by omega) (i + a) (by omega) (by omega) lid' hK' (by
          rcases hrel with ⟨r1, r2, r3⟩ | ⟨r1, r2, r3⟩ | ⟨r1, r2, r3, r4⟩
          · refine P.obstAll (by omega) (by omega) lid' (s := len) (by omega) (by omega) ?_
            rw [show i + a + len = i + cu by omega]
            exact w0
          · omega
          · refine P.obstAll (by omega) (by omega) lid' (s := n - 1) (by omega) (by omega) ?_
            rw [show i + a + (n - 1) = i + cu + n by omega, P.per]
            exact w0)
        exact ⟨k, by omega, by omega, k3⟩
    · -- a corner outside the part cannot be seen
      refine (noSee (i + b) (fun c hc => ne b c hb (by omega) (by omega)) F4 xA xB fun a1 a2 => ?_).elim
      rcases hrel with ⟨r1, r2, r3⟩ | ⟨r1, r2, r3⟩ | ⟨r1, r2, r3, r4⟩
      · omega
      · omega
      · refine P.chordNo D xA xB xH mx (k1 := i + len) (k2 := i) (fun z => ?_) (fun z => ?_)
        · have := lid.2 (i + cu)
          rw [show i + cu + 1 = i + a by omega] at this
          exact this z.flip
        · have := lid.2 (i + a)
          rw [show i + a + 1 = i + cw by omega] at this
          exact this z.flip
end Fg

set_option Elab.async false
set_option linter.all false
namespace Fg
theorem sub_full {n : Nat} {p : Nat → Pt} (P : Poly n p) (i : Nat) : sub p i (n - 1) = fun t => p (i + t) := by
  have h3 := P.three
  funext t
  unfold sub
  rw [show n - 1 + 1 = n by omega]
  have h := P.pern (i + t % n) (t / n)
  rw [Nat.add_assoc, Nat.mod_add_div] at h
  exact h.symm
theorem Kk_shift {m : Nat} (hm : 0 < m) (q : Nat → Pt) (c k : Nat) : Kk m (fun t => q (c + t)) k = Kk m q (c + k) := by
  unfold Kk Sk
  have e : sm (fun e => cr (q (c + e)) (q (c + (e + 1))) (q (c + k))) (k + 1) (m - 2) = sm (fun e => cr (q e) (q (e + 1)) (q (c + k))) (c + k + 1) (m - 2) :=
    sm_shift _ _ _ fun t _ => by
      show cr (q (c + (k + 1 + t))) (q (c + (k + 1 + t + 1))) (q (c + k)) = cr (q (c + k + 1 + t)) (q (c + k + 1 + t + 1)) (q (c + k))
      rw [show c + (k + 1 + t) = c + k + 1 + t by omega, show c + (k + 1 + t + 1) = c + k + 1 + t + 1 by omega]
  show sm (fun e => cr (q (c + e)) (q (c + (e + 1))) (q (c + k))) (k + 1) (m - 2) - ka (q (c + (k + m - 1))) (q (c + k)) (q (c + (k + 1))) = _
  rw [e]
  rw [show c + (k + m - 1) = c + k + m - 1 by omega, show c + (k + 1) = c + k + 1 by omega]
theorem Poly.shift {m : Nat} {q : Nat → Pt} (P : Poly m q) (c : Nat) : Poly m (fun t => q (c + t)) := by
  refine ⟨P.three, fun k => ?_, fun k => ?_, fun e t h1 h2 => ?_, fun e f => ?_⟩
  · show q (c + (k + m)) = q (c + k)
    rw [← Nat.add_assoc, P.per]
  · exact P.one (c + k)
  · have := P.off (c + e) t h1 h2
    rw [Nat.add_assoc] at this
    exact this
  · exact P.nox (c + e) (c + f)
/-- there is an ear -/
theorem Poly.ear {n : Nat} {p : Nat → Pt} (P : Poly n p) (h0 : Kk n p 0 = 0) : ∃ k, k < n ∧ EarAt n p k := by
  have h3 := P.three
  have e := sub_full P 0
  have e2 : sub p 0 (n - 1) = p := by
    rw [e]
    funext t
    rw [Nat.zero_add]
  obtain ⟨k, h1, h2, h⟩ := P.earIn (n - 1) 0 (by omega) (by omega) (by
      have := P.edge (n - 1)
      rw [show n - 1 + 1 = 0 + n by omega, P.per] at this
      rw [Nat.zero_add]
      exact this) (by rw [e2, show n - 1 + 1 = n by omega]; exact h0) (fun t a b => by omega)
  exact ⟨k, by omega, h⟩
/-- what is left behind a cut -/
theorem Poly.cut {n : Nat} {p : Nat → Pt} (P : Poly n p) (h4 : 4 ≤ n) (h0 : Kk n p 0 = 0) {k : Nat} (E : EarAt n p k) : Poly (n - 1) (sub p (k + 1) (n - 2)) ∧ Kk (n - 1) (sub p (k + 1) (n - 2)) 0 = 0 := by
  obtain ⟨D, emp0⟩ := E
  have ek : k + n - 1 = k + (n - 1) := by omega
  rw [ek] at D emp0
  have F1 : Fr p (p (k + (n - 1))) (p k) := by
    have := P.edge (k + (n - 1))
    rw [show k + (n - 1) + 1 = k + n by omega, P.per] at this
    exact this
  have F2 := P.edge k
  have emp : ∀ j, inT (p (k + (n - 1))) (p k) (p (k + 1)) (p j) → p j = p (k + (n - 1)) ∨ p j = p k ∨ p j = p (k + 1) := by
    intro j hj
    obtain ⟨t, ht, et⟩ := P.rep j k
    rw [et] at hj ⊢
    by_cases t0 : t = 0
    · subst t0; exact .inr (.inl rfl)
    · by_cases t1 : t = 1
      · subst t1; exact .inr (.inr rfl)
      · by_cases t2 : t = n - 1
        · subst t2; exact .inl rfl
        · exact absurd hj (emp0 t (by omega) (by omega))
  have hv : ∀ e, (p e = p k → ¬Cross (p e) (p (e + 1)) (p (k + (n - 1))) (p (k + 1))) ∧ (p (e + 1) = p k → ¬Cross (p e) (p (e + 1)) (p (k + (n - 1))) (p (k + 1))) := by
    intro e
    constructor
    · rintro he ⟨_, c2⟩
      obtain ⟨t, ht, hd⟩ := P.rep2 e k
      have t0 : t = 0 := by
        have := hd 0
        rcases Nat.eq_zero_or_pos t with z | z
        · exact z
        · exact absurd (he.symm.trans this) (P.ne k t z ht)
      subst t0
      have e1 : p (e + 1) = p (k + 1) := hd 1
      rw [e1, tn_self3] at c2
      simp at c2
    · rintro he ⟨_, c2⟩
      obtain ⟨t, ht, hd⟩ := P.rep2 e k
      have t0 : t + 1 = n := by
        have := hd 1
        rcases Nat.lt_or_ge (t + 1) n with z | z
        · exact absurd (he.symm.trans this) (P.ne k (t + 1) (by omega) z)
        · omega
      have e1 : p e = p (k + (n - 1)) := by
        have := hd 0
        rw [show k + t + 0 = k + (n - 1) by omega] at this
        exact this
      rw [e1, tn_self2] at c2
      simp at c2
  have F3 := P.cutFr D F1 F2 emp hv
  have lid : Fr p (p (k + 1 + (n - 2))) (p (k + 1)) := by
    rw [show k + 1 + (n - 2) = k + (n - 1) by omega]
    exact F3
  have Q := P.part (i := k + 1) (len := n - 2) (by omega) (by omega) lid
  rw [show n - 2 + 1 = n - 1 by omega] at Q
  refine ⟨Q, ?_⟩
  have ne : ∀ c d, c < d → d < n → p (k + c) ≠ p (k + d) := fun c d hc hd z => by
    refine P.ne (k + c) (d - c) (by omega) (by omega) ?_
    rw [show k + c + (d - c) = k + d by omega]; exact z
  have cut := cut_first (p := p) (i := k) (len := n - 1) (by omega) (by
    refine ka_cut D (behind D ?_ (fun z => F1.2 (k + 1) z) ?_ ?_) ?_ ?_
    · intro z
      rcases emp _ z with y | y | y
      · exact ne 2 (n - 1) (by omega) (by omega) y
      · exact ne 0 2 (by omega) (by omega) y.symm
      · exact ne 1 2 (by omega) (by omega) y.symm
    · exact P.offv (k := k + (n - 1)) (e := k + 1) (fun y => ne 1 (n - 1) (by omega) (by omega) y.symm) (fun y => ne 2 (n - 1) (by omega) (by omega) y.symm)
    · exact P.offv (k := k) (e := k + 1) (fun y => ne 0 1 (by omega) (by omega) y) (fun y => ne 0 2 (by omega) (by omega) y)
    · exact fun y => ne 1 (n - 1) (by omega) (by omega) y
    · exact fun y => ne 0 1 (by omega) (by omega) y.symm)
  rw [show n - 1 + 1 = n by omega, sub_full P k, Kk_shift (by omega), show n - 1 - 1 = n - 2 by omega] at cut
  rw [← cut, P.all (k + 1) 0]
  exact h0
/-! ### the size -/
def area (n : Nat) (p : Nat → Pt) : Int := sm (fun e => tn (0, 0) (p e) (p (e + 1))) 0 n
theorem Poly.arot {n : Nat} {p : Nat → Pt} (P : Poly n p) (k : Nat) : sm (fun e => tn (0, 0) (p e) (p (e + 1))) k n = area n p :=
  sm_rot (fun j => by show tn (0, 0) (p (j + n)) (p (j + n + 1)) = _; rw [P.per, show j + n + 1 = j + 1 + n by omega, P.per]) (by have := P.three; omega) k
theorem Poly.lowest {m : Nat} {q : Nat → Pt} (Q : Poly m q) : ∃ a, ∀ t, 1 ≤ t → t < m → up (q a) (q (a + t)) := by
  have h3 := Q.three
  obtain ⟨a, ha, low⟩ := Fg.lowest q m (by omega) fun s t hst ht z => Q.ne s (t - s) (by omega) (by omega) (by rw [show s + (t - s) = t by omega]; exact z)
  refine ⟨a, fun t h1 h2 => ?_⟩
  by_cases k : a + t < m
  · exact low _ k (by omega)
  · rw [show a + t = a + t - m + m by omega, Q.per]
    exact low _ (by omega) (by omega)
theorem Poly.pos : ∀ (n : Nat) (p : Nat → Pt), Poly n p → Kk n p 0 = 0 → 0 < area n p := by
  intro n
  induction n with
  | zero => intro p P; have := P.three; omega
  | succ n ih =>
    intro p P h0
    have h3 := P.three
    by_cases n2 : n = 2
    · subst n2
      obtain ⟨a, low⟩ := P.lowest
      have D := (P.lowTurn low).1.mp (by rw [P.all a 0]; exact h0)
      have e : area 3 p = tn (p (a + 2)) (p a) (p (a + 1)) := by
        rw [← P.arot a]
        show 0 + tn (0, 0) (p (a + 0)) (p (a + 0 + 1)) + tn (0, 0) (p (a + 1)) (p (a + 1 + 1)) + tn (0, 0) (p (a + 2)) (p (a + 2 + 1)) = _
        rw [show a + 2 + 1 = a + 3 by omega, P.per]
        show 0 + tn (0, 0) (p a) (p (a + 1)) + tn (0, 0) (p (a + 1)) (p (a + 2)) + tn (0, 0) (p (a + 2)) (p a) = _
        unfold tn
        grind
      rw [e]
      exact D
    · obtain ⟨k, hk, E⟩ := P.ear h0
      obtain ⟨Q, hQ⟩ := P.cut (by omega) h0 E
      have q := ih _ Q hQ
      have D := E.1
      have e : area (n + 1) p = tn (p (k + (n + 1) - 1)) (p k) (p (k + 1)) + area n (sub p (k + 1) (n + 1 - 2)) := by
        rw [← P.arot k]
        unfold area
        obtain ⟨c, rfl⟩ : ∃ c, n = c + 1 := ⟨n - 1, by omega⟩
        rw [sm_head]
        show tn (0, 0) (p k) (p (k + 1)) + (sm (fun e => tn (0, 0) (p e) (p (e + 1))) (k + 1) c + tn (0, 0) (p (k + 1 + c)) (p (k + 1 + c + 1)))
          = tn (p (k + (c + 1 + 1) - 1)) (p k) (p (k + 1)) + (sm (fun e => tn (0, 0) (sub p (k + 1) c e) (sub p (k + 1) c (e + 1))) 0 c + tn (0, 0) (sub p (k + 1) c (0 + c)) (sub p (k + 1) c (0 + c + 1)))
        have s := sm_shift (f := fun e => tn (0, 0) (p e) (p (e + 1))) (g := fun e => tn (0, 0) (sub p (k + 1) c e) (sub p (k + 1) c (e + 1))) (k + 1) 0 c fun t ht => by
          show tn (0, 0) (p (k + 1 + t)) (p (k + 1 + t + 1)) = tn (0, 0) (sub p (k + 1) c (0 + t)) (sub p (k + 1) c (0 + t + 1))
          rw [sub_lt (by omega), sub_lt (by omega), show k + 1 + (0 + t) = k + 1 + t by omega, show k + 1 + (0 + t + 1) = k + 1 + t + 1 by omega]
        rw [s, sub_lt (by omega), show 0 + c + 1 = c + 1 by omega, sub_wrap, show k + 1 + (0 + c) = k + 1 + c by omega, show k + (c + 1 + 1) - 1 = k + 1 + c by omega, show k + 1 + c + 1 = k + (c + 1 + 1) by omega, P.per]
        generalize sm (fun e => tn (0, 0) (sub p (k + 1) c e) (sub p (k + 1) c (e + 1))) 0 c = S
        generalize p (k + 1 + c) = u
        generalize p k = v
        generalize p (k + 1) = w
        have i : tn u v w = tn (0, 0) u v + tn (0, 0) v w - tn (0, 0) u w := by unfold tn; grind
        omega
      rw [e]
      omega
/-! ### the other way round -/
def rv (n : Nat) (p : Nat → Pt) : Nat → Pt := fun t => p ((n - 1) * t)
theorem rv_next {n : Nat} {p : Nat → Pt} (P : Poly n p) (t : Nat) : rv n p t = p ((n - 1) * t + (n - 1) + 1) ∧ rv n p (t + 1) = p ((n - 1) * t + (n - 1)) := by
  have h3 := P.three
  constructor
  · show p ((n - 1) * t) = _
    rw [show (n - 1) * t + (n - 1) + 1 = (n - 1) * t + n by omega, P.per]
  · show p ((n - 1) * (t + 1)) = _
    rw [Nat.mul_succ]
theorem Poly.rv {n : Nat} {p : Nat → Pt} (P : Poly n p) : Poly n (rv n p) := by
  have h3 := P.three
  refine ⟨h3, fun k => ?_, fun k => ?_, fun e t h1 h2 => ?_, fun e f => ?_⟩
  · show p ((n - 1) * (k + n)) = p ((n - 1) * k)
    rw [Nat.mul_add, Nat.mul_comm (n - 1) n, P.pern]
  · rw [(rv_next P k).1, (rv_next P k).2]
    exact fun z => P.one _ z.symm
  · rw [(rv_next P e).1, (rv_next P e).2]
    have e1 : Fg.rv n p (e + t) = p ((n - 1) * e + (n - 1) + (n + 1 - t)) := by
      show p ((n - 1) * (e + t)) = _
      have e2 : (n - 1) * (e + t) = (n - 1) * e + (n - 1) + (n + 1 - t) + n * (t - 2) := by
        obtain ⟨m, rfl⟩ : ∃ m, n = m + 1 := ⟨n - 1, by omega⟩
        obtain ⟨s, rfl⟩ : ∃ s, t = s + 2 := ⟨t - 2, by omega⟩
        rw [show m + 1 - 1 = m by omega, show s + 2 - 2 = s by omega, show m + 1 + 1 - (s + 2) = m - s by omega]
        have : m * (e + (s + 2)) = m * e + m * s + 2 * m := by grind
        have : (m + 1) * s = m * s + s := by grind
        omega
      rw [e2, P.pern]
    rw [e1]
    exact fun o => P.off _ (n + 1 - t) (by omega) (by omega) o.swap
  · rw [(rv_next P e).1, (rv_next P e).2, (rv_next P f).1, (rv_next P f).2]
    exact fun c => P.nox _ _ c.swap.flip.swap.flip
theorem sm_rev (f : Nat → Int) : ∀ n, sm (fun t => f (n - 1 - t)) 0 n = sm f 0 n
  | 0 => rfl
  | n + 1 => by
    rw [sm_head]
    show f (n + 1 - 1 - 0) + sm (fun t => f (n + 1 - 1 - t)) (0 + 1) n = sm f 0 n + f (0 + n)
    have s := sm_shift (f := fun t => f (n + 1 - 1 - t)) (g := fun t => f (n - 1 - t)) (0 + 1) 0 n fun t _ => by
      show f (n + 1 - 1 - (0 + 1 + t)) = f (n - 1 - (0 + t))
      rw [show n + 1 - 1 - (0 + 1 + t) = n - 1 - (0 + t) by omega]
    rw [s, sm_rev f n, show n + 1 - 1 - 0 = 0 + n by omega]
    omega
theorem sm_neg (f : Nat → Int) (i : Nat) : ∀ n, sm (fun e => -f e) i n = -sm f i n
  | 0 => rfl
  | n + 1 => by
    show sm (fun e => -f e) i n + -f (i + n) = -(sm f i n + f (i + n))
    rw [sm_neg f i n]
    omega
theorem Poly.arev {n : Nat} {p : Nat → Pt} (P : Poly n p) : area n (Fg.rv n p) = -area n p := by
  have h3 := P.three
  unfold area
  rw [← sm_neg, ← sm_rev (fun e => -tn (0, 0) (p e) (p (e + 1))) n]
  refine sm_congr 0 n fun t ht => ?_
  show tn (0, 0) (Fg.rv n p (0 + t)) (Fg.rv n p (0 + t + 1)) = -tn (0, 0) (p (n - 1 - (0 + t))) (p (n - 1 - (0 + t) + 1))
  rw [(rv_next P (0 + t)).1, (rv_next P (0 + t)).2]
  have e1 : (n - 1) * (0 + t) + (n - 1) = (n - 1 - (0 + t)) + n * t := by
    obtain ⟨m, rfl⟩ : ∃ m, n = m + 1 := ⟨n - 1, by omega⟩
    rw [show m + 1 - 1 = m by omega, Nat.zero_add]
    have : (m + 1) * t = m * t + t := by grind
    omega
  rw [e1, P.pern, show n - 1 - (0 + t) + n * t + 1 = n - 1 - (0 + t) + 1 + n * t by omega, P.pern, tn_swap2]
/-- the size tells the way round -/
theorem Poly.way {n : Nat} {p : Nat → Pt} (P : Poly n p) (h : 0 < area n p) : Kk n p 0 = 0 := by
  have h3 := P.three
  have R := P.rv
  obtain ⟨a, low⟩ := R.lowest
  -- the same corner of p
  have er : ∀ t, t ≤ n → Fg.rv n p (a + (n - t)) = p ((n - 1) * a + t) := by
    intro t ht
    show p ((n - 1) * (a + (n - t))) = _
    rcases Nat.lt_or_ge t n with k | k
    · have e : (n - 1) * (a + (n - t)) = (n - 1) * a + t + n * (n - t - 1) := by
        obtain ⟨m, rfl⟩ : ∃ m, n = m + 1 := ⟨n - 1, by omega⟩
        obtain ⟨s, hs⟩ : ∃ s, m = t + s := ⟨m - t, by omega⟩
        subst hs
        rw [show t + s + 1 - 1 = t + s by omega, show t + s + 1 - t = s + 1 by omega, show s + 1 - 1 = s by omega]
        grind
      rw [e, P.pern]
    · have : t = n := by omega
      subst this
      rw [Nat.sub_self, Nat.add_zero, P.per]
  have lowp : ∀ t, 1 ≤ t → t < n → up (p ((n - 1) * a)) (p ((n - 1) * a + t)) := fun t h1 h2 => by
    have := low (n - t) (by omega) (by omega)
    rw [er t (by omega)] at this
    exact this
  obtain ⟨i1, i2, i3⟩ := P.lowTurn lowp
  obtain ⟨j1, j2, j3⟩ := R.lowTurn low
  have e1 : Fg.rv n p (a + n - 1) = p ((n - 1) * a + 1) := by
    have := er 1 (by omega)
    rw [show a + (n - 1) = a + n - 1 by omega] at this
    exact this
  have e2 : Fg.rv n p (a + 1) = p ((n - 1) * a + n - 1) := by
    have := er (n - 1) (by omega)
    rw [show n - (n - 1) = 1 by omega, show (n - 1) * a + (n - 1) = (n - 1) * a + n - 1 by omega] at this
    exact this
  have e3 : Fg.rv n p a = p ((n - 1) * a) := rfl
  rcases i2 with k | k
  · rw [P.all 0 ((n - 1) * a)]
    exact k
  · exfalso
    have n1 : ¬ 0 < tn (p ((n - 1) * a + n - 1)) (p ((n - 1) * a)) (p ((n - 1) * a + 1)) := fun z => by
      have := i1.mpr z
      omega
    have p1 : 0 < tn (Fg.rv n p (a + n - 1)) (Fg.rv n p a) (Fg.rv n p (a + 1)) := by
      rw [e1, e2, e3]
      have t : tn (p ((n - 1) * a + 1)) (p ((n - 1) * a)) (p ((n - 1) * a + n - 1)) = -tn (p ((n - 1) * a + n - 1)) (p ((n - 1) * a)) (p ((n - 1) * a + 1)) := by
        unfold tn; grind
      omega
    have z := Poly.pos n _ R (by rw [R.all 0 a]; exact j1.mpr p1)
    rw [P.arev] at z
    omega
end Fg

set_option Elab.async false
set_option linter.all false
namespace Fg
theorem onS_iff (z a b : Pt) : onS z a b = true ↔ On z a b := by
  unfold onS On btw
  by_cases h : tn a b z = 0
  · simp [h]
    constructor
    · rintro ⟨⟨h1, h2⟩, h3, h4⟩
      exact ⟨h1, h2, h3, h4⟩
    · rintro ⟨h1, h2, h3, h4⟩
      exact ⟨⟨h1, h2⟩, h3, h4⟩
  · simp [h]
theorem smeet_iff (l : List Pt) (i j : Nat) : smeet l i j = false ↔ Free4 (gt l i) (gt l (i + 1)) (gt l j) (gt l (j + 1)) := by
  unfold smeet Free4 Cross
  dsimp only
  rw [← onS_iff, ← onS_iff, ← onS_iff, ← onS_iff]
  cases onS (gt l i) (gt l j) (gt l (j + 1)) <;> cases onS (gt l (i + 1)) (gt l j) (gt l (j + 1)) <;> cases onS (gt l j) (gt l i) (gt l (i + 1)) <;> cases onS (gt l (j + 1)) (gt l i) (gt l (i + 1)) <;> simp
theorem gt_per (l : List Pt) (k : Nat) : gt l (k + l.length) = gt l k := gt_add l k
/-- two sides with one between at least -/
theorem apart_far {l : List Pt} (h3 : 3 ≤ l.length) (h : apart l = true) (e t : Nat) (h1 : 2 ≤ t) (h2 : t + 2 ≤ l.length) : Free4 (gt l e) (gt l (e + 1)) (gt l (e + t)) (gt l (e + t + 1)) := by
  unfold apart at h
  simp only [List.all_eq_true, List.mem_range, Bool.or_eq_true, decide_eq_true_eq, Bool.not_eq_true'] at h
  have hn : 0 < l.length := by omega
  have m1 := Nat.mod_lt e hn
  have g1 : ∀ d, gt l (e + d) = gt l (e % l.length + d) := fun d => by
    unfold gt
    rw [Nat.mod_add_mod]
  rw [show gt l e = gt l (e % l.length) from g1 0, g1 1, g1 t, show e + t + 1 = e + (t + 1) by omega, g1 (t + 1)]
  generalize e % l.length = i at *
  by_cases k : i + t < l.length
  · have q := h i m1 (i + t) k
    have q2 : smeet l i (i + t) = false := by
      rcases q with (q | q) | q
      · omega
      · exfalso
        by_cases z : i + t + 1 = l.length
        · rw [z, Nat.mod_self] at q; omega
        · rw [Nat.mod_eq_of_lt (by omega)] at q; omega
      · exact q
    exact (smeet_iff l i (i + t)).mp q2
  · have q := h (i + t - l.length) (by omega) i m1
    have q2 : smeet l (i + t - l.length) i = false := by
      rcases q with (q | q) | q
      · omega
      · exfalso
        by_cases z : i + 1 = l.length
        · rw [z, Nat.mod_self] at q; omega
        · rw [Nat.mod_eq_of_lt (by omega)] at q; omega
      · exact q
    obtain ⟨f1, f2, f3, f4, f5⟩ := (smeet_iff l _ _).mp q2
    rw [show i + t = (i + t - l.length) + l.length by omega, gt_per, show i + (t + 1) = (i + t - l.length + 1) + l.length by omega, gt_per]
    exact ⟨f3, f4, f1, f2, fun z => f5 z.flip⟩
theorem tEv_at {l : List Pt} (hn : 0 < l.length) (h : tEv l = true) (k : Nat) : tn (gt l k) (gt l (k + 1)) (gt l (k + 2)) ≠ 0 := by
  unfold tEv at h
  simp only [List.all_eq_true, List.mem_range, decide_eq_true_eq] at h
  have m1 := Nat.mod_lt (k + 1) hn
  have q := h ((k + 1) % l.length) m1
  have e1 : gt l ((k + 1) % l.length + l.length - 1) = gt l k := by
    have hm := Nat.mod_add_div (k + 1) l.length
    refine gt_congr ?_
    generalize (k + 1) % l.length = c at *
    cases c with
    | zero =>
      have hq : (k + 1) / l.length ≠ 0 := fun z => by rw [z] at hm; simp at hm
      obtain ⟨d, hd⟩ := Nat.exists_eq_succ_of_ne_zero hq
      rw [hd, Nat.mul_succ] at hm
      rw [show k = (0 + l.length - 1) + l.length * d by omega, Nat.add_mul_mod_self_left]
    | succ c =>
      rw [show c + 1 + l.length - 1 = c + l.length by omega, Nat.add_mod_right, show k = c + l.length * ((k + 1) / l.length) by omega, Nat.add_mul_mod_self_left]
  have e2 : gt l ((k + 1) % l.length) = gt l (k + 1) := gt_mod l _
  have e3 : gt l ((k + 1) % l.length + 1) = gt l (k + 2) := by
    refine gt_congr ?_
    rw [Nat.mod_add_mod]
  rw [e1, e2, e3] at q
  exact q
theorem fig_poly {l : List Pt} (h3 : 3 ≤ l.length) (h1 : tEv l = true) (h2 : apart l = true) : Poly l.length (gt l) := by
  have ev := tEv_at (by omega) h1
  have off : ∀ e t, 2 ≤ t → t + 1 ≤ l.length → ¬On (gt l (e + t)) (gt l e) (gt l (e + 1)) := by
    intro e t a b o
    by_cases c1 : t = 2
    · subst c1
      exact ev e o.1
    · by_cases c2 : t + 1 = l.length
      · have := ev (e + t)
        rw [show e + t + 1 = e + l.length by omega, gt_per, show e + t + 2 = e + 1 + l.length by omega, gt_per] at this
        exact this ((tn_cyc _ _ _).symm.trans o.1)
      · exact (apart_far h3 h2 e t a (by omega)).1 o
  refine ⟨h3, gt_per l, fun k z => ?_, off, fun e f c => ?_⟩
  · refine ev k ?_
    rw [z, tn_self1]
  · -- any two sides
    have rep : ∃ t, t < l.length ∧ gt l f = gt l (e + t) ∧ gt l (f + 1) = gt l (e + t + 1) := by
      have hn : 0 < l.length := by omega
      have pern : ∀ k c, gt l (k + l.length * c) = gt l k := fun k c => by
        unfold gt
        rw [Nat.add_mul_mod_self_left]
      have h1 : e ≤ l.length * e := Nat.le_mul_of_pos_left e hn
      have h2 := Nat.mod_add_div (f + l.length * e - e) l.length
      refine ⟨(f + l.length * e - e) % l.length, Nat.mod_lt _ hn, ?_, ?_⟩
      · have h3 := pern (e + (f + l.length * e - e) % l.length) ((f + l.length * e - e) / l.length)
        rw [← h3, ← pern f e]
        congr 1
        omega
      · have h3 := pern (e + (f + l.length * e - e) % l.length + 1) ((f + l.length * e - e) / l.length)
        rw [← h3, ← pern (f + 1) e]
        congr 1
        omega
    obtain ⟨t, ht, r1, r2⟩ := rep
    rw [r1, r2] at c
    by_cases t0 : t = 0
    · subst t0
      obtain ⟨c1, _⟩ := c
      rw [tn_self3] at c1
      simp at c1
    · by_cases t1 : t = 1
      · subst t1
        obtain ⟨c1, _⟩ := c
        rw [tn_self3] at c1
        simp at c1
      · by_cases t2 : t + 1 = l.length
        · obtain ⟨c1, _⟩ := c
          rw [show e + t + 1 = e + l.length by omega, gt_per, tn_self2] at c1
          simp at c1
        · exact (apart_far h3 h2 e t (by omega) (by omega)).2.2.2.2 c
theorem sum_sm (f : Nat → Int) : ∀ n, ((List.range n).map f).sum = sm f 0 n
  | 0 => rfl
  | n + 1 => by
    rw [List.range_succ, List.map_append, List.sum_append, sum_sm f n]
    show sm f 0 n + (f n + 0) = sm f 0 n + f (0 + n)
    rw [Nat.zero_add]
    omega
theorem tw_area (l : List Pt) : tw l = area l.length (gt l) := sum_sm _ _
/-- what holds of a figure, and of what is left of it -/
def Inv (l : List Pt) : Prop := Poly l.length (gt l) ∧ Kk l.length (gt l) 0 = 0
theorem ear_iff {l : List Pt} (k : Nat) : ear l k = true ↔ EarAt l.length (gt l) k := by
  unfold ear EarAt
  by_cases h : tn (gt l (k + l.length - 1)) (gt l k) (gt l (k + 1)) ≤ 0
  · rw [if_pos h]
    simp
    intro z
    omega
  · rw [if_neg h, Bool.not_eq_true', List.any_eq_false]
    unfold others
    simp only [List.mem_map, List.mem_range]
    have it : ∀ z, (¬inTri (gt l (k + l.length - 1)) (gt l k) (gt l (k + 1)) z = true) ↔ ¬inT (gt l (k + l.length - 1)) (gt l k) (gt l (k + 1)) z := fun z => by
      unfold inTri inT
      simp only [Bool.and_eq_true, decide_eq_true_eq]
    constructor
    · intro q
      refine ⟨by omega, fun t h1 h2 => ?_⟩
      have := q (gt l (k + t)) ⟨t - 2, by omega, by rw [show k + 2 + (t - 2) = k + t by omega]⟩
      exact (it _).mp this
    · rintro ⟨_, q⟩ z ⟨s, hs, rfl⟩
      have := q (2 + s) (by omega) (by omega)
      rw [show k + (2 + s) = k + 2 + s by omega] at this
      exact (it _).mpr this
theorem erase_gt {l : List Pt} {i : Nat} (hi : i < l.length) (h2 : 2 ≤ l.length) : gt (l.eraseIdx i) = fun t => sub (gt l) (i + 1) (l.length - 2) (l.length - 1 - i + t) := by
  have hl : (l.eraseIdx i).length = l.length - 1 := List.length_eraseIdx_of_lt hi
  funext t
  unfold sub
  rw [show l.length - 2 + 1 = l.length - 1 by omega]
  have hn : 0 < l.length - 1 := by omega
  have e1 : gt (l.eraseIdx i) t = gt (l.eraseIdx i) (t % (l.length - 1)) := by
    refine gt_congr ?_
    rw [hl, Nat.mod_mod]
  have e2 : (l.length - 1 - i + t) % (l.length - 1) = (l.length - 1 - i + t % (l.length - 1)) % (l.length - 1) := (Nat.add_mod_mod ..).symm
  rw [e1, e2]
  have m := Nat.mod_lt t hn
  generalize t % (l.length - 1) = c at *
  unfold gt
  rw [hl, Nat.mod_eq_of_lt m, List.getD_eq_getElem?_getD, List.getD_eq_getElem?_getD, List.getElem?_eraseIdx]
  by_cases k : c < i
  · rw [if_pos k, Nat.mod_eq_of_lt (show l.length - 1 - i + c < l.length - 1 by omega), show i + 1 + (l.length - 1 - i + c) = c + l.length by omega, Nat.add_mod_right, Nat.mod_eq_of_lt (by omega)]
  · rw [if_neg k, show l.length - 1 - i + c = (c - i) + (l.length - 1) by omega, Nat.add_mod_right, Nat.mod_eq_of_lt (show c - i < l.length - 1 by omega), show i + 1 + (c - i) = c + 1 by omega, Nat.mod_eq_of_lt (show c + 1 < l.length by omega)]
theorem Inv.step {l : List Pt} (I : Inv l) (h : 3 < l.length) : ∃ i, fstEar l = some i ∧ Inv (l.eraseIdx i) := by
  obtain ⟨P, h0⟩ := I
  obtain ⟨k, hk, E⟩ := P.ear h0
  have fe : ∃ i, fstEar l = some i := by
    cases e : fstEar l with
    | some i => exact ⟨i, rfl⟩
    | none =>
      unfold fstEar at e
      rw [List.find?_eq_none] at e
      exact absurd ((ear_iff k).mpr E) (e k (List.mem_range.mpr hk))
  obtain ⟨i, hi⟩ := fe
  refine ⟨i, hi, ?_⟩
  have hil := fstEar_lt hi
  have E2 : EarAt l.length (gt l) i := (ear_iff i).mp (List.find?_some hi)
  obtain ⟨Q, hQ⟩ := P.cut (by omega) h0 E2
  have hl : (l.eraseIdx i).length = l.length - 1 := List.length_eraseIdx_of_lt hil
  unfold Inv
  rw [hl, erase_gt hil (by omega)]
  refine ⟨Q.shift _, ?_⟩
  rw [Kk_shift (by omega), Q.all _ 0]
  exact hQ
theorem Inv.ears : ∀ (k : Nat) (l : List Pt), Inv l → l.length ≤ k + 3 → allEars (k + 1) l
  | 0, l, _, h => .inl h
  | k + 1, l, I, h => by
    by_cases c : l.length ≤ 3
    · exact .inl c
    · obtain ⟨i, h1, h2⟩ := I.step (by omega)
      refine .inr ⟨i, h1, Inv.ears k _ h2 ?_⟩
      rw [List.length_eraseIdx_of_lt (fstEar_lt h1)]
      omega
theorem fig_inv {f : List Int} (h : fig f = true) : Inv (prs f) ∧ 3 ≤ (prs f).length := by
  unfold fig form at h
  simp only [Bool.and_eq_true, decide_eq_true_eq] at h
  obtain ⟨⟨⟨_, h6, _⟩, _⟩, ⟨hE, hA⟩, hT⟩ := h
  have h3 : 3 ≤ (prs f).length := by
    rw [prs_length]
    omega
  have P := fig_poly h3 hE hA
  refine ⟨⟨P, P.way ?_⟩, h3⟩
  rw [← tw_area]
  exact hT
theorem fig_ears (f : List Int) (h : fig f = true) : allEars (prs f).length (prs f) := by
  obtain ⟨I, h3⟩ := fig_inv h
  obtain ⟨k, hk⟩ : ∃ k, (prs f).length = k + 1 := ⟨(prs f).length - 1, by omega⟩
  have := I.ears k _ (by omega)
  rw [← hk] at this
  exact this
end Fg

set_option Elab.async false
set_option linter.all false
set_option maxRecDepth 100000
set_option maxHeartbeats 2000000
namespace Fg
open PySem PySem.Spec PyProof.Rows L2
open PySem.W (Codec)
/-! ### what the top has written -/
theorem all_mk {P : Program} {w : World} {K : PySem.W.Frag} {h : Heap} {mg : Str → Option Value} {fa f0 f1 f2 f3 f4 f5 f6 f7 f8 f9 f10 f11 f12 f13 f14 f15 f16 f17 f18 f19 : Addr} (X : K.In h) (G : h.Ns mainGlobals mg) (hfa : mg "triangles" = some (.ref fa))
    {od0 an0 od1 an1 od2 an2 od3 an3 od4 an4 od5 an5 od6 an6 od7 an7 od8 an8 od9 an9 od10 an10 od11 an11 od12 an12 od13 an13 od14 an14 od15 an15 od16 an16 od17 an17 od18 an18 od19 an19 : Option Addr} {sl0 sl1 sl2 sl3 sl4 sl5 sl6 sl7 sl8 sl9 sl10 sl11 sl12 sl13 sl14 sl15 sl16 sl17 sl18 sl19 : Array (Option Value)} {oc0 kV0 dc0 pm0 cd0 ct0 oc1 kV1 dc1 pm1 cd1 ct1 oc2 kV2 dc2 pm2 cd2 ct2 oc3 kV3 dc3 pm3 cd3 ct3 oc4 kV4 dc4 pm4 cd4 ct4 oc5 kV5 dc5 pm5 cd5 ct5 oc6 kV6 dc6 pm6 cd6 ct6 oc7 kV7 dc7 pm7 cd7 ct7 oc8 kV8 dc8 pm8 cd8 ct8 oc9 kV9 dc9 pm9 cd9 ct9 oc10 kV10 dc10 pm10 cd10 ct10 oc11 kV11 dc11 pm11 cd11 ct11 oc12 kV12 dc12 pm12 cd12 ct12 oc13 kV13 dc13 pm13 cd13 ct13 oc14 kV14 dc14 pm14 cd14 ct14 oc15 kV15 dc15 pm15 cd15 ct15 oc16 kV16 dc16 pm16 cd16 ct16 oc17 kV17 dc17 pm17 cd17 ct17 oc18 kV18 dc18 pm18 cd18 ct18 oc19 kV19 dc19 pm19 cd19 ct19 : Value} {tk0 tk1 tk2 tk3 : Tok}
    (a0 : PySem.W.nsIn K mainGlobals "is_figure" = some (some (.ref f0))) (l0 : K.lookup f0 = some ⟨oc0, od0, .func (PySem.W.fnOf "is_figure" "is_figure" (defArgs sFig) (defBody sFig) (defScope sFig) .none kV0 dc0 pm0 an0 cd0 ct0), sl0⟩) (c0 : PySem.W.codeIn K cd0 "is_figure" = true) (k0 : PySem.W.keepIn K (.ref f0) = true)
    (a1 : PySem.W.nsIn K mainGlobals "has_form_of_figure" = some (some (.ref f1))) (l1 : K.lookup f1 = some ⟨oc1, od1, .func (PySem.W.fnOf "has_form_of_figure" "has_form_of_figure" (defArgs sForm) (defBody sForm) (defScope sForm) .none kV1 dc1 pm1 an1 cd1 ct1), sl1⟩) (c1 : PySem.W.codeIn K cd1 "has_form_of_figure" = true) (k1 : PySem.W.keepIn K (.ref f1) = true)
    (a2 : PySem.W.nsIn K mainGlobals "corners_of" = some (some (.ref f2))) (l2 : K.lookup f2 = some ⟨oc2, od2, .func (PySem.W.fnOf "corners_of" "corners_of" (defArgs sCorners) (defBody sCorners) (defScope sCorners) .none kV2 dc2 pm2 an2 cd2 ct2), sl2⟩) (c2 : PySem.W.codeIn K cd2 "corners_of" = true) (k2 : PySem.W.keepIn K (.ref f2) = true)
    (a3 : PySem.W.nsIn K mainGlobals "row_of" = some (some (.ref f3))) (l3 : K.lookup f3 = some ⟨oc3, od3, .func (PySem.W.fnOf "row_of" "row_of" (defArgs sRow) (defBody sRow) (defScope sRow) .none kV3 dc3 pm3 an3 cd3 ct3), sl3⟩) (c3 : PySem.W.codeIn K cd3 "row_of" = true) (k3 : PySem.W.keepIn K (.ref f3) = true)
    (a4 : PySem.W.nsIn K mainGlobals "corner_before" = some (some (.ref f4))) (l4 : K.lookup f4 = some ⟨oc4, od4, .func (PySem.W.fnOf "corner_before" "corner_before" (defArgs sBefore) (defBody sBefore) (defScope sBefore) .none kV4 dc4 pm4 an4 cd4 ct4), sl4⟩) (c4 : PySem.W.codeIn K cd4 "corner_before" = true) (k4 : PySem.W.keepIn K (.ref f4) = true)
    (a5 : PySem.W.nsIn K mainGlobals "corner_after" = some (some (.ref f5))) (l5 : K.lookup f5 = some ⟨oc5, od5, .func (PySem.W.fnOf "corner_after" "corner_after" (defArgs sAfter) (defBody sAfter) (defScope sAfter) .none kV5 dc5 pm5 an5 cd5 ct5), sl5⟩) (c5 : PySem.W.codeIn K cd5 "corner_after" = true) (k5 : PySem.W.keepIn K (.ref f5) = true)
    (a6 : PySem.W.nsIn K mainGlobals "turn" = some (some (.ref f6))) (l6 : K.lookup f6 = some ⟨oc6, od6, .func (PySem.W.fnOf "turn" "turn" (defArgs sTurn) (defBody sTurn) (defScope sTurn) .none kV6 dc6 pm6 an6 cd6 ct6), sl6⟩) (c6 : PySem.W.codeIn K cd6 "turn" = true) (k6 : PySem.W.keepIn K (.ref f6) = true)
    (a7 : PySem.W.nsIn K mainGlobals "triangle_at" = some (some (.ref f7))) (l7 : K.lookup f7 = some ⟨oc7, od7, .func (PySem.W.fnOf "triangle_at" "triangle_at" (defArgs sTriAt) (defBody sTriAt) (defScope sTriAt) .none kV7 dc7 pm7 an7 cd7 ct7), sl7⟩) (c7 : PySem.W.codeIn K cd7 "triangle_at" = true) (k7 : PySem.W.keepIn K (.ref f7) = true)
    (a8 : PySem.W.nsIn K mainGlobals "turn_at" = some (some (.ref f8))) (l8 : K.lookup f8 = some ⟨oc8, od8, .func (PySem.W.fnOf "turn_at" "turn_at" (defArgs sTurnAt) (defBody sTurnAt) (defScope sTurnAt) .none kV8 dc8 pm8 an8 cd8 ct8), sl8⟩) (c8 : PySem.W.codeIn K cd8 "turn_at" = true) (k8 : PySem.W.keepIn K (.ref f8) = true)
    (a9 : PySem.W.nsIn K mainGlobals "turns_everywhere" = some (some (.ref f9))) (l9 : K.lookup f9 = some ⟨oc9, od9, .func (PySem.W.fnOf "turns_everywhere" "turns_everywhere" (defArgs sTurnsEv) (defBody sTurnsEv) (defScope sTurnsEv) .none kV9 dc9 pm9 an9 cd9 ct9), sl9⟩) (c9 : PySem.W.codeIn K cd9 "turns_everywhere" = true) (k9 : PySem.W.keepIn K (.ref f9) = true)
    (a10 : PySem.W.nsIn K mainGlobals "twice_size" = some (some (.ref f10))) (l10 : K.lookup f10 = some ⟨oc10, od10, .func (PySem.W.fnOf "twice_size" "twice_size" (defArgs sTwice) (defBody sTwice) (defScope sTwice) .none kV10 dc10 pm10 an10 cd10 ct10), sl10⟩) (c10 : PySem.W.codeIn K cd10 "twice_size" = true) (k10 : PySem.W.keepIn K (.ref f10) = true)
    (a11 : PySem.W.nsIn K mainGlobals "sides_keep_apart" = some (some (.ref f11))) (l11 : K.lookup f11 = some ⟨oc11, od11, .func (PySem.W.fnOf "sides_keep_apart" "sides_keep_apart" (defArgs sApart) (defBody sApart) (defScope sApart) .none kV11 dc11 pm11 an11 cd11 ct11), sl11⟩) (c11 : PySem.W.codeIn K cd11 "sides_keep_apart" = true) (k11 : PySem.W.keepIn K (.ref f11) = true)
    (a12 : PySem.W.nsIn K mainGlobals "sides_meet" = some (some (.ref f12))) (l12 : K.lookup f12 = some ⟨oc12, od12, .func (PySem.W.fnOf "sides_meet" "sides_meet" (defArgs sMeet) (defBody sMeet) (defScope sMeet) .none kV12 dc12 pm12 an12 cd12 ct12), sl12⟩) (c12 : PySem.W.codeIn K cd12 "sides_meet" = true) (k12 : PySem.W.keepIn K (.ref f12) = true)
    (a13 : PySem.W.nsIn K mainGlobals "lies_on_side" = some (some (.ref f13))) (l13 : K.lookup f13 = some ⟨oc13, od13, .func (PySem.W.fnOf "lies_on_side" "lies_on_side" (defArgs sOn) (defBody sOn) (defScope sOn) .none kV13 dc13 pm13 an13 cd13 ct13), sl13⟩) (c13 : PySem.W.codeIn K cd13 "lies_on_side" = true) (k13 : PySem.W.keepIn K (.ref f13) = true)
    (a14 : PySem.W.nsIn K mainGlobals "is_between" = some (some (.ref f14))) (l14 : K.lookup f14 = some ⟨oc14, od14, .func (PySem.W.fnOf "is_between" "is_between" (defArgs sBetween) (defBody sBetween) (defScope sBetween) .none kV14 dc14 pm14 an14 cd14 ct14), sl14⟩) (c14 : PySem.W.codeIn K cd14 "is_between" = true) (k14 : PySem.W.keepIn K (.ref f14) = true)
    (a15 : PySem.W.nsIn K mainGlobals "cut_up" = some (some (.ref f15))) (l15 : K.lookup f15 = some ⟨oc15, od15, .func (PySem.W.fnOf "cut_up" "cut_up" (defArgs sCutUp) (defBody sCutUp) (defScope sCutUp) .none kV15 dc15 pm15 an15 cd15 ct15), sl15⟩) (c15 : PySem.W.codeIn K cd15 "cut_up" = true) (k15 : PySem.W.keepIn K (.ref f15) = true)
    (a16 : PySem.W.nsIn K mainGlobals "first_ear" = some (some (.ref f16))) (l16 : K.lookup f16 = some ⟨oc16, od16, .func (PySem.W.fnOf "first_ear" "first_ear" (defArgs sFirst) (defBody sFirst) (defScope sFirst) .none kV16 dc16 pm16 an16 cd16 ct16), sl16⟩) (c16 : PySem.W.codeIn K cd16 "first_ear" = true) (k16 : PySem.W.keepIn K (.ref f16) = true)
    (a17 : PySem.W.nsIn K mainGlobals "is_ear" = some (some (.ref f17))) (l17 : K.lookup f17 = some ⟨oc17, od17, .func (PySem.W.fnOf "is_ear" "is_ear" (defArgs sEar) (defBody sEar) (defScope sEar) .none kV17 dc17 pm17 an17 cd17 ct17), sl17⟩) (c17 : PySem.W.codeIn K cd17 "is_ear" = true) (k17 : PySem.W.keepIn K (.ref f17) = true)
    (a18 : PySem.W.nsIn K mainGlobals "lies_in_triangle" = some (some (.ref f18))) (l18 : K.lookup f18 = some ⟨oc18, od18, .func (PySem.W.fnOf "lies_in_triangle" "lies_in_triangle" (defArgs sIn) (defBody sIn) (defScope sIn) .none kV18 dc18 pm18 an18 cd18 ct18), sl18⟩) (c18 : PySem.W.codeIn K cd18 "lies_in_triangle" = true) (k18 : PySem.W.keepIn K (.ref f18) = true)
    (a19 : PySem.W.nsIn K mainGlobals "triangles" = some (some (.ref f19))) (l19 : K.lookup f19 = some ⟨oc19, od19, .func (PySem.W.fnOf "triangles" "triangles" (defArgs sTri) (defBody sTri) (defScope sTri) .none kV19 dc19 pm19 an19 cd19 ct19), sl19⟩) (c19 : PySem.W.codeIn K cd19 "triangles" = true) (k19 : PySem.W.keepIn K (.ref f19) = true)
    (n0 : PySem.W.nsIn K mainGlobals "FEWEST_CORNERS" = some (some (.int 3 tk0)))
    (n1 : PySem.W.nsIn K mainGlobals "MOST_CORNERS" = some (some (.int 8 tk1)))
    (n2 : PySem.W.nsIn K mainGlobals "FARTHEST" = some (some (.int 50 tk2)))
    (n3 : PySem.W.nsIn K mainGlobals "NOT_AS_TOLD" = some (some (.int (-22) tk3)))
    (z0 : PySem.W.nsIn K mainGlobals "len" = some none)
    (z1 : PySem.W.nsIn K mainGlobals "range" = some none)
    (z2 : PySem.W.nsIn K mainGlobals "all" = some none)
    (z3 : PySem.W.nsIn K mainGlobals "sum" = some none)
    (z4 : PySem.W.nsIn K mainGlobals "abs" = some none)
    (z5 : PySem.W.nsIn K mainGlobals "min" = some none)
    (z6 : PySem.W.nsIn K mainGlobals "max" = some none)
    (z7 : PySem.W.nsIn K mainGlobals "any" = some none)
    (z8 : PySem.W.nsIn K mainGlobals "list" = some none)
    : ∃ fd : FuncData, (∀ (s : Shared) (us : List Value), us.length = (["f"] : List Str).length → BindsTo s fd ⟨us, []⟩ ((["f"] : List Str).zip us)) ∧ ∀ base : Heap, K.In base → base.Ns mainGlobals mg → FnOk P w K mg base CX0 6 fa fd ["f"] (spTri K) := by
  have e := hfa.symm.trans (PySem.W.mg_of X G a19)
  cases e
  have F0 := fun_mk (st := sFig) l0 c0 k0
  have b0 := F0.binds (ps := ["f"]) fun _ _ _ _ _ _ us hl => match us, hl with | [_], _ => rfl
  have g0 := PySem.W.mg_of X G a0
  have F1 := fun_mk (st := sForm) l1 c1 k1
  have b1 := F1.binds (ps := ["f"]) fun _ _ _ _ _ _ us hl => match us, hl with | [_], _ => rfl
  have g1 := PySem.W.mg_of X G a1
  have F2 := fun_mk (st := sCorners) l2 c2 k2
  have b2 := F2.binds (ps := ["f"]) fun _ _ _ _ _ _ us hl => match us, hl with | [_], _ => rfl
  have g2 := PySem.W.mg_of X G a2
  have F3 := fun_mk (st := sRow) l3 c3 k3
  have b3 := F3.binds (ps := ["corners"]) fun _ _ _ _ _ _ us hl => match us, hl with | [_], _ => rfl
  have g3 := PySem.W.mg_of X G a3
  have F4 := fun_mk (st := sBefore) l4 c4 k4
  have b4 := F4.binds (ps := ["corners", "k"]) fun _ _ _ _ _ _ us hl => match us, hl with | [_, _], _ => rfl
  have g4 := PySem.W.mg_of X G a4
  have F5 := fun_mk (st := sAfter) l5 c5 k5
  have b5 := F5.binds (ps := ["corners", "k"]) fun _ _ _ _ _ _ us hl => match us, hl with | [_, _], _ => rfl
  have g5 := PySem.W.mg_of X G a5
  have F6 := fun_mk (st := sTurn) l6 c6 k6
  have b6 := F6.binds (ps := ["a", "b", "c"]) fun _ _ _ _ _ _ us hl => match us, hl with | [_, _, _], _ => rfl
  have g6 := PySem.W.mg_of X G a6
  have F7 := fun_mk (st := sTriAt) l7 c7 k7
  have b7 := F7.binds (ps := ["corners", "k"]) fun _ _ _ _ _ _ us hl => match us, hl with | [_, _], _ => rfl
  have g7 := PySem.W.mg_of X G a7
  have F8 := fun_mk (st := sTurnAt) l8 c8 k8
  have b8 := F8.binds (ps := ["corners", "k"]) fun _ _ _ _ _ _ us hl => match us, hl with | [_, _], _ => rfl
  have g8 := PySem.W.mg_of X G a8
  have F9 := fun_mk (st := sTurnsEv) l9 c9 k9
  have b9 := F9.binds (ps := ["corners"]) fun _ _ _ _ _ _ us hl => match us, hl with | [_], _ => rfl
  have g9 := PySem.W.mg_of X G a9
  have F10 := fun_mk (st := sTwice) l10 c10 k10
  have b10 := F10.binds (ps := ["corners"]) fun _ _ _ _ _ _ us hl => match us, hl with | [_], _ => rfl
  have g10 := PySem.W.mg_of X G a10
  have F11 := fun_mk (st := sApart) l11 c11 k11
  have b11 := F11.binds (ps := ["corners"]) fun _ _ _ _ _ _ us hl => match us, hl with | [_], _ => rfl
  have g11 := PySem.W.mg_of X G a11
  have F12 := fun_mk (st := sMeet) l12 c12 k12
  have b12 := F12.binds (ps := ["corners", "i", "j"]) fun _ _ _ _ _ _ us hl => match us, hl with | [_, _, _], _ => rfl
  have g12 := PySem.W.mg_of X G a12
  have F13 := fun_mk (st := sOn) l13 c13 k13
  have b13 := F13.binds (ps := ["point", "a", "b"]) fun _ _ _ _ _ _ us hl => match us, hl with | [_, _, _], _ => rfl
  have g13 := PySem.W.mg_of X G a13
  have F14 := fun_mk (st := sBetween) l14 c14 k14
  have b14 := F14.binds (ps := ["number", "one", "other"]) fun _ _ _ _ _ _ us hl => match us, hl with | [_, _, _], _ => rfl
  have g14 := PySem.W.mg_of X G a14
  have F15 := fun_mk (st := sCutUp) l15 c15 k15
  have b15 := F15.binds (ps := ["corners"]) fun _ _ _ _ _ _ us hl => match us, hl with | [_], _ => rfl
  have g15 := PySem.W.mg_of X G a15
  have F16 := fun_mk (st := sFirst) l16 c16 k16
  have b16 := F16.binds (ps := ["corners"]) fun _ _ _ _ _ _ us hl => match us, hl with | [_], _ => rfl
  have g16 := PySem.W.mg_of X G a16
  have F17 := fun_mk (st := sEar) l17 c17 k17
  have b17 := F17.binds (ps := ["corners", "k"]) fun _ _ _ _ _ _ us hl => match us, hl with | [_, _], _ => rfl
  have g17 := PySem.W.mg_of X G a17
  have F18 := fun_mk (st := sIn) l18 c18 k18
  have b18 := F18.binds (ps := ["point", "triangle"]) fun _ _ _ _ _ _ us hl => match us, hl with | [_, _], _ => rfl
  have g18 := PySem.W.mg_of X G a18
  have F19 := fun_mk (st := sTri) l19 c19 k19
  have b19 := F19.binds (ps := ["f"]) fun _ _ _ _ _ _ us hl => match us, hl with | [_], _ => rfl
  have g19 := PySem.W.mg_of X G a19
  have C : Co mg := ⟨⟨_, PySem.W.mg_of X G n3⟩, ⟨_, PySem.W.mg_of X G n0⟩, ⟨_, PySem.W.mg_of X G n1⟩, ⟨_, PySem.W.mg_of X G n2⟩⟩
  have B : Bu mg := ⟨PySem.W.mg_none_of X G z0, PySem.W.mg_none_of X G z1, PySem.W.mg_none_of X G z2, PySem.W.mg_none_of X G z3, PySem.W.mg_none_of X G z4, PySem.W.mg_none_of X G z5, PySem.W.mg_none_of X G z6⟩
  have hb_any := PySem.W.mg_none_of X G z7
  have hb_list := PySem.W.mg_none_of X G z8
  refine ⟨PySem.W.fnOf "triangles" "triangles" (defArgs sTri) (defBody sTri) (defScope sTri) .none kV19 dc19 pm19 an19 cd19 ct19, fun s us hu => match us, hu with | [_], _ => .of_eq rfl, fun base _ _ => ?_⟩
  have G1 : Gd P w K mg base "has_form_of_figure" _ _ _ f1 _ := ⟨ok_form F1 B C, g1, k1, b1⟩
  have G2 : Gd P w K mg base "corners_of" _ _ _ f2 _ := ⟨ok_corners F2 B, g2, k2, b2⟩
  have G6 : Gd P w K mg base "turn" _ _ _ f6 _ := ⟨ok_turn F6, g6, k6, b6⟩
  have G4 : Gd P w K mg base "corner_before" _ _ _ f4 _ := ⟨ok_before F4 B, g4, k4, b4⟩
  have G5 : Gd P w K mg base "corner_after" _ _ _ f5 _ := ⟨ok_after F5 B, g5, k5, b5⟩
  have G8 : Gd P w K mg base "turn_at" _ _ _ f8 _ := ⟨ok_turnAt F8 G6 G4 G5, g8, k8, b8⟩
  have G9 : Gd P w K mg base "turns_everywhere" _ _ _ f9 _ := ⟨ok_turnsEv F9 B G8, g9, k9, b9⟩
  have G14 : Gd P w K mg base "is_between" _ _ _ f14 _ := ⟨ok_btw F14 B, g14, k14, b14⟩
  have G13 : Gd P w K mg base "lies_on_side" _ _ _ f13 _ := ⟨ok_on F13 G6 G14, g13, k13, b13⟩
  have G12 : Gd P w K mg base "sides_meet" _ _ _ f12 _ := ⟨ok_meet F12 G6 G5 G13, g12, k12, b12⟩
  have G11 : Gd P w K mg base "sides_keep_apart" _ _ _ f11 _ := ⟨ok_apart F11 B G12, g11, k11, b11⟩
  have G10 : Gd P w K mg base "twice_size" _ _ _ f10 _ := ⟨ok_twice F10 B G6 G5, g10, k10, b10⟩
  have G0 : Gd P w K mg base "is_figure" _ _ _ f0 _ := ⟨ok_fig F0 G1 G2 G9 G11 G10, g0, k0, b0⟩
  have G7 : Gd P w K mg base "triangle_at" _ _ _ f7 _ := ⟨ok_triAt F7 G4 G5, g7, k7, b7⟩
  have G18 : Gd P w K mg base "lies_in_triangle" _ _ _ f18 _ := ⟨ok_in F18 B G6 G5, g18, k18, b18⟩
  have G17 : Gd P w K mg base "is_ear" _ _ _ f17 _ := ⟨ok_ear F17 B hb_any G8 G7 G18, g17, k17, b17⟩
  have G16 : Gd P w K mg base "first_ear" _ _ _ f16 _ := ⟨ok_first F16 G17, g16, k16, b16⟩
  have G15 : Gd P w K mg base "cut_up" _ _ _ f15 _ := ⟨ok_cutUp F15 B hb_list G16 G7, g15, k15, b15⟩
  have G3 : Gd P w K mg base "row_of" _ _ _ f3 _ := ⟨ok_row F3, g3, k3, b3⟩
  exact ok_tri fig_ears F19 B C G0 G2 G15 G3

end Fg

open PySem PySem.W PyProof.Rows
set_option maxRecDepth 100000 in
set_option maxHeartbeats 0 in
theorem PySem.Challenge.cw_straightfigures_s02_triangles_holds : PySem.Challenge.rw_straightfigures_s02_triangles.Holds := by
  w_on; k_headS; (case hw => exact ⟨[.list []], by decide +kernel, by decide +kernel⟩)
  k_fillS
  refine L2.walk_specK (r := PySem.Challenge.rw_straightfigures_s02_triangles) (k := 6) (CX := L2.CX0) (ps := ["f"]) (sp := Fg.spTri) (by decide +kernel) rfl rfl ⟨rfl, by decide, by decide⟩ (fun w h Y => PySem.W.kIn_of Y) ?F ?S (fun _ _ _ _ z => z)
  case F =>
    intro w mg fa h Y KX G hmg
    refine' Fg.all_mk KX G hmg ?a0 ?l0 ?c0 ?k0 ?a1 ?l1 ?c1 ?k1 ?a2 ?l2 ?c2 ?k2 ?a3 ?l3 ?c3 ?k3 ?a4 ?l4 ?c4 ?k4 ?a5 ?l5 ?c5 ?k5 ?a6 ?l6 ?c6 ?k6 ?a7 ?l7 ?c7 ?k7 ?a8 ?l8 ?c8 ?k8 ?a9 ?l9 ?c9 ?k9 ?a10 ?l10 ?c10 ?k10 ?a11 ?l11 ?c11 ?k11 ?a12 ?l12 ?c12 ?k12 ?a13 ?l13 ?c13 ?k13 ?a14 ?l14 ?c14 ?k14 ?a15 ?l15 ?c15 ?k15 ?a16 ?l16 ?c16 ?k16 ?a17 ?l17 ?c17 ?k17 ?a18 ?l18 ?c18 ?k18 ?a19 ?l19 ?c19 ?k19 ?n0 ?n1 ?n2 ?n3 ?z0 ?z1 ?z2 ?z3 ?z4 ?z5 ?z6 ?z7 ?z8
    (case a0 => k_is); (case l0 => k_is); (case c0 => k_is); (case k0 => k_is); (case a1 => k_is); (case l1 => k_is)
    (case c1 => k_is); (case k1 => k_is); (case a2 => k_is); (case l2 => k_is); (case c2 => k_is); (case k2 => k_is)
    (case a3 => k_is); (case l3 => k_is); (case c3 => k_is); (case k3 => k_is); (case a4 => k_is); (case l4 => k_is)
    (case c4 => k_is); (case k4 => k_is); (case a5 => k_is); (case l5 => k_is); (case c5 => k_is); (case k5 => k_is)
    (case a6 => k_is); (case l6 => k_is); (case c6 => k_is); (case k6 => k_is); (case a7 => k_is); (case l7 => k_is)
    (case c7 => k_is); (case k7 => k_is); (case a8 => k_is); (case l8 => k_is); (case c8 => k_is); (case k8 => k_is)
    (case a9 => k_is); (case l9 => k_is); (case c9 => k_is); (case k9 => k_is); (case a10 => k_is); (case l10 => k_is)
    (case c10 => k_is); (case k10 => k_is); (case a11 => k_is); (case l11 => k_is); (case c11 => k_is); (case k11 => k_is)
    (case a12 => k_is); (case l12 => k_is); (case c12 => k_is); (case k12 => k_is); (case a13 => k_is); (case l13 => k_is)
    (case c13 => k_is); (case k13 => k_is); (case a14 => k_is); (case l14 => k_is); (case c14 => k_is); (case k14 => k_is)
    (case a15 => k_is); (case l15 => k_is); (case c15 => k_is); (case k15 => k_is); (case a16 => k_is); (case l16 => k_is)
    (case c16 => k_is); (case k16 => k_is); (case a17 => k_is); (case l17 => k_is); (case c17 => k_is); (case k17 => k_is)
    (case a18 => k_is); (case l18 => k_is); (case c18 => k_is); (case k18 => k_is); (case a19 => k_is); (case l19 => k_is)
    (case c19 => k_is); (case k19 => k_is); (case n0 => k_is); (case n1 => k_is); (case n2 => k_is); (case n3 => k_is)
    (case z0 => k_is); (case z1 => k_is); (case z2 => k_is); (case z3 => k_is); (case z4 => k_is); (case z5 => k_is)
    (case z6 => k_is); (case z7 => k_is); (case z8 => k_is)
  case S =>
    intro K H xs a hO hwi hask hx
    cases hx with
    | cons h1 h2 =>
      cases h2
      cases h1 with
      | lst hs ha =>
        have e := L2.ints_dw a.1 _ ha
        subst e
        have q : (Codec.inLen 0 2000 a.1 && a.1.all (Codec.inInt (-115792089237316195423570985008687907853269984665640564039457584007913129639935) 115792089237316195423570985008687907853269984665640564039457584007913129639935)) && true = true := hwi
        rw [Bool.and_eq_true, Bool.and_eq_true] at q
        refine ⟨_, a.1, rfl, hs, (Codec.inNat_iff.mp q.1.1).2, fun H' p hp => ?_⟩
        rw [← Fg.tri_is] at hp
        exact .lst (L2.SqL.of hp) (L2.dw_ints _)
#print axioms PySem.Challenge.cw_straightfigures_s02_triangles_holds
