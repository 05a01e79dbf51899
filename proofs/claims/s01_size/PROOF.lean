import PyProof.Rows.All
import Wide.All
import OpenK.AllK
import Wide.FinOn
import Open.SpecLaws
import KE.OsHead
import KE.OsGo
import HandS.Base
import HandS.Call
import HandS.List
import HandS.Ends
import HandS.Spec
import HandS.Comp
import HandS.Iter
import HandS.Wide
import HandS.Words
import HandS.WordsList
import HandS.Walk
import HandS.WideBits
import PySem.Challenge.RW_straightfigures_s01_size
set_option Elab.async false
namespace Fg
/-! ### plain points, and the mirror of the program -/
abbrev Pt := Int × Int
def tn (a b c : Pt) : Int := (b.1 - a.1) * (c.2 - a.2) - (b.2 - a.2) * (c.1 - a.1)
def gt (l : List Pt) (i : Nat) : Pt := l.getD (i % l.length) (0, 0)
def btw (x a b : Int) : Bool := decide (min a b ≤ x) && decide (x ≤ max a b)
def onS (p a b : Pt) : Bool := if tn a b p ≠ 0 then false else btw p.1 a.1 b.1 && btw p.2 a.2 b.2
def smeet (l : List Pt) (i j : Nat) : Bool :=
  let a := gt l i
  let b := gt l (i + 1)
  let c := gt l j
  let d := gt l (j + 1)
  if (onS a c d || (onS b c d || (onS c a b || onS d a b))) = true then true else decide (tn a b c * tn a b d < 0) && decide (tn c d a * tn c d b < 0)
def tEv (l : List Pt) : Bool := (List.range l.length).all fun k => decide (tn (gt l (k + l.length - 1)) (gt l k) (gt l (k + 1)) ≠ 0)
def tw (l : List Pt) : Int := ((List.range l.length).map fun k => tn (0, 0) (gt l k) (gt l (k + 1))).sum
def apart (l : List Pt) : Bool := (List.range l.length).all fun i => (List.range l.length).all fun j => decide (j ≤ i + 1) || decide ((j + 1) % l.length = i) || !smeet l i j
def prs : List Int → List Pt
  | x :: y :: l => (x, y) :: prs l
  | _ => []
def form (f : List Int) : Bool := decide (f.length % 2 = 0) && (decide (6 ≤ f.length) && decide (f.length ≤ 16)) && f.all fun x => decide (x.natAbs ≤ 50)
def fig (f : List Int) : Bool := form f && (tEv (prs f) && apart (prs f) && decide (0 < tw (prs f)))
def halfOf (n : Int) : List Int := if n % 2 = 0 then [n / 2, 1] else [n, 2]
/-- n / d in lowest terms -/
def frc (n d : Int) : List Int := [n / ((Nat.gcd n.natAbs d.natAbs : Nat) : Int), d / ((Nat.gcd n.natAbs d.natAbs : Nat) : Int)]
def mSize (f : List Int) : List Int := if fig f = true then halfOf (tw (prs f)) else [-22]

/-! ### the specification's fractions at whole numbers -/
open Kzq1 (Q P whole mk)
def wp (p : Pt) : P := ⟨whole p.1, whole p.2⟩
theorem mk_one (n : Int) : mk n 1 = whole n := by
  unfold mk whole
  simp [Nat.gcd_one_right]
theorem mk_oo (n : Int) : mk n (1 * 1) = whole n := mk_one n
theorem add_w (a b : Int) : Kzq1.add (whole a) (whole b) = whole (a + b) := by
  unfold Kzq1.add
  show mk (a * 1 + b * 1) (1 * 1) = _
  rw [mk_oo, Int.mul_one, Int.mul_one]
theorem neg_w (a : Int) : Kzq1.neg (whole a) = whole (-a) := rfl
theorem sub_w (a b : Int) : Kzq1.sub (whole a) (whole b) = whole (a - b) := by
  unfold Kzq1.sub
  rw [neg_w, add_w, Int.sub_eq_add_neg]
theorem mul_w (a b : Int) : Kzq1.mul (whole a) (whole b) = whole (a * b) := by
  unfold Kzq1.mul
  show mk (a * b) (1 * 1) = _
  rw [mk_oo]
theorem zero_w : Kzq1.zero = whole 0 := rfl
theorem lt_w (a b : Int) : Kzq1.lt (whole a) (whole b) = decide (a < b) := by
  unfold Kzq1.lt whole
  simp
theorem le_w (a b : Int) : Kzq1.le (whole a) (whole b) = decide (a ≤ b) := by
  unfold Kzq1.le
  rw [lt_w]
  by_cases h : b < a
  · simp [h]
  · simp [h]; omega
theorem isZero_w (a : Int) : Kzq1.isZero (whole a) = decide (a = 0) := by
  unfold Kzq1.isZero whole
  by_cases h : a = 0 <;> simp [h]
theorem pos_w (a : Int) : Kzq1.pos (whole a) = decide (0 < a) := rfl
theorem cross_w (a b : Pt) : Kzq1.cross (wp a) (wp b) = whole (a.1 * b.2 - a.2 * b.1) := by
  unfold Kzq1.cross wp
  simp only [mul_w, sub_w]
theorem less_w (a b : Pt) : Kzq1.less (wp a) (wp b) = wp (a.1 - b.1, a.2 - b.2) := by
  unfold Kzq1.less wp
  simp only [sub_w]
theorem turn_w (a b c : Pt) : Kzq1.turn (wp a) (wp b) (wp c) = whole (tn a b c) := by
  unfold Kzq1.turn
  rw [less_w, less_w, cross_w]
  rfl
theorem origin_w : Kzq1.origin = wp (0, 0) := rfl
theorem at0_w (l : List Pt) (i : Nat) : Kzq1.at0 (l.map wp) i = wp (gt l i) := by
  unfold Kzq1.at0 gt
  rw [List.length_map, origin_w, List.getD_eq_getElem?_getD, List.getD_eq_getElem?_getD, List.getElem?_map]
  cases l[i % l.length]? <;> rfl
theorem sum_w : ∀ (l : List Int) (a : Int), (l.map whole).foldl Kzq1.add (whole a) = whole (a + l.sum)
  | [], a => by simp
  | x :: l, a => by
    rw [List.map_cons, List.foldl_cons, add_w, sum_w l, List.sum_cons, Int.add_assoc]
theorem qsum_w (l : List Int) : Kzq1.sum (l.map whole) = whole l.sum := by
  unfold Kzq1.sum
  rw [zero_w, sum_w, Int.zero_add]
theorem tn0 (b c : Pt) : tn (0, 0) b c = b.1 * c.2 - b.2 * c.1 := by
  unfold tn
  simp
theorem size_w (l : List Pt) : Kzq1.size (l.map wp) = mk (tw l) 2 := by
  unfold Kzq1.size Kzq1.sides
  rw [List.map_map, List.length_map]
  have e : ((List.range l.length).map ((fun s : P × P => Kzq1.cross s.1 s.2) ∘ fun i => (Kzq1.at0 (l.map wp) i, Kzq1.at0 (l.map wp) (i + 1))))
      = ((List.range l.length).map fun k => tn (0, 0) (gt l k) (gt l (k + 1))).map whole := by
    rw [List.map_map]
    refine List.map_congr_left fun i _ => ?_
    show Kzq1.cross (Kzq1.at0 (l.map wp) i) (Kzq1.at0 (l.map wp) (i + 1)) = whole (tn (0, 0) (gt l i) (gt l (i + 1)))
    rw [at0_w, at0_w, cross_w, tn0]
  rw [e, qsum_w]
  unfold Kzq1.mul
  show mk (1 * tw l) (2 * 1) = _
  rw [Int.one_mul]
theorem gcd_two_even {n : Int} (h : n % 2 = 0) : Nat.gcd n.natAbs 2 = 2 :=
  Nat.gcd_eq_right (by omega)
theorem gcd_two_odd {n : Int} (h : ¬ n % 2 = 0) : Nat.gcd n.natAbs 2 = 1 := by
  have h1 : Nat.gcd n.natAbs 2 ∣ 2 := Nat.gcd_dvd_right _ _
  have h2 : Nat.gcd n.natAbs 2 ∣ n.natAbs := Nat.gcd_dvd_left _ _
  have h3 : Nat.gcd n.natAbs 2 ≤ 2 := Nat.le_of_dvd (by decide) h1
  have h0 : 0 < Nat.gcd n.natAbs 2 := Nat.gcd_pos_of_pos_right _ (by decide)
  generalize Nat.gcd n.natAbs 2 = g at *
  have : g = 1 ∨ g = 2 := by omega
  rcases this with e | e
  · exact e
  · subst e
    omega
theorem mk_two (n : Int) : mk n 2 = if n % 2 = 0 then ⟨n / 2, 1⟩ else ⟨n, 2⟩ := by
  unfold mk
  by_cases h : n % 2 = 0
  · simp [gcd_two_even h, h]
  · simp [gcd_two_odd h, h]
theorem pos_two (n : Int) : Kzq1.pos (mk n 2) = decide (0 < n) := by
  rw [mk_two]
  unfold Kzq1.pos
  by_cases h : n % 2 = 0
  · simp only [h, if_true]
    by_cases h0 : 0 < n
    · rw [decide_eq_true h0, decide_eq_true (by omega)]
    · rw [decide_eq_false h0, decide_eq_false (by omega)]
  · simp [h]
/-! ### the sides -/
theorem between_w (a b c : Pt) : Kzq1.between (wp a) (wp b) (wp c) = (btw c.1 a.1 b.1 && btw c.2 a.2 b.2) := by
  have h : ∀ x y z : Int, (Kzq1.le (if Kzq1.lt (whole x) (whole y) = true then whole x else whole y) (whole z) && Kzq1.le (whole z) (if Kzq1.lt (whole x) (whole y) = true then whole y else whole x)) = btw z x y := by
    intro x y z
    rw [lt_w]
    unfold btw
    by_cases h : x < y
    · simp only [h, decide_true, if_true, le_w]
      rw [Int.min_def, Int.max_def, if_pos (by omega), if_pos (by omega)]
    · rw [decide_eq_false h]
      simp only [Bool.false_eq_true, if_false, le_w]
      rw [Int.min_def, Int.max_def]
      by_cases e : x = y
      · subst e; simp
      · rw [if_neg (by omega), if_neg (by omega)]
  unfold Kzq1.between
  show ((Kzq1.le (if Kzq1.lt (whole a.1) (whole b.1) = true then whole a.1 else whole b.1) (whole c.1) && Kzq1.le (whole c.1) (if Kzq1.lt (whole a.1) (whole b.1) = true then whole b.1 else whole a.1)) && Kzq1.le (if Kzq1.lt (whole a.2) (whole b.2) = true then whole a.2 else whole b.2) (whole c.2) && Kzq1.le (whole c.2) (if Kzq1.lt (whole a.2) (whole b.2) = true then whole b.2 else whole a.2)) = _
  rw [Bool.and_assoc, h, h]
theorem on_w (a b c : Pt) : Kzq1.on (wp a, wp b) (wp c) = onS c a b := by
  unfold Kzq1.on onS
  show (Kzq1.isZero (Kzq1.turn (wp a) (wp b) (wp c)) && Kzq1.between (wp a) (wp b) (wp c)) = _
  rw [turn_w, isZero_w, between_w]
  by_cases h : tn a b c = 0 <;> simp [h]
theorem side1_w (a b c : Pt) : Kzq1.side1 (wp a) (wp b) (wp c) = (tn a b c).sign := by
  unfold Kzq1.side1
  rw [turn_w, pos_w, isZero_w]
  rcases Int.lt_trichotomy (tn a b c) 0 with h | h | h
  · rw [Int.sign_eq_neg_one_of_neg h]
    simp; omega
  · rw [h]; simp
  · rw [Int.sign_eq_one_of_pos h]; simp [h]
theorem sign_neg (x y : Int) : (x.sign * y.sign == -1) = decide (x * y < 0) := by
  rw [← Int.sign_mul]
  by_cases h : x * y < 0
  · rw [Int.sign_eq_neg_one_of_neg h]; simp [h]
  · rw [decide_eq_false h]
    have : (x * y).sign ≠ -1 := fun e => h (Int.neg_of_sign_eq_neg_one e)
    exact beq_eq_false_iff_ne.mpr this
theorem touch_w (a b c d : Pt) : Kzq1.touch (wp a, wp b) (wp c, wp d) = (onS c a b || onS d a b || onS a c d || onS b c d || (decide (tn a b c * tn a b d < 0) && decide (tn c d a * tn c d b < 0))) := by
  unfold Kzq1.touch
  simp only [on_w, side1_w, sign_neg]
theorem smeet_w (l : List Pt) (i j : Nat) : smeet l i j = Kzq1.touch (wp (gt l i), wp (gt l (i + 1))) (wp (gt l j), wp (gt l (j + 1))) := by
  rw [touch_w]
  unfold smeet
  dsimp only
  generalize onS (gt l i) (gt l j) (gt l (j + 1)) = x1
  generalize onS (gt l (i + 1)) (gt l j) (gt l (j + 1)) = x2
  generalize onS (gt l j) (gt l i) (gt l (i + 1)) = x3
  generalize onS (gt l (j + 1)) (gt l i) (gt l (i + 1)) = x4
  generalize (decide (tn (gt l i) (gt l (i + 1)) (gt l j) * tn (gt l i) (gt l (i + 1)) (gt l (j + 1)) < 0) && decide (tn (gt l j) (gt l (j + 1)) (gt l i) * tn (gt l j) (gt l (j + 1)) (gt l (i + 1)) < 0)) = x5
  revert x1 x2 x3 x4 x5
  decide
theorem gt_mod (l : List Pt) (i : Nat) : gt l (i % l.length) = gt l i := by
  unfold gt
  rw [Nat.mod_mod]
theorem gt_add (l : List Pt) (i : Nat) : gt l (i + l.length) = gt l i := by
  unfold gt
  rw [Nat.add_mod_right]
theorem tEv_w (l : List Pt) : ((List.range l.length).all fun i => !Kzq1.isZero (Kzq1.turn (wp (gt l i)) (wp (gt l (i + 1))) (wp (gt l (i + 2))))) = tEv l := by
  unfold tEv
  rw [Bool.eq_iff_iff, List.all_eq_true, List.all_eq_true]
  simp only [turn_w, isZero_w, List.mem_range, Bool.not_eq_true', decide_eq_false_iff_not, decide_eq_true_eq]
  constructor
  · intro h k hk
    cases k with
    | zero =>
      have q := h (l.length - 1) (by omega)
      rw [show l.length - 1 + 1 = 0 + l.length by omega, show l.length - 1 + 2 = 1 + l.length by omega, gt_add, gt_add] at q
      rw [Nat.zero_add]
      exact q
    | succ k =>
      have q := h k (by omega)
      rw [show k + 1 + l.length - 1 = k + l.length by omega, gt_add]
      exact q
  · intro h k hk
    by_cases e : k + 1 = l.length
    · have q := h 0 (by omega)
      rw [show 0 + l.length - 1 = k by omega] at q
      have e1 : gt l (k + 1) = gt l 0 := by rw [e, ← Nat.zero_add l.length, gt_add]
      have e2 : gt l (k + 2) = gt l (0 + 1) := by rw [show k + 2 = (0 + 1) + l.length by omega, gt_add]
      rw [e1, e2]
      exact q
    · have q := h (k + 1) (by omega)
      rw [show k + 1 + l.length - 1 = k + l.length by omega, gt_add] at q
      exact q
theorem apart_w (l : List Pt) : ((List.range l.length).all fun i => (List.range l.length).all fun j => decide (j ≤ i + 1) || (i + l.length == j + 1) || !Kzq1.touch (wp (gt l i), wp (gt l (i + 1))) (wp (gt l j), wp (gt l (j + 1)))) = apart l := by
  unfold apart
  rw [Bool.eq_iff_iff]
  simp only [List.all_eq_true, List.mem_range, smeet_w]
  have h : ∀ i j, i < l.length → j < l.length → (decide (j ≤ i + 1) || (i + l.length == j + 1)) = (decide (j ≤ i + 1) || decide ((j + 1) % l.length = i)) := by
    intro i j hi hj
    by_cases h1 : j ≤ i + 1
    · simp [h1]
    · have : (i + l.length == j + 1) = decide ((j + 1) % l.length = i) := by
        by_cases h2 : j + 1 = l.length
        · rw [h2, Nat.mod_self]
          by_cases h3 : i = 0
          · subst h3; simp
          · rw [decide_eq_false (by omega)]
            simp; omega
        · rw [Nat.mod_eq_of_lt (by omega)]
          rw [decide_eq_false (by omega)]
          simp; omega
      rw [this]
  constructor
  · intro q i hi j hj
    rw [← h i j hi hj]
    exact q i hi j hj
  · intro q i hi j hj
    rw [h i j hi hj]
    exact q i hi j hj
theorem isFigure_w (l : List Pt) : Kzq1.isFigure (l.map wp) = (decide (3 ≤ l.length) && (tEv l && apart l && decide (0 < tw l))) := by
  unfold Kzq1.isFigure
  dsimp only
  simp only [List.length_map, size_w, pos_two, at0_w, tEv_w, apart_w]
  generalize decide (3 ≤ l.length) = a
  generalize decide (0 < tw l) = b
  generalize tEv l = c
  generalize apart l = d
  revert a b c d
  decide
/-! ### the row -/
theorem pairs_even : ∀ (f : List Int), f.length % 2 = 0 → Kzq1.pairsOf f = some ((prs f).map wp)
  | [], _ => rfl
  | [_], h => by simp at h
  | x :: y :: l, h => by
    have q := pairs_even l (by simp at h; omega)
    show (Kzq1.pairsOf l).map _ = _
    rw [q]
    rfl
theorem pairs_odd : ∀ (f : List Int), ¬ f.length % 2 = 0 → Kzq1.pairsOf f = none
  | [], h => by simp at h
  | [_], _ => rfl
  | x :: y :: l, h => by
    have q := pairs_odd l (by simp at h; omega)
    show (Kzq1.pairsOf l).map _ = _
    rw [q]
    rfl
theorem prs_length : ∀ (f : List Int), (prs f).length = f.length / 2
  | [] => rfl
  | [_] => by simp [prs]
  | x :: y :: l => by
    show (prs l).length + 1 = (l.length + 1 + 1) / 2
    rw [prs_length l]
    omega
theorem readFigure_w (f : List Int) : Kzq1.readFigure f = if fig f = true then some ((prs f).map wp) else none := by
  unfold Kzq1.readFigure fig form
  by_cases h1 : (f.any fun x => decide (x < -50 ∨ 50 < x)) = true
  · have h2 : (f.all fun x => decide (x.natAbs ≤ 50)) = false := by
      obtain ⟨x, hx, q⟩ := List.any_eq_true.mp h1
      rw [List.all_eq_false]
      have q := of_decide_eq_true q
      exact ⟨x, hx, by simp; omega⟩
    rw [if_pos h1, h2]
    simp
  · have h2 : (f.all fun x => decide (x.natAbs ≤ 50)) = true := by
      rw [List.all_eq_true]
      intro x hx
      have h3 : ¬ (x < -50 ∨ 50 < x) := fun e => h1 (List.any_eq_true.mpr ⟨x, hx, decide_eq_true e⟩)
      simp; omega
    rw [if_neg h1, h2]
    by_cases h4 : f.length % 2 = 0
    · rw [pairs_even f h4]
      dsimp only
      rw [isFigure_w, List.length_map, prs_length]
      rw [decide_eq_true h4]
      unfold Kzq1.most
      by_cases h5 : 6 ≤ f.length
      · by_cases h6 : f.length ≤ 16
        · rw [decide_eq_true h5, decide_eq_true h6, decide_eq_true (show 3 ≤ f.length / 2 by omega)]
          simp only [Bool.true_and, Bool.and_true]
          have h7 : f.length / 2 ≤ 8 := by omega
          simp only [h7, true_and]
        · have h7 : ¬ f.length / 2 ≤ 8 := by omega
          simp [h6, h7]
      · have h7 : ¬ 3 ≤ f.length / 2 := by omega
        simp [h5, h7]
    · rw [pairs_odd f h4]
      simp [h4]
theorem size_is (f : List Int) : PyKzq1.size f = mSize f := by
  show (Kzq1.answer (.size f)).value :: (Kzq1.answer (.size f)).nums = mSize f
  unfold Kzq1.answer Kzq1.withFigure mSize
  dsimp only
  rw [readFigure_w]
  by_cases h : fig f = true
  · rw [if_pos h, if_pos h]
    dsimp only
    rw [size_w, mk_two]
    unfold halfOf
    split <;> rfl
  · rw [if_neg h, if_neg h]
    rfl
end Fg

set_option Elab.async false
set_option linter.all false
set_option maxRecDepth 100000
set_option maxHeartbeats 2000000
namespace Fg
open PySem PySem.Spec PyProof.Rows L2
open PySem.W (Codec)
def top (i : Nat) : Stmt := PySem.Challenge.pw_straightfigures_s01_size.main.body.getD i (.Pass ⟨0, 0, 0, 0⟩)
abbrev sSize : Stmt := top 19
abbrev sFig : Stmt := top 4
abbrev sForm : Stmt := top 5
abbrev sCorners : Stmt := top 6
abbrev sBefore : Stmt := top 7
abbrev sAfter : Stmt := top 8
abbrev sTurn : Stmt := top 9
abbrev sTurnAt : Stmt := top 10
abbrev sTurnsEv : Stmt := top 11
abbrev sTwice : Stmt := top 12
abbrev sApart : Stmt := top 13
abbrev sMeet : Stmt := top 14
abbrev sOn : Stmt := top 15
abbrev sBetween : Stmt := top 16
abbrev sCf : Stmt := top 20
abbrev sFrac : Stmt := top 21
/-! ### points in memory -/
abbrev ptV (p : Pt) : List V := [.int p.1, .int p.2]
def Sm (p : Pt) : Prop := p.1.natAbs < 2 ^ 3000 ∧ p.2.natAbs < 2 ^ 3000
/-- a list of pairs stands at a -/
structure CsAt (H : Hp) (a : Addr) (as : List Addr) (ps : List Pt) : Prop where
  lst : H a = some (.lst (as.map V.ref))
  len : as.length = ps.length
  item : ∀ (j : Nat) (p : Pt), ps[j]? = some p → ∃ b, as[j]? = some b ∧ H b = some (.tup (ptV p))
def Cs (H : Hp) (a : Addr) (ps : List Pt) : Prop := ∃ as, CsAt H a as ps
theorem Cs.same {H H' : Hp} {a : Addr} {ps : List Pt} (c : Cs H a ps) (s : Same H H') : Cs H' a ps := by
  obtain ⟨as, c⟩ := c
  refine ⟨as, s _ _ c.lst, c.len, fun j p h => ?_⟩
  obtain ⟨b, h1, h2⟩ := c.item j p h
  exact ⟨b, h1, s _ _ h2⟩
theorem gt_get {ps : List Pt} (h : 0 < ps.length) (i : Nat) : ps[i % ps.length]? = some (gt ps i) := by
  have q := Nat.mod_lt i h
  unfold gt
  rw [List.getD_eq_getElem?_getD, List.getElem?_eq_getElem q]
  rfl
theorem gt_lt {ps : List Pt} {i : Nat} (h : i < ps.length) : ps[i]? = some (gt ps i) := by
  have q := gt_get (ps := ps) (by omega) i
  rw [Nat.mod_eq_of_lt h] at q
  exact q
/-- the item at a place -/
theorem Cs.get {H : Hp} {a : Addr} {ps : List Pt} (c : Cs H a ps) {j : Nat} (hj : j < ps.length) : ∃ (b : Addr) (xs : List V), H a = some (.lst xs) ∧ xs.length = ps.length ∧ xs[j]? = some (.ref b) ∧ H b = some (.tup (ptV (gt ps j))) := by
  obtain ⟨as, c⟩ := c
  obtain ⟨b, h1, h2⟩ := c.item j _ (gt_lt hj)
  refine ⟨b, as.map V.ref, c.lst, by rw [List.length_map, c.len], ?_, h2⟩
  rw [List.getElem?_map, h1]
  rfl
theorem Cs.lst {H : Hp} {a : Addr} {ps : List Pt} (c : Cs H a ps) : ∃ xs : List V, H a = some (.lst xs) ∧ xs.length = ps.length := by
  obtain ⟨as, c⟩ := c
  exact ⟨_, c.lst, by rw [List.length_map, c.len]⟩
theorem same_upd {H : Hp} {p : Addr} {o : HO} (h : H p = none) : Same H (upd H p o) := fun b x e => by
  rw [upd_ne (ne_of_none e h)]
  exact e
theorem sub_small {x y : Int} {n : Nat} (hx : x.natAbs < 2 ^ n) (hy : y.natAbs < 2 ^ n) : (x - y).natAbs < 2 ^ (n + 1) := by
  rw [Nat.pow_succ]
  omega
/-- what the top has of names -/
structure Bu (mg : Str → Option Value) : Prop where
  len : mg "len" = none
  range : mg "range" = none
  all : mg "all" = none
  sum : mg "sum" = none
  abs : mg "abs" = none
  min : mg "min" = none
  max : mg "max" = none
theorem gt_mem {ps : List Pt} (h : 0 < ps.length) (i : Nat) : gt ps i ∈ ps := List.mem_of_getElem? (gt_get h i)
/-- the defs that look at a row of corners -/
structure Gd (P : Program) (w : World) (K : PySem.W.Frag) (mg : Str → Option Value) (base : Heap) (x : Str) (k : Nat) (ps : List Str) (sp : Sp) (f : Addr) (fd : FuncData) : Prop where
  ok : FnOk P w K mg base CX0 k f fd ps sp
  gl : mg x = some (.ref f)
  kp : PySem.W.keepIn K (.ref f) = true
  bd : Binds K fd ps []
theorem all_take {n : Nat} {g : Nat → Bool} : (((List.range n).map g).all id) = (List.range n).all g := by
  rw [List.all_map]
  rfl
theorem range_take_succ {β : Type} (g : Nat → β) {n i : Nat} (h : i < n) : ((List.range n).map g).take (i + 1) = ((List.range n).map g).take i ++ [g i] := by
  rw [List.take_add_one, List.getElem?_map, List.getElem?_range h]
  rfl
theorem small_of {n : Nat} (h : n ≤ 1000) : n < sizeLine := Nat.lt_of_le_of_lt h (by decide)
theorem small_two {n : Nat} (h : n ≤ 2000) : n < sizeLine := Nat.lt_of_le_of_lt h (by decide)
theorem map_take_succ {α β : Type} (g : α → β) {l : List α} {i : Nat} {x : α} (h : l[i]? = some x) : (l.map g).take (i + 1) = (l.map g).take i ++ [g x] := by
  rw [List.take_add_one, List.getElem?_map, h]
  rfl
theorem fits {i : Int} (h1 : 0 ≤ i) (h2 : i ≤ 5000) : Builtin.Range.rangeFitsLong i = true := by
  unfold Builtin.Range.rangeFitsLong
  rw [decide_eq_true (show -(2 ^ 63) ≤ i by omega), decide_eq_true (show i < 2 ^ 63 by omega)]
  rfl
theorem rg_two {n : Nat} (h : n ≤ 2000) (h2 : n % 2 = 0) : RgC 0 (n : Int) 2 (n / 2) := by
  have e : Builtin.Range.rangeSize 0 (n : Int) 2 = ((n / 2 : Nat) : Int) := by
    unfold Builtin.Range.rangeSize
    rw [if_pos (by decide)]
    split <;> omega
  refine ⟨by decide, by decide, ?_, e⟩
  unfold Builtin.Range.small
  rw [e, if_pos (by decide), fits (by omega) (by omega), fits (by omega) (by omega), fits (by omega) (by omega), fits (by omega) (by omega), fits (by omega) (by omega)]
  simp
end Fg

set_option Elab.async false
set_option linter.all false
set_option maxRecDepth 100000
set_option maxHeartbeats 2000000
namespace Fg
open PySem PySem.Spec PyProof.Rows L2
open PySem.W (Codec)
/-! ### the promises -/
def spTurn (K : PySem.W.Frag) : Sp := fun vs H Q _ => ∃ (p q r : Addr) (a b c : Pt), vs = [.ref p, .ref q, .ref r] ∧ SqT K H p (ptV a) ∧ SqT K H q (ptV b) ∧ SqT K H r (ptV c) ∧ Sm a ∧ Sm b ∧ Sm c ∧ Q (.int (tn a b c)) H
section
variable {P : Program} {w : World} {K : PySem.W.Frag} {mg : Str → Option Value} {base : Heap}
theorem scTurn : FnScope ["a", "b", "c"] ["a", "b", "c"] (defScope sTurn) := ⟨rfl, rfl, rfl, by decide +kernel, rfl, by decide +kernel, by decide +kernel⟩
theorem ok_turn {f : Addr} {fd : FuncData} (F : Fun K "turn" "turn" sTurn f fd) : FnOk P w K mg base CX0 1 f fd ["a", "b", "c"] (spTurn K) := by
  refine F.ok scTurn (fun vs H Q E h => ?_) (fun cdv A outer s H vs Q E hr h => ?_)
  · obtain ⟨p, q, r, a, b, c, rfl, _⟩ := h
    rfl
  · obtain ⟨p, q, r, a, b, c, rfl, hp, hq, hr', sa, sb, sc, k⟩ := h
    refine ⟨_, pss_one (ps_ret (pe_op op_sub
      (pe_op op_mulW (pe_op op_sub (pe_ix ix_tup (pv 1) pe_int (fun _ _ => rfl)) (pe_ix ix_tup (pv 0) pe_int (fun _ _ => rfl)))
        (pe_op op_sub (pe_ix ix_tup (pv 2) pe_int (fun _ _ => rfl)) (pe_ix ix_tup (pv 0) pe_int (fun _ _ => rfl))))
      (pe_op op_mulW (pe_op op_sub (pe_ix ix_tup (pv 1) pe_int (fun _ _ => rfl)) (pe_ix ix_tup (pv 0) pe_int (fun _ _ => rfl)))
        (pe_op op_sub (pe_ix ix_tup (pv 2) pe_int (fun _ _ => rfl)) (pe_ix ix_tup (pv 0) pe_int (fun _ _ => rfl)))))), ?_⟩
    have W : ∀ x y z t : Int, x.natAbs < 2 ^ 3000 → y.natAbs < 2 ^ 3000 → z.natAbs < 2 ^ 3000 → t.natAbs < 2 ^ 3000 → CMulW (x - y) (z - t) := fun x y z t h1 h2 h3 h4 =>
      wide_mul (sub_small h1 h2) (sub_small h3 h4) (by decide) (by decide) (by decide)
    refine ⟨_, rfl, q, _, 0, .int b.1, rfl, rfl, hq, rfl, _, rfl, p, _, 0, .int a.1, rfl, rfl, hp, rfl, b.1, a.1, rfl, rfl, ?_⟩
    refine ⟨_, rfl, r, _, 1, .int c.2, rfl, rfl, hr', rfl, _, rfl, p, _, 1, .int a.2, rfl, rfl, hp, rfl, c.2, a.2, rfl, rfl, ?_⟩
    refine ⟨_, _, rfl, rfl, W _ _ _ _ sb.1 sa.1 sc.2 sa.2, ?_⟩
    refine ⟨_, rfl, q, _, 1, .int b.2, rfl, rfl, hq, rfl, _, rfl, p, _, 1, .int a.2, rfl, rfl, hp, rfl, b.2, a.2, rfl, rfl, ?_⟩
    refine ⟨_, rfl, r, _, 0, .int c.1, rfl, rfl, hr', rfl, _, rfl, p, _, 0, .int a.1, rfl, rfl, hp, rfl, c.1, a.1, rfl, rfl, ?_⟩
    refine ⟨_, _, rfl, rfl, W _ _ _ _ sb.2 sa.2 sc.1 sa.1, ?_⟩
    exact ⟨_, _, rfl, rfl, k⟩
end
end Fg

set_option Elab.async false
set_option linter.all false
set_option maxRecDepth 100000
set_option maxHeartbeats 2000000
namespace Fg
open PySem PySem.Spec PyProof.Rows L2
open PySem.W (Codec)
def spBefore (K : PySem.W.Frag) : Sp := fun vs H Q _ => ∃ (a : Addr) (ps : List Pt) (k : Nat), vs = [.ref a, .int (k : Int)] ∧ Cs H a ps ∧ 0 < ps.length ∧
  ∀ b, H b = some (.tup (ptV (gt ps (k + ps.length - 1)))) → Q (.ref b) H
def spAfter (K : PySem.W.Frag) : Sp := fun vs H Q _ => ∃ (a : Addr) (ps : List Pt) (k : Nat), vs = [.ref a, .int (k : Int)] ∧ Cs H a ps ∧ 0 < ps.length ∧
  ∀ b, H b = some (.tup (ptV (gt ps (k + 1)))) → Q (.ref b) H
def spTurnAt (K : PySem.W.Frag) : Sp := fun vs H Q _ => ∃ (a : Addr) (ps : List Pt) (k : Nat), vs = [.ref a, .int (k : Int)] ∧ Cs H a ps ∧ k < ps.length ∧ (∀ p ∈ ps, Sm p) ∧
  Q (.int (tn (gt ps (k + ps.length - 1)) (gt ps k) (gt ps (k + 1)))) H
section
variable {P : Program} {w : World} {K : PySem.W.Frag} {mg : Str → Option Value} {base : Heap}
theorem scBefore : FnScope ["corners", "k"] ["corners", "k"] (defScope sBefore) := ⟨rfl, rfl, rfl, by decide +kernel, rfl, by decide +kernel, by decide +kernel⟩
theorem ok_before {f : Addr} {fd : FuncData} (F : Fun K "corner_before" "corner_before" sBefore f fd) (B : Bu mg) : FnOk P w K mg base CX0 1 f fd ["corners", "k"] (spBefore K) := by
  refine F.ok scBefore (fun vs H Q E h => ?_) (fun cdv A outer s H vs Q E hr h => ?_)
  · obtain ⟨a, ps, k, rfl, _⟩ := h
    rfl
  · obtain ⟨a, ps, k, rfl, c, h0, q⟩ := h
    refine ⟨_, pss_one (ps_ret (pe_ix ix_list (pv 0) (pe_op op_mod (pe_op op_sub (pv 1) pe_int) (pe_callB call_len_seq (by rfl) B.len PySem.boot_len (pa_cons (pv 0) pa_nil))) (fun _ _ => rfl))), ?_⟩
    obtain ⟨b, xs, h1, h2, h3, h4⟩ := c.get (Nat.mod_lt (k + ps.length - 1) h0)
    refine ⟨_, rfl, _, rfl, _, _, rfl, rfl, _, rfl, a, _, rfl, .inl (SqL.of h1), _, _, rfl, rfl, ?_, a, _, _, _, rfl, rfl, SqL.of h1, at_of (j := (k + ps.length - 1) % ps.length) ?_ h3, ?_⟩
    · rw [h2]; omega
    · rw [h2]
      have e : (((k + ps.length - 1 : Nat) : Int)) = ((k : Int) - 1) + ps.length := by omega
      rw [Int.natCast_emod, e, Int.add_emod_right]
    · rw [gt_mod] at h4
      exact q b h4
theorem scAfter : FnScope ["corners", "k"] ["corners", "k"] (defScope sAfter) := ⟨rfl, rfl, rfl, by decide +kernel, rfl, by decide +kernel, by decide +kernel⟩
theorem ok_after {f : Addr} {fd : FuncData} (F : Fun K "corner_after" "corner_after" sAfter f fd) (B : Bu mg) : FnOk P w K mg base CX0 1 f fd ["corners", "k"] (spAfter K) := by
  refine F.ok scAfter (fun vs H Q E h => ?_) (fun cdv A outer s H vs Q E hr h => ?_)
  · obtain ⟨a, ps, k, rfl, _⟩ := h
    rfl
  · obtain ⟨a, ps, k, rfl, c, h0, q⟩ := h
    refine ⟨_, pss_one (ps_ret (pe_ix ix_list (pv 0) (pe_op op_mod (pe_op op_add (pv 1) pe_int) (pe_callB call_len_seq (by rfl) B.len PySem.boot_len (pa_cons (pv 0) pa_nil))) (fun _ _ => rfl))), ?_⟩
    obtain ⟨b, xs, h1, h2, h3, h4⟩ := c.get (Nat.mod_lt (k + 1) h0)
    refine ⟨_, rfl, _, rfl, _, _, rfl, rfl, _, rfl, a, _, rfl, .inl (SqL.of h1), _, _, rfl, rfl, ?_, a, _, _, _, rfl, rfl, SqL.of h1, at_of (j := (k + 1) % ps.length) ?_ h3, ?_⟩
    · rw [h2]; omega
    · rw [h2, Int.natCast_emod, Int.natCast_add]
      rfl
    · rw [gt_mod] at h4
      exact q b h4
theorem scTurnAt : FnScope ["corners", "k"] ["corners", "k"] (defScope sTurnAt) := ⟨rfl, rfl, rfl, by decide +kernel, rfl, by decide +kernel, by decide +kernel⟩
theorem ok_turnAt {f fT fB fA : Addr} {fd fdT fdB fdA : FuncData} (F : Fun K "turn_at" "turn_at" sTurnAt f fd) (T : Gd P w K mg base "turn" 1 ["a", "b", "c"] (spTurn K) fT fdT)
    (Bf : Gd P w K mg base "corner_before" 1 ["corners", "k"] (spBefore K) fB fdB) (Af : Gd P w K mg base "corner_after" 1 ["corners", "k"] (spAfter K) fA fdA) : FnOk P w K mg base CX0 2 f fd ["corners", "k"] (spTurnAt K) := by
  refine F.ok scTurnAt (fun vs H Q E h => ?_) (fun cdv A outer s H vs Q E hr h => ?_)
  · obtain ⟨a, ps, k, rfl, _⟩ := h
    rfl
  · obtain ⟨a, ps, k, rfl, c, h0, sm, q⟩ := h
    refine ⟨_, pss_one (ps_ret (pe_call T.ok hr (by rfl) T.gl T.kp T.bd .nil pass0 (pa_cons (pe_call Bf.ok hr (by rfl) Bf.gl Bf.kp Bf.bd .nil pass0 (pa_cons (pv 0) (pa_cons (pv 1) pa_nil)))
      (pa_cons (pe_ix ix_list (pv 0) (pv 1) (fun _ _ => rfl)) (pa_cons (pe_call Af.ok hr (by rfl) Af.gl Af.kp Af.bd .nil pass0 (pa_cons (pv 0) (pa_cons (pv 1) pa_nil))) pa_nil))))), ?_⟩
    have h1 : 0 < ps.length := by omega
    refine ⟨_, rfl, _, rfl, a, ps, k, rfl, c, h1, fun b1 e1 => ?_⟩
    obtain ⟨b2, xs, g1, g2, g3, g4⟩ := c.get h0
    refine ⟨_, rfl, _, rfl, a, _, _, _, rfl, rfl, SqL.of g1, atI_nat g3, ?_⟩
    refine ⟨_, rfl, _, rfl, a, ps, k, rfl, c, h1, fun b3 e3 => ?_⟩
    exact ⟨b1, b2, b3, _, _, _, rfl, SqT.of e1, SqT.of g4, SqT.of e3, sm _ (gt_mem h1 _), sm _ (gt_mem h1 _), sm _ (gt_mem h1 _), q⟩
/-! ### is_between, lies_on_side, sides_meet -/
def spBtw (K : PySem.W.Frag) : Sp := fun vs H Q _ => ∃ (x a b : Int), vs = [.int x, .int a, .int b] ∧ Q (.bl (btw x a b)) H
theorem scBtw : FnScope ["number", "one", "other"] ["number", "one", "other"] (defScope sBetween) := ⟨rfl, rfl, rfl, by decide +kernel, rfl, by decide +kernel, by decide +kernel⟩
theorem min_is (i j : Int) : (if j < i then j else i) = min i j := by
  rw [Int.min_def]
  by_cases h : j < i
  · rw [if_pos h, if_neg (by omega)]
  · rw [if_neg h, if_pos (by omega)]
theorem max_is (i j : Int) : (if j > i then j else i) = max i j := by
  rw [Int.max_def]
  by_cases h : j > i
  · rw [if_pos h, if_pos (by omega)]
  · rw [if_neg h]
    by_cases e : i ≤ j
    · rw [if_pos e]; omega
    · rw [if_neg e]
theorem ok_btw {f : Addr} {fd : FuncData} (F : Fun K "is_between" "is_between" sBetween f fd) (B : Bu mg) : FnOk P w K mg base CX0 1 f fd ["number", "one", "other"] (spBtw K) := by
  refine F.ok scBtw (fun vs H Q E h => ?_) (fun cdv A outer s H vs Q E hr h => ?_)
  · obtain ⟨x, a, b, rfl, _⟩ := h
    rfl
  · obtain ⟨x, a, b, rfl, q⟩ := h
    refine ⟨_, pss_one (ps_ret (pe_and (pe_cmpR op_le (pe_callB (call_min2 rfl) (by rfl) B.min (by decide +kernel) (pa_cons (pv 1) (pa_cons (pv 2) pa_nil))) (pv 0) (nomark _))
      (pe_one (pe_cmpR op_le (pv 0) (pe_callB (call_max2 rfl) (by rfl) B.max (by decide +kernel) (pa_cons (pv 1) (pa_cons (pv 2) pa_nil))) (nomark _))))), ?_⟩
    refine ⟨_, rfl, _, rfl, a, b, rfl, _, rfl, _, _, rfl, rfl, _, rfl, ?_⟩
    rw [min_is]
    unfold btw at q
    refine ite2 (fun e => ?_) (fun e => ?_)
    · refine ⟨_, rfl, _, rfl, _, rfl, a, b, rfl, _, _, rfl, rfl, ?_⟩
      rw [max_is]
      rw [e, Bool.true_and] at q
      exact q
    · rw [Bool.eq_false_iff.mpr e, Bool.false_and] at q
      exact q
def spOn (K : PySem.W.Frag) : Sp := fun vs H Q _ => ∃ (p q r : Addr) (z a b : Pt), vs = [.ref p, .ref q, .ref r] ∧ SqT K H p (ptV z) ∧ SqT K H q (ptV a) ∧ SqT K H r (ptV b) ∧ Sm z ∧ Sm a ∧ Sm b ∧ Q (.bl (onS z a b)) H
theorem scOn : FnScope ["point", "a", "b"] ["point", "a", "b"] (defScope sOn) := ⟨rfl, rfl, rfl, by decide +kernel, rfl, by decide +kernel, by decide +kernel⟩
theorem ok_on {f fT fB : Addr} {fd fdT fdB : FuncData} (F : Fun K "lies_on_side" "lies_on_side" sOn f fd) (T : Gd P w K mg base "turn" 1 ["a", "b", "c"] (spTurn K) fT fdT)
    (Bt : Gd P w K mg base "is_between" 1 ["number", "one", "other"] (spBtw K) fB fdB) : FnOk P w K mg base CX0 2 f fd ["point", "a", "b"] (spOn K) := by
  refine F.ok scOn (fun vs H Q E h => ?_) (fun cdv A outer s H vs Q E hr h => ?_)
  · obtain ⟨p, q, r, z, a, b, rfl, _⟩ := h
    rfl
  · obtain ⟨p, q, r, z, a, b, rfl, hp, hq, hr', sz, sa, sb, k⟩ := h
    refine ⟨_, pss_cons (ps_if (pt_cmpR op_ne (pe_call T.ok hr (by rfl) T.gl T.kp T.bd .nil pass0 (pa_cons (pv 1) (pa_cons (pv 2) (pa_cons (pv 0) pa_nil)))) pe_int (nomark _)) (pss_one (ps_ret pe_bl)) pss_nil)
      (pss_one (ps_ret (pe_and (pe_call Bt.ok hr (by rfl) Bt.gl Bt.kp Bt.bd .nil pass0 (pa_cons (pe_ix ix_tup (pv 0) pe_int (fun _ _ => rfl)) (pa_cons (pe_ix ix_tup (pv 1) pe_int (fun _ _ => rfl)) (pa_cons (pe_ix ix_tup (pv 2) pe_int (fun _ _ => rfl)) pa_nil))))
        (pe_one (pe_call Bt.ok hr (by rfl) Bt.gl Bt.kp Bt.bd .nil pass0 (pa_cons (pe_ix ix_tup (pv 0) pe_int (fun _ _ => rfl)) (pa_cons (pe_ix ix_tup (pv 1) pe_int (fun _ _ => rfl)) (pa_cons (pe_ix ix_tup (pv 2) pe_int (fun _ _ => rfl)) pa_nil)))))))), ?_⟩
    refine ⟨_, rfl, _, rfl, _, rfl, q, r, p, a, b, z, rfl, hq, hr', hp, sa, sb, sz, rfl, _, rfl, ?_⟩
    unfold onS at k
    refine ite2 (fun e => ?_) (fun e => ?_)
    · have e1 : tn a b z ≠ 0 := fun e2 => by
        rw [e2] at e
        simp at e
      rw [if_pos e1] at k
      exact k
    · have e1 : ¬ tn a b z ≠ 0 := fun e2 => e (by
        rw [Bool.not_eq_true', decide_eq_false_iff_not]
        exact fun e3 => e2 (V.int.inj e3))
      rw [if_neg e1] at k
      refine ⟨_, rfl, p, _, 0, .int z.1, rfl, rfl, hp, rfl, _, rfl, q, _, 0, .int a.1, rfl, rfl, hq, rfl, _, rfl, r, _, 0, .int b.1, rfl, rfl, hr', rfl, z.1, a.1, b.1, rfl, _, rfl, ?_⟩
      refine ite2 (fun e => ?_) (fun e => ?_)
      · refine ⟨_, rfl, p, _, 1, .int z.2, rfl, rfl, hp, rfl, _, rfl, q, _, 1, .int a.2, rfl, rfl, hq, rfl, _, rfl, r, _, 1, .int b.2, rfl, rfl, hr', rfl, z.2, a.2, b.2, rfl, ?_⟩
        rw [e, Bool.true_and] at k
        exact k
      · rw [Bool.eq_false_iff.mpr e, Bool.false_and] at k
        exact k
end
end Fg

set_option Elab.async false
set_option linter.all false
set_option maxRecDepth 100000
set_option maxHeartbeats 2000000
namespace Fg
open PySem PySem.Spec PyProof.Rows L2
open PySem.W (Codec)
section
variable {P : Program} {w : World} {K : PySem.W.Frag} {mg : Str → Option Value} {base : Heap}
theorem tn_small {a b c : Pt} (ha : Sm a) (hb : Sm b) (hc : Sm c) : (tn a b c).natAbs < 2 ^ 6003 := by
  have h1 := sub_small hb.1 ha.1
  have h2 := sub_small hc.2 ha.2
  have h3 := sub_small hb.2 ha.2
  have h4 := sub_small hc.1 ha.1
  have m : ∀ x y : Int, x.natAbs < 2 ^ 3001 → y.natAbs < 2 ^ 3001 → (x * y).natAbs < 2 ^ 6002 := fun x y hx hy => by
    rw [Int.natAbs_mul, show (6002 : Nat) = 3001 + 3001 from rfl, Nat.pow_add]
    exact Nat.mul_lt_mul'' hx hy
  unfold tn
  exact sub_small (n := 6002) (m _ _ h1 h2) (m _ _ h3 h4)
def spMeet (K : PySem.W.Frag) : Sp := fun vs H Q _ => ∃ (a : Addr) (ps : List Pt) (i j : Nat), vs = [.ref a, .int (i : Int), .int (j : Int)] ∧ Cs H a ps ∧ i < ps.length ∧ j < ps.length ∧ (∀ p ∈ ps, Sm p) ∧ Q (.bl (smeet ps i j)) H
theorem scMeet : FnScope ["corners", "i", "j", "a", "b", "c", "d"] ["corners", "i", "j"] (defScope sMeet) := ⟨rfl, rfl, rfl, by decide +kernel, rfl, by decide +kernel, by decide +kernel⟩
theorem ok_meet {f fT fA fO : Addr} {fd fdT fdA fdO : FuncData} (F : Fun K "sides_meet" "sides_meet" sMeet f fd) (T : Gd P w K mg base "turn" 1 ["a", "b", "c"] (spTurn K) fT fdT)
    (Af : Gd P w K mg base "corner_after" 1 ["corners", "k"] (spAfter K) fA fdA) (On : Gd P w K mg base "lies_on_side" 2 ["point", "a", "b"] (spOn K) fO fdO) : FnOk P w K mg base CX0 3 f fd ["corners", "i", "j"] (spMeet K) := by
  refine F.ok scMeet (fun vs H Q E h => ?_) (fun cdv A outer s H vs Q E hr h => ?_)
  · obtain ⟨a, ps, i, j, rfl, _⟩ := h
    rfl
  · obtain ⟨o, ps, i, j, rfl, cs, hi, hj, sm, q⟩ := h
    have hr1 : Room 1 _ := hr.mono (by decide)
    refine ⟨_, pss_cons (ps_set (i := 3) scMeet.nd rfl (.inl rfl) (pe_ix ix_list (pv 0) (pv 1) (fun _ _ => rfl)))
      (pss_cons (ps_set (i := 4) scMeet.nd rfl (.inl rfl) (pe_call Af.ok hr1 (by rfl) Af.gl Af.kp Af.bd .nil pass0 (pa_cons (pv 0) (pa_cons (pv 1) pa_nil))))
      (pss_cons (ps_set (i := 5) scMeet.nd rfl (.inl rfl) (pe_ix ix_list (pv 0) (pv 2) (fun _ _ => rfl)))
      (pss_cons (ps_set (i := 6) scMeet.nd rfl (.inl rfl) (pe_call Af.ok hr1 (by rfl) Af.gl Af.kp Af.bd .nil pass0 (pa_cons (pv 0) (pa_cons (pv 2) pa_nil))))
      (pss_cons (ps_if (PW.pt (pw_or (pt_val (pe_call On.ok hr (by rfl) On.gl On.kp On.bd .nil pass0 (pa_cons (pv 3) (pa_cons (pv 5) (pa_cons (pv 6) pa_nil)))))
          (pw_or (pt_val (pe_call On.ok hr (by rfl) On.gl On.kp On.bd .nil pass0 (pa_cons (pv 4) (pa_cons (pv 5) (pa_cons (pv 6) pa_nil)))))
          (pw_or (pt_val (pe_call On.ok hr (by rfl) On.gl On.kp On.bd .nil pass0 (pa_cons (pv 5) (pa_cons (pv 3) (pa_cons (pv 4) pa_nil)))))
          (pw_or1 (pt_val (pe_call On.ok hr (by rfl) On.gl On.kp On.bd .nil pass0 (pa_cons (pv 6) (pa_cons (pv 3) (pa_cons (pv 4) pa_nil)))))))))) (pss_one (ps_ret pe_bl)) pss_nil)
      (pss_one (ps_ret (pe_and (pe_cmpR op_lt (pe_op op_mulW (pe_call T.ok hr1 (by rfl) T.gl T.kp T.bd .nil pass0 (pa_cons (pv 3) (pa_cons (pv 4) (pa_cons (pv 5) pa_nil)))) (pe_call T.ok hr1 (by rfl) T.gl T.kp T.bd .nil pass0 (pa_cons (pv 3) (pa_cons (pv 4) (pa_cons (pv 6) pa_nil))))) pe_int (nomark _))
        (pe_one (pe_cmpR op_lt (pe_op op_mulW (pe_call T.ok hr1 (by rfl) T.gl T.kp T.bd .nil pass0 (pa_cons (pv 5) (pa_cons (pv 6) (pa_cons (pv 3) pa_nil)))) (pe_call T.ok hr1 (by rfl) T.gl T.kp T.bd .nil pass0 (pa_cons (pv 5) (pa_cons (pv 6) (pa_cons (pv 4) pa_nil))))) pe_int (nomark _)))))))))), ?_⟩
    have h0 : 0 < ps.length := by omega
    obtain ⟨pa, xs, g1, _, g3, ea⟩ := cs.get hi
    refine ⟨_, rfl, _, rfl, o, _, _, _, rfl, rfl, SqL.of g1, atI_nat g3, ?_⟩
    refine ⟨_, rfl, _, rfl, o, ps, i, rfl, cs, h0, fun pb eb => ?_⟩
    obtain ⟨pc, xs, g1, _, g3, ec⟩ := cs.get hj
    refine ⟨_, rfl, _, rfl, o, _, _, _, rfl, rfl, SqL.of g1, atI_nat g3, ?_⟩
    refine ⟨_, rfl, _, rfl, o, ps, j, rfl, cs, h0, fun pd ed => ?_⟩
    have sa := sm _ (gt_mem h0 i)
    have sb := sm _ (gt_mem h0 (i + 1))
    have sc := sm _ (gt_mem h0 j)
    have sd := sm _ (gt_mem h0 (j + 1))
    unfold smeet at q
    dsimp only at q
    generalize gt ps i = a at *
    generalize gt ps (i + 1) = b at *
    generalize gt ps j = c at *
    generalize gt ps (j + 1) = d at *
    refine ⟨_, rfl, _, rfl, _, rfl, pa, pc, pd, a, c, d, rfl, SqT.of ea, SqT.of ec, SqT.of ed, sa, sc, sd, _, rfl, ite2 (fun e => ?_) (fun e => ?_)⟩
    · rw [e, Bool.true_or, if_pos rfl] at q
      exact iteT q
    · rw [Bool.eq_false_iff.mpr e, Bool.false_or] at q
      refine ⟨_, rfl, _, rfl, _, rfl, pb, pc, pd, b, c, d, rfl, SqT.of eb, SqT.of ec, SqT.of ed, sb, sc, sd, _, rfl, ite2 (fun e => ?_) (fun e => ?_)⟩
      · rw [e, Bool.true_or, if_pos rfl] at q
        exact iteT q
      · rw [Bool.eq_false_iff.mpr e, Bool.false_or] at q
        refine ⟨_, rfl, _, rfl, _, rfl, pc, pa, pb, c, a, b, rfl, SqT.of ec, SqT.of ea, SqT.of eb, sc, sa, sb, _, rfl, ite2 (fun e => ?_) (fun e => ?_)⟩
        · rw [e, Bool.true_or, if_pos rfl] at q
          exact iteT q
        · rw [Bool.eq_false_iff.mpr e, Bool.false_or] at q
          refine ⟨_, rfl, _, rfl, _, rfl, pd, pa, pb, d, a, b, rfl, SqT.of ed, SqT.of ea, SqT.of eb, sd, sa, sb, _, rfl, ite2 (fun e => ?_) (fun e => ?_)⟩
          · rw [if_pos e] at q
            exact q
          · rw [if_neg e] at q
            have W : ∀ {x y : Int}, x.natAbs < 2 ^ 6003 → y.natAbs < 2 ^ 6003 → CMulW x y := fun h1 h2 => wide_mul h1 h2 (by decide) (by decide) (by decide)
            refine ⟨_, rfl, _, rfl, _, rfl, pa, pb, pc, a, b, c, rfl, SqT.of ea, SqT.of eb, SqT.of ec, sa, sb, sc, _, rfl, _, rfl, _, rfl, pa, pb, pd, a, b, d, rfl, SqT.of ea, SqT.of eb, SqT.of ed, sa, sb, sd,
              _, _, rfl, rfl, W (tn_small sa sb sc) (tn_small sa sb sd), _, _, rfl, rfl, _, rfl, ite2 (fun e => ?_) (fun e => ?_)⟩
            · refine ⟨_, rfl, _, rfl, _, rfl, pc, pd, pa, c, d, a, rfl, SqT.of ec, SqT.of ed, SqT.of ea, sc, sd, sa, _, rfl, _, rfl, _, rfl, pc, pd, pb, c, d, b, rfl, SqT.of ec, SqT.of ed, SqT.of eb, sc, sd, sb,
                _, _, rfl, rfl, W (tn_small sc sd sa) (tn_small sc sd sb), _, _, rfl, rfl, ?_⟩
              rw [e, Bool.true_and] at q
              exact q
            · rw [Bool.eq_false_iff.mpr e, Bool.false_and] at q
              exact q
/-! ### turns_everywhere, twice_size -/
def spTurnsEv (K : PySem.W.Frag) : Sp := fun vs H Q _ => ∃ (a : Addr) (ps : List Pt), vs = [.ref a] ∧ Cs H a ps ∧ ps.length ≤ 1000 ∧ (∀ p ∈ ps, Sm p) ∧ ∀ H', Same H H' → Q (.bl (tEv ps)) H'
theorem scTurnsEv : FnScope ["corners", "k"] ["corners"] (defScope sTurnsEv) := ⟨rfl, rfl, rfl, by decide +kernel, rfl, by decide +kernel, by decide +kernel⟩
theorem ok_turnsEv {f fT : Addr} {fd fdT : FuncData} (F : Fun K "turns_everywhere" "turns_everywhere" sTurnsEv f fd) (B : Bu mg) (T : Gd P w K mg base "turn_at" 2 ["corners", "k"] (spTurnAt K) fT fdT) : FnOk P w K mg base CX0 3 f fd ["corners"] (spTurnsEv K) := by
  refine F.ok scTurnsEv (fun vs H Q E h => ?_) (fun cdv A outer s H vs Q E hr h => ?_)
  · obtain ⟨a, ps, rfl, _⟩ := h
    rfl
  · obtain ⟨a, ps, rfl, cs, hl, sm, q⟩ := h
    refine ⟨_, pss_one (ps_ret (pe_callB (cr_all rfl) (by rfl) B.all (by decide +kernel) (pa_cons
      (pe_lc (own := [("k", 1)]) (g := gName 1) (tt := tYes) rfl scTurnsEv.nd (pi_range1 rfl B.range (pa_cons (pe_callB call_len_seq (by rfl) B.len PySem.boot_len (pa_cons (pv 0) pa_nil)) pa_nil))
        (blkOk_by (N := ["corners", "k"]) (sc := defScope sTurnsEv) (by decide +kernel)) (fun _ _ _ _ _ => pg_name (i := 1) scTurnsEv.nd rfl (Or.inl rfl)) (fun _ _ _ _ _ => pts_nil)
        (fun _ _ _ _ _ => pe_cmpR op_ne (pe_call T.ok hr (by rfl) T.gl T.kp T.bd .nil pass0 (pa_cons (pv 0) (pa_cons (pv 1) pa_nil))) pe_int (nomark _))) pa_nil))), ?_⟩
    obtain ⟨xs, g1, g2⟩ := cs.lst
    refine ⟨_, rfl, a, _, rfl, .inl (SqL.of g1), _, rfl, by rw [g2]; omega, by rw [g2]; omega, fun D hD => ?_⟩
    rw [g2, Int.toNat_natCast]
    let g : Nat → Bool := fun k => decide (tn (gt ps (k + ps.length - 1)) (gt ps k) (gt ps (k + 1)) ≠ 0)
    refine lc_range (fun i H' => Same H H' ∧ H' D = some (.lst ((((List.range ps.length).map g).take i).map V.bl))) ⟨same_upd hD, upd_same⟩ (fun i H' hi ⟨s1, d1⟩ => ?_) (fun H' ⟨s1, d1⟩ => ?_)
    · refine ⟨rfl, ?_⟩
      refine ⟨_, rfl, _, rfl, a, ps, i, by rw [Int.zero_add]; rfl, cs.same s1, hi, sm, rfl, ?_⟩
      refine ⟨_, d1, ?_, fun b o e => ?_, ?_⟩
      · rw [List.length_map, List.length_take]
        exact small_of (Nat.le_trans (Nat.min_le_left _ _) (by omega))
      · rw [upd_ne (ne_of_none e hD)]
        exact s1 _ _ e
      · rw [upd_same, range_take_succ g hi, List.map_append]
        have e : (!decide (V.int (tn (gt ps (i + ps.length - 1)) (gt ps i) (gt ps (i + 1))) = V.int 0)) = g i := by
          show _ = decide _
          by_cases z : tn (gt ps (i + ps.length - 1)) (gt ps i) (gt ps (i + 1)) = 0
          · simp [z]
          · simp [z]
        rw [e]
        rfl
    · refine ⟨D, _, rfl, SqL.of d1, ?_⟩
      rw [List.take_of_length_le (by simp), all_take]
      exact q H' s1
def spTwice (K : PySem.W.Frag) : Sp := fun vs H Q _ => ∃ (a : Addr) (ps : List Pt), vs = [.ref a] ∧ Cs H a ps ∧ ps.length ≤ 1000 ∧ (∀ p ∈ ps, Sm p) ∧ ∀ H', Same H H' → Q (.int (tw ps)) H'
theorem scTwice : FnScope ["corners", "k"] ["corners"] (defScope sTwice) := ⟨rfl, rfl, rfl, by decide +kernel, rfl, by decide +kernel, by decide +kernel⟩
theorem sm0 : Sm (0, 0) := ⟨Nat.pow_pos (by decide), Nat.pow_pos (by decide)⟩
theorem ok_twice {f fT fA : Addr} {fd fdT fdA : FuncData} (F : Fun K "twice_size" "twice_size" sTwice f fd) (B : Bu mg) (T : Gd P w K mg base "turn" 1 ["a", "b", "c"] (spTurn K) fT fdT)
    (Af : Gd P w K mg base "corner_after" 1 ["corners", "k"] (spAfter K) fA fdA) : FnOk P w K mg base CX0 2 f fd ["corners"] (spTwice K) := by
  refine F.ok scTwice (fun vs H Q E h => ?_) (fun cdv A outer s H vs Q E hr h => ?_)
  · obtain ⟨a, ps, rfl, _⟩ := h
    rfl
  · obtain ⟨a, ps, rfl, cs, hl, sm, q⟩ := h
    refine ⟨_, pss_one (ps_ret (pe_callB (cr_sum rfl) (by rfl) B.sum (by decide +kernel) (pa_cons
      (pe_lc (own := [("k", 1)]) (g := gName 1) (tt := tYes) rfl scTwice.nd (pi_range1 rfl B.range (pa_cons (pe_callB call_len_seq (by rfl) B.len PySem.boot_len (pa_cons (pv 0) pa_nil)) pa_nil))
        (blkOk_by (N := ["corners", "k"]) (sc := defScope sTwice) (by decide +kernel)) (fun _ _ _ _ _ => pg_name (i := 1) scTwice.nd rfl (Or.inl rfl)) (fun _ _ _ _ _ => pts_nil)
        (fun _ _ _ _ _ => pe_call T.ok hr (by rfl) T.gl T.kp T.bd .nil pass0 (pa_cons (pe_tup (pa_cons pe_int (pa_cons pe_int pa_nil))) (pa_cons (pe_ix (r := rIxL K) ix_list (pv 0) (pv 1) (fun _ _ => rfl))
          (pa_cons (pe_call Af.ok hr (by rfl) Af.gl Af.kp Af.bd .nil pass0 (pa_cons (pv 0) (pa_cons (pv 1) pa_nil))) pa_nil))))) pa_nil))), ?_⟩
    obtain ⟨xs, g1, g2⟩ := cs.lst
    refine ⟨_, rfl, a, _, rfl, .inl (SqL.of g1), _, rfl, by rw [g2]; omega, by rw [g2]; omega, fun D hD => ?_⟩
    rw [g2, Int.toNat_natCast]
    let g : Nat → Int := fun k => tn (0, 0) (gt ps k) (gt ps (k + 1))
    refine lc_range (fun i H' => Same H H' ∧ H' D = some (.lst ((((List.range ps.length).map g).take i).map V.int))) ⟨same_upd hD, upd_same⟩ (fun i H' hi ⟨s1, d1⟩ => ?_) (fun H' ⟨s1, d1⟩ => ?_)
    · refine ⟨rfl, ?_⟩
      have h0 : 0 < ps.length := by omega
      refine ⟨(by show 2 ≤ sizeLine; decide), fun z hz => ?_⟩
      have s2 : Same H' (upd H' z (.tup [.int 0, .int 0])) := same_upd hz
      have c2 := (cs.same s1).same s2
      obtain ⟨pb, xs2, k1, k2, k3, eb⟩ := c2.get hi
      refine ⟨_, rfl, _, rfl, a, _, _, _, rfl, rfl, SqL.of k1, at_of (Int.zero_add _) k3, ?_⟩
      refine ⟨_, rfl, _, rfl, a, ps, i, by rw [Int.zero_add]; rfl, c2, h0, fun pc ec => ?_⟩
      refine ⟨z, pb, pc, (0, 0), gt ps i, gt ps (i + 1), rfl, SqT.of upd_same, SqT.of eb, SqT.of ec, sm0, sm _ (gt_mem h0 _), sm _ (gt_mem h0 _), ?_⟩
      refine ⟨_, s2 _ _ d1, ?_, fun b o e => ?_, ?_⟩
      · rw [List.length_map, List.length_take]
        exact small_of (Nat.le_trans (Nat.min_le_left _ _) (by omega))
      · rw [upd_ne (ne_of_none e hD)]
        exact s2 _ _ (s1 _ _ e)
      · rw [upd_same, range_take_succ g hi, List.map_append]
        rfl
    · refine ⟨D, _, rfl, SqL.of d1, ?_⟩
      rw [List.take_of_length_le (by simp)]
      exact q H' s1
end
end Fg

set_option Elab.async false
set_option linter.all false
set_option maxRecDepth 100000
set_option maxHeartbeats 2000000
namespace Fg
open PySem PySem.Spec PyProof.Rows L2
open PySem.W (Codec)
section
variable {P : Program} {w : World} {K : PySem.W.Frag} {mg : Str → Option Value} {base : Heap}
/-! ### sides_keep_apart -/
def pairOk (l : List Pt) (i j : Nat) : Bool := decide (j ≤ i + 1) || decide ((j + 1) % l.length = i) || !smeet l i j
theorem apart_iff (l : List Pt) : apart l = true ↔ ∀ i, i < l.length → ∀ j, j < l.length → pairOk l i j = true := by
  unfold apart
  simp only [List.all_eq_true, List.mem_range]
  rfl
def spApart (K : PySem.W.Frag) : Sp := fun vs H Q _ => ∃ (a : Addr) (ps : List Pt), vs = [.ref a] ∧ Cs H a ps ∧ ps.length ≤ 1000 ∧ (∀ p ∈ ps, Sm p) ∧ Q (.bl (apart ps)) H
theorem scApart : FnScope ["corners", "i", "j", "follows"] ["corners"] (defScope sApart) := ⟨rfl, rfl, rfl, by decide +kernel, rfl, by decide +kernel, by decide +kernel⟩
theorem ok_apart {f fM : Addr} {fd fdM : FuncData} (F : Fun K "sides_keep_apart" "sides_keep_apart" sApart f fd) (B : Bu mg) (M : Gd P w K mg base "sides_meet" 3 ["corners", "i", "j"] (spMeet K) fM fdM) : FnOk P w K mg base CX0 4 f fd ["corners"] (spApart K) := by
  refine F.ok scApart (fun vs H Q E h => ?_) (fun cdv A outer s H vs Q E hr h => ?_)
  · obtain ⟨a, ps, rfl, _⟩ := h
    rfl
  · obtain ⟨a, ps, rfl, cs, hl, sm, q⟩ := h
    obtain ⟨xs, g1, g2⟩ := cs.lst
    refine ⟨_, pss_cons (ps_for PassesOwn.never rfl (pi_range1 (by rfl) B.range (pa_cons (pe_callB call_len_seq (by rfl) B.len PySem.boot_len (pa_cons (pv 0) pa_nil)) pa_nil)) (pg_name (i := 1) scApart.nd rfl (Or.inl rfl))
        (pss_one (ps_for PassesOwn.never rfl (pi_range2 (by rfl) B.range (pa_cons (pe_op op_add (pv 1) pe_int) (pa_cons (pe_callB call_len_seq (by rfl) B.len PySem.boot_len (pa_cons (pv 0) pa_nil)) pa_nil))) (pg_name (i := 2) scApart.nd rfl (Or.inl rfl))
          (pss_cons (ps_set (i := 3) scApart.nd rfl (Or.inl rfl) (pe_cmpR op_eq (pe_op op_mod (pe_op op_add (pv 2) pe_int) (pe_callB call_len_seq (by rfl) B.len PySem.boot_len (pa_cons (pv 0) pa_nil))) (pv 1) (nomark _)))
          (pss_one (ps_if (PW.pt (pw_and (pt_not (pt_val (pv 3))) (pw_and1 (pt_val (pe_call M.ok hr (by rfl) M.gl M.kp M.bd .nil pass0 (pa_cons (pv 0) (pa_cons (pv 1) (pa_cons (pv 2) pa_nil)))))))) (pss_one (ps_ret pe_bl)) pss_nil))))))
      (pss_one (ps_ret pe_bl)), ?_⟩
    refine ⟨_, rfl, a, _, rfl, .inl (SqL.of g1), _, rfl, by rw [g2]; omega, by rw [g2]; omega, ?_⟩
    rw [g2, Int.toNat_natCast]
    refine for_range (fun t σ H' => ∃ v1 v2 v3, σ = [some (.ref a), v1, v2, v3] ∧ H' = H ∧ ∀ i, i < t → ∀ j, j < ps.length → pairOk ps i j = true) ⟨none, none, none, rfl, rfl, fun i hi => by omega⟩ ?_ ?_
    · rintro i σ H' hi ⟨v1, v2, v3, rfl, rfl, hok⟩
      refine ⟨_, rfl, _, _, rfl, rfl, _, rfl, a, _, rfl, .inl (SqL.of g1), _, _, rfl, by rw [g2]; omega, ?_⟩
      rw [g2]
      refine for_range (fun t σ H'' => ∃ v2 v3, σ = [some (.ref a), some (.int (0 + (i : Int))), v2, v3] ∧ H'' = H' ∧ ∀ j, j < i + 2 + t → j < ps.length → pairOk ps i j = true) ⟨v2, v3, rfl, rfl, fun j hj _ => ?_⟩ ?_ ?_
      · unfold pairOk
        rw [decide_eq_true (show j ≤ i + 1 by omega)]
        rfl
      · rintro t σ H'' ht ⟨v2, v3, rfl, rfl, hin⟩
        have hj : i + 2 + t < ps.length := by omega
        have ej : (0 + (i : Int) + 2 + (t : Int)) = ((i + 2 + t : Nat) : Int) := by omega
        refine ⟨_, rfl, _, _, rfl, rfl, _, rfl, a, _, rfl, .inl (SqL.of g1), _, _, rfl, rfl, by rw [g2]; omega, _, rfl, rfl, ?_⟩
        refine ⟨_, rfl, _, rfl, ?_⟩
        have e0 : decide (V.int ((0 + (i : Int) + 2 + (t : Int) + 1) % (xs.length : Int)) = V.int (0 + (i : Int))) = decide ((i + 2 + t + 1) % ps.length = i) := by
          rw [g2]
          by_cases z : (i + 2 + t + 1) % ps.length = i
          · rw [decide_eq_true z]
            refine decide_eq_true (congrArg V.int ?_)
            rw [show (0 + (i : Int) + 2 + (t : Int) + 1) = ((i + 2 + t + 1 : Nat) : Int) by omega, ← Int.natCast_emod, z, Int.zero_add]
          · rw [decide_eq_false z]
            refine decide_eq_false fun z2 => z ?_
            have z3 := V.int.inj z2
            rw [show (0 + (i : Int) + 2 + (t : Int) + 1) = ((i + 2 + t + 1 : Nat) : Int) by omega, ← Int.natCast_emod] at z3
            omega
        rw [e0]
        have nextOk : pairOk ps i (i + 2 + t) = true → ∀ j, j < i + 2 + (t + 1) → j < ps.length → pairOk ps i j = true := fun h j hj1 hj2 => by
          by_cases z : j < i + 2 + t
          · exact hin j z hj2
          · rw [show j = i + 2 + t by omega]
            exact h
        refine ite2 (fun e => ?_) (fun e => ?_)
        · refine ⟨_, rfl, _, rfl, _, rfl, a, ps, i, i + 2 + t, ?_, cs, hi, hj, sm, _, rfl, ite2 (fun e1 => ?_) (fun e1 => ?_)⟩
          · rw [Int.zero_add]
            show [V.ref a, V.int (i : Int), V.int ((i : Int) + 2 + (t : Int))] = _
            rw [show ((i : Int) + 2 + (t : Int)) = ((i + 2 + t : Nat) : Int) by omega]
          · have z : apart ps = false := by
              rw [Bool.eq_false_iff]
              intro z
              have z2 := (apart_iff ps).mp z i hi _ hj
              unfold pairOk at z2
              rw [e1, decide_eq_false (show ¬ (i + 2 + t ≤ i + 1) by omega)] at z2
              rw [Bool.not_eq_true'] at e
              rw [e] at z2
              exact Bool.noConfusion z2
            rw [z] at q
            exact q
          · refine ⟨_, _, rfl, rfl, nextOk ?_⟩
            unfold pairOk
            rw [Bool.eq_false_iff.mpr e1]
            simp
        · have e2 : decide ((i + 2 + t + 1) % ps.length = i) = true := by
            revert e
            cases decide ((i + 2 + t + 1) % ps.length = i) <;> simp
          refine iteF ⟨_, _, rfl, rfl, nextOk ?_⟩
          unfold pairOk
          rw [e2]
          simp
      · rintro σ H'' ⟨v2, v3, rfl, rfl, hin⟩
        refine ⟨_, _, _, rfl, rfl, fun i2 hi2 j hj => ?_⟩
        by_cases z : i2 < i
        · exact hok i2 z j hj
        · rw [show i2 = i by omega]
          exact hin j (by omega) hj
    · rintro σ H' ⟨v1, v2, v3, rfl, rfl, hok⟩
      have z : apart ps = true := (apart_iff ps).mpr hok
      rw [z] at q
      exact q
end
end Fg

set_option Elab.async false
set_option linter.all false
set_option maxRecDepth 100000
set_option maxHeartbeats 2000000
namespace Fg
open PySem PySem.Spec PyProof.Rows L2
open PySem.W (Codec)
/-- the constants of the top -/
structure Co (mg : Str → Option Value) : Prop where
  told : ∃ t, mg "NOT_AS_TOLD" = some (.int (-22) t)
  few : ∃ t, mg "FEWEST_CORNERS" = some (.int 3 t)
  most : ∃ t, mg "MOST_CORNERS" = some (.int 8 t)
  far : ∃ t, mg "FARTHEST" = some (.int 50 t)
section
variable {P : Program} {w : World} {K : PySem.W.Frag} {mg : Str → Option Value} {base : Heap}
def spForm (K : PySem.W.Frag) : Sp := fun vs H Q _ => ∃ (a : Addr) (ns : List Int), vs = [.ref a] ∧ SqL K H a (ns.map V.int) ∧ ns.length ≤ 2000 ∧ ∀ H', Same H H' → Q (.bl (form ns)) H'
theorem scForm : FnScope ["f", "number"] ["f"] (defScope sForm) := ⟨rfl, rfl, rfl, by decide +kernel, rfl, by decide +kernel, by decide +kernel⟩
theorem abs_is (x : Int) : decide ((if x < 0 then -x else x) ≤ 50) = decide (x.natAbs ≤ 50) := by
  by_cases h : x < 0
  · rw [if_pos h]
    by_cases z : x.natAbs ≤ 50
    · rw [decide_eq_true z, decide_eq_true (by omega)]
    · rw [decide_eq_false z, decide_eq_false (by omega)]
  · rw [if_neg h]
    by_cases z : x.natAbs ≤ 50
    · rw [decide_eq_true z, decide_eq_true (by omega)]
    · rw [decide_eq_false z, decide_eq_false (by omega)]
theorem ok_form {f : Addr} {fd : FuncData} (F : Fun K "has_form_of_figure" "has_form_of_figure" sForm f fd) (B : Bu mg) (C : Co mg) : FnOk P w K mg base CX0 1 f fd ["f"] (spForm K) := by
  obtain ⟨t1, c1⟩ := C.few
  obtain ⟨t2, c2⟩ := C.most
  obtain ⟨t3, c3⟩ := C.far
  refine F.ok scForm (fun vs H Q E h => ?_) (fun cdv A outer s H vs Q E hr h => ?_)
  · obtain ⟨a, ns, rfl, _⟩ := h
    rfl
  · obtain ⟨a, ns, rfl, hS, hl, q⟩ := h
    refine ⟨_, pss_cons (ps_if (pt_cmpR op_ne (pe_op op_mod (pe_callB call_len_seq (by rfl) B.len PySem.boot_len (pa_cons (pv 0) pa_nil)) pe_int) pe_int (nomark _)) (pss_one (ps_ret pe_bl)) pss_nil)
      (pss_cons (ps_if (PW.pt (pw_or (pt_cmpR op_lt (pe_callB call_len_seq (by rfl) B.len PySem.boot_len (pa_cons (pv 0) pa_nil)) (pe_op op_mul pe_int (pe_glob (v := .int 3) rfl c1 ⟨_, rfl⟩)) (nomark _))
          (pw_or1 (pt_cmpR op_gt (pe_callB call_len_seq (by rfl) B.len PySem.boot_len (pa_cons (pv 0) pa_nil)) (pe_op op_mul pe_int (pe_glob (v := .int 8) rfl c2 ⟨_, rfl⟩)) (nomark _))))) (pss_one (ps_ret pe_bl)) pss_nil)
      (pss_one (ps_ret (pe_callB (cr_all rfl) (by rfl) B.all (by decide +kernel) (pa_cons
        (pe_lc (own := [("number", 1)]) (g := gName 1) (tt := tYes) rfl scForm.nd (pi_list (pv 0))
          (blkOk_by (N := ["f", "number"]) (sc := defScope sForm) (by decide +kernel)) (fun _ _ _ _ _ => pg_name (i := 1) scForm.nd rfl (Or.inl rfl)) (fun _ _ _ _ _ => pts_nil)
          (fun _ _ _ _ _ => pe_cmpR op_le (pe_callB call_abs (by rfl) B.abs (by decide +kernel) (pa_cons (pv 1) pa_nil)) (pe_glob (v := .int 50) rfl c3 ⟨_, rfl⟩) (nomark _))) pa_nil))))), ?_⟩
    have el : (((ns.map V.int).length : Nat) : Int) = (ns.length : Int) := by rw [List.length_map]
    refine ⟨_, rfl, a, _, rfl, .inl hS, _, _, rfl, rfl, (by show (0 : Int) < 2; decide), rfl, _, rfl, ?_⟩
    unfold form at q
    rw [el]
    have e1 : (!decide (V.int ((ns.length : Int) % 2) = V.int 0)) = !decide (ns.length % 2 = 0) := by
      congr 1
      by_cases z : ns.length % 2 = 0
      · rw [decide_eq_true z]
        exact decide_eq_true (congrArg V.int (by omega))
      · rw [decide_eq_false z]
        exact decide_eq_false fun z2 => z (by have := V.int.inj z2; omega)
    rw [e1]
    refine ite2 (fun e => ?_) (fun e => ?_)
    · rw [Bool.not_eq_true'] at e
      rw [e, Bool.false_and, Bool.false_and] at q
      exact q H (Same.refl H)
    · have e2 : decide (ns.length % 2 = 0) = true := by
        revert e
        cases decide (ns.length % 2 = 0) <;> simp
      rw [e2, Bool.true_and] at q
      refine ⟨_, rfl, a, _, rfl, .inl hS, _, _, rfl, rfl, .inl ⟨by decide, by decide⟩, _, _, rfl, rfl, _, rfl, ?_⟩
      rw [el]
      refine ite2 (fun e => ?_) (fun e => ?_)
      · have e3 := of_decide_eq_true e
        rw [decide_eq_false (show ¬ 6 ≤ ns.length by omega), Bool.false_and, Bool.false_and] at q
        exact iteT (q H (Same.refl H))
      · have e3 : ¬ (ns.length : Int) < 2 * 3 := fun z => e (decide_eq_true z)
        rw [decide_eq_true (show 6 ≤ ns.length by omega), Bool.true_and] at q
        refine ⟨_, rfl, a, _, rfl, .inl hS, _, _, rfl, rfl, .inl ⟨by decide, by decide⟩, _, _, rfl, rfl, _, rfl, ?_⟩
        rw [el]
        refine ite2 (fun e => ?_) (fun e => ?_)
        · have e4 := of_decide_eq_true e
          rw [decide_eq_false (show ¬ ns.length ≤ 16 by omega), Bool.false_and] at q
          exact q H (Same.refl H)
        · have e4 : ¬ (2 * 8 : Int) < (ns.length : Int) := fun z => e (decide_eq_true z)
          rw [decide_eq_true (show ns.length ≤ 16 by omega), Bool.true_and] at q
          refine ⟨_, rfl, a, rfl, ⟨_, hS⟩, fun D hD => ?_⟩
          let g : Int → Bool := fun x => decide (x.natAbs ≤ 50)
          refine lc_list (K := K) (a := a) (xs := ns.map V.int) (fun i H' => Same H H' ∧ H' D = some (.lst (((ns.map g).take i).map V.bl))) ⟨same_upd hD, upd_same⟩ (fun i H' _ ⟨s1, _⟩ => s1.seq hS) (fun i x H' hi ⟨s1, d1⟩ => ?_) (fun H' ⟨s1, d1⟩ => ?_)
          · obtain ⟨z, hz, rfl⟩ : ∃ z, ns[i]? = some z ∧ x = V.int z := by
              rw [List.getElem?_map] at hi
              cases e : ns[i]? with
              | none =>
                rw [e] at hi
                cases hi
              | some z =>
                rw [e] at hi
                exact ⟨z, rfl, (Option.some.inj hi).symm⟩
            refine ⟨rfl, ?_⟩
            refine ⟨_, rfl, z, rfl, _, _, rfl, rfl, _, d1, ?_, fun b o e => ?_, ?_⟩
            · rw [List.length_map, List.length_take, List.length_map]
              exact small_two (Nat.le_trans (Nat.min_le_right _ _) hl)
            · rw [upd_ne (ne_of_none e hD)]
              exact s1 _ _ e
            · rw [upd_same, map_take_succ g hz, List.map_append]
              dsimp only
              rw [abs_is]
              rfl
          · refine ⟨D, _, rfl, SqL.of d1, ?_⟩
            rw [List.take_of_length_le (by simp), List.all_map]
            exact q H' s1
/-! ### corners_of -/
theorem prs_get : ∀ (ns : List Int) (i : Nat), 2 * i + 1 < ns.length → ∃ x y, ns[2 * i]? = some x ∧ ns[2 * i + 1]? = some y ∧ (prs ns)[i]? = some (x, y)
  | [], i, h => by simp at h
  | [_], i, h => by simp at h
  | x :: y :: l, 0, _ => ⟨x, y, rfl, rfl, rfl⟩
  | x :: y :: l, i + 1, h => by
    obtain ⟨u, v, h1, h2, h3⟩ := prs_get l i (by simp at h; omega)
    refine ⟨u, v, ?_, ?_, h3⟩
    · rw [show 2 * (i + 1) = 2 * i + 1 + 1 by omega]
      exact h1
    · rw [show 2 * (i + 1) + 1 = 2 * i + 1 + 1 + 1 by omega]
      exact h2
def spCorners (K : PySem.W.Frag) : Sp := fun vs H Q _ => ∃ (a : Addr) (ns : List Int), vs = [.ref a] ∧ SqL K H a (ns.map V.int) ∧ ns.length ≤ 2000 ∧ ns.length % 2 = 0 ∧
  ∀ H' p, Same H H' → H p = none → Cs H' p (prs ns) → Q (.ref p) H'
theorem scCorners : FnScope ["f", "k"] ["f"] (defScope sCorners) := ⟨rfl, rfl, rfl, by decide +kernel, rfl, by decide +kernel, by decide +kernel⟩
theorem ok_corners {f : Addr} {fd : FuncData} (F : Fun K "corners_of" "corners_of" sCorners f fd) (B : Bu mg) : FnOk P w K mg base CX0 1 f fd ["f"] (spCorners K) := by
  refine F.ok scCorners (fun vs H Q E h => ?_) (fun cdv A outer s H vs Q E hr h => ?_)
  · obtain ⟨a, ns, rfl, _⟩ := h
    rfl
  · obtain ⟨a, ns, rfl, hS, hl, h2, q⟩ := h
    refine ⟨_, pss_one (ps_ret
      (pe_lc (own := [("k", 1)]) (g := gName 1) (tt := tYes) rfl scCorners.nd (pi_range3 rfl B.range (pa_cons pe_int (pa_cons (pe_callB call_len_seq (by rfl) B.len PySem.boot_len (pa_cons (pv 0) pa_nil)) (pa_cons pe_int pa_nil))))
        (blkOk_by (N := ["f", "k"]) (sc := defScope sCorners) (by decide +kernel)) (fun _ _ _ _ _ => pg_name (i := 1) scCorners.nd rfl (Or.inl rfl)) (fun _ _ _ _ _ => pts_nil)
        (fun _ _ _ _ _ => pe_tup (pa_cons (pe_ix (r := rIxL K) ix_list (pv 0) (pv 1) (fun _ _ => rfl)) (pa_cons (pe_ix (r := rIxL K) ix_list (pv 0) (pe_op op_add (pv 1) pe_int) (fun _ _ => rfl)) pa_nil))))), ?_⟩
    refine ⟨_, rfl, a, _, rfl, .inl hS, _, _, _, ns.length / 2, rfl, ?_, fun D hD => ?_⟩
    · rw [List.length_map]
      exact rg_two hl h2
    have el : (prs ns).length = ns.length / 2 := prs_length ns
    refine lc_it walk_rangeC (fun i H' => Same H H' ∧ ∃ as : List Addr, H' D = some (.lst (as.map V.ref)) ∧ as.length = i ∧ ∀ (j : Nat) (p : Pt), j < i → (prs ns)[j]? = some p → ∃ b, as[j]? = some b ∧ H' b = some (.tup (ptV p)))
      ⟨same_upd hD, [], upd_same, rfl, fun j p hj _ => by omega⟩ (fun _ _ _ _ => trivial) ?_ ?_
    · rintro i x H1 H' hi ⟨s1, as, d1, la, hit⟩ ⟨rfl, rfl⟩
      obtain ⟨u, v, k1, k2, k3⟩ := prs_get ns i (by omega)
      refine ⟨rfl, ?_⟩
      have hA : SqL K H' a (ns.map V.int) := s1.seq hS
      refine ⟨_, rfl, _, rfl, a, _, _, .int u, rfl, rfl, hA, at_of (j := 2 * i) (by omega) (by rw [List.getElem?_map, k1]; rfl), ?_⟩
      refine ⟨_, rfl, _, rfl, _, _, rfl, rfl, a, _, _, .int v, rfl, rfl, hA, at_of (j := 2 * i + 1) (by omega) (by rw [List.getElem?_map, k2]; rfl), ?_⟩
      refine ⟨(by show 2 ≤ sizeLine; decide), fun z hz => ?_⟩
      have s2 : Same H' (upd H' z (.tup [.int u, .int v])) := same_upd hz
      refine ⟨_, s2 _ _ d1, ?_, fun b o e => ?_, as ++ [z], ?_, ?_, ?_⟩
      · rw [List.length_map]
        exact small_two (by omega)
      · rw [upd_ne (ne_of_none e hD)]
        exact s2 _ _ (s1 _ _ e)
      · rw [upd_same, List.map_append]
        rfl
      · rw [List.length_append, la]
        rfl
      · intro j p hj hp
        by_cases e : j < i
        · obtain ⟨b, b1, b2⟩ := hit j p e hp
          refine ⟨b, ?_, ?_⟩
          · rw [List.getElem?_append_left (by omega)]
            exact b1
          · rw [upd_ne (ne_of (s2 _ _ b2) (s2 _ _ d1) (by intro q; cases q))]
            exact s2 _ _ b2
        · have e2 : j = i := by omega
          subst e2
          have e3 : p = (u, v) := Option.some.inj (hp.symm.trans k3)
          subst e3
          refine ⟨z, ?_, ?_⟩
          · rw [List.getElem?_append_right (by omega), la, Nat.sub_self]
            rfl
          · rw [upd_ne (ne_of_none d1 hz).symm]
            exact upd_same
    · rintro H' ⟨s1, as, d1, la, hit⟩
      refine q H' D s1 hD ⟨as, d1, by rw [la, el], fun j p hp => hit j p ?_ hp⟩
      have := (List.getElem?_eq_some_iff.mp hp).1
      omega
end
end Fg

set_option Elab.async false
set_option linter.all false
set_option maxRecDepth 100000
set_option maxHeartbeats 2000000
namespace Fg
open PySem PySem.Spec PyProof.Rows L2
open PySem.W (Codec)
section
variable {P : Program} {w : World} {K : PySem.W.Frag} {mg : Str → Option Value} {base : Heap}
theorem prs_mem : ∀ (ns : List Int) (p : Pt), p ∈ prs ns → p.1 ∈ ns ∧ p.2 ∈ ns
  | [], p, h => by cases h
  | [_], p, h => by cases h
  | x :: y :: l, p, h => by
    rcases List.mem_cons.mp h with e | e
    · subst e
      exact ⟨by simp, by simp⟩
    · obtain ⟨h1, h2⟩ := prs_mem l p e
      exact ⟨by simp [h1], by simp [h2]⟩
theorem pow3000 : 50 < 2 ^ 3000 := by
  have h : 2 ^ 6 ≤ 2 ^ 3000 := Nat.pow_le_pow_right (by decide) (by decide)
  exact Nat.lt_of_lt_of_le (by decide) h
theorem form_sm {ns : List Int} (h : form ns = true) : (∀ p ∈ prs ns, Sm p) ∧ ns.length % 2 = 0 ∧ 6 ≤ ns.length ∧ ns.length ≤ 16 := by
  unfold form at h
  simp only [Bool.and_eq_true, decide_eq_true_eq, List.all_eq_true] at h
  obtain ⟨⟨h1, h2, h3⟩, h4⟩ := h
  refine ⟨fun p hp => ?_, h1, h2, h3⟩
  obtain ⟨m1, m2⟩ := prs_mem ns p hp
  exact ⟨Nat.lt_of_le_of_lt (h4 _ m1) pow3000, Nat.lt_of_le_of_lt (h4 _ m2) pow3000⟩
def spFig (K : PySem.W.Frag) : Sp := fun vs H Q _ => ∃ (a : Addr) (ns : List Int), vs = [.ref a] ∧ SqL K H a (ns.map V.int) ∧ ns.length ≤ 2000 ∧ ∀ H', Same H H' → Q (.bl (fig ns)) H'
theorem scFig : FnScope ["f", "corners"] ["f"] (defScope sFig) := ⟨rfl, rfl, rfl, by decide +kernel, rfl, by decide +kernel, by decide +kernel⟩
theorem ok_fig {f f1 f2 f3 f4 f5 : Addr} {fd fd1 fd2 fd3 fd4 fd5 : FuncData} (F : Fun K "is_figure" "is_figure" sFig f fd) (Fm : Gd P w K mg base "has_form_of_figure" 1 ["f"] (spForm K) f1 fd1) (Cr : Gd P w K mg base "corners_of" 1 ["f"] (spCorners K) f2 fd2)
    (Te : Gd P w K mg base "turns_everywhere" 3 ["corners"] (spTurnsEv K) f3 fd3) (Ap : Gd P w K mg base "sides_keep_apart" 4 ["corners"] (spApart K) f4 fd4) (Tw : Gd P w K mg base "twice_size" 2 ["corners"] (spTwice K) f5 fd5) : FnOk P w K mg base CX0 5 f fd ["f"] (spFig K) := by
  refine F.ok scFig (fun vs H Q E h => ?_) (fun cdv A outer s H vs Q E hr h => ?_)
  · obtain ⟨a, ns, rfl, _⟩ := h
    rfl
  · obtain ⟨a, ns, rfl, hS, hl, q⟩ := h
    have hr1 : Room 1 _ := hr.mono (by decide)
    have hr2 : Room 2 _ := hr.mono (by decide)
    have hr3 : Room 3 _ := hr.mono (by decide)
    refine ⟨_, pss_cons (ps_if (pt_not (pt_val (pe_call Fm.ok hr1 (by rfl) Fm.gl Fm.kp Fm.bd .nil pass0 (pa_cons (pv 0) pa_nil)))) (pss_one (ps_ret pe_bl)) pss_nil)
      (pss_cons (ps_set (i := 1) scFig.nd rfl (Or.inl rfl) (pe_call Cr.ok hr1 (by rfl) Cr.gl Cr.kp Cr.bd .nil pass0 (pa_cons (pv 0) pa_nil)))
      (pss_one (ps_ret (pe_and (pe_call Te.ok hr3 (by rfl) Te.gl Te.kp Te.bd .nil pass0 (pa_cons (pv 1) pa_nil)) (pe_and (pe_call Ap.ok hr (by rfl) Ap.gl Ap.kp Ap.bd .nil pass0 (pa_cons (pv 1) pa_nil))
        (pe_one (pe_cmpR op_gt (pe_call Tw.ok hr2 (by rfl) Tw.gl Tw.kp Tw.bd .nil pass0 (pa_cons (pv 1) pa_nil)) pe_int (nomark _)))))))), ?_⟩
    refine ⟨_, rfl, a, ns, rfl, hS, hl, fun H1 s1 => ⟨_, rfl, ?_⟩⟩
    unfold fig at q
    refine ite2 (fun e => ?_) (fun e => ?_)
    · rw [Bool.not_eq_true'] at e
      rw [e, Bool.false_and] at q
      exact q H1 s1
    · have e1 : form ns = true := by
        revert e
        cases form ns <;> simp
      rw [e1, Bool.true_and] at q
      obtain ⟨sm, hev, h6, h16⟩ := form_sm e1
      refine ⟨_, rfl, a, ns, rfl, s1.seq hS, hl, hev, fun H2 p s2 hp cs => ?_⟩
      have pl : (prs ns).length ≤ 1000 := by
        rw [prs_length]
        omega
      refine ⟨_, rfl, p, prs ns, rfl, cs, pl, sm, fun H3 s3 => ⟨_, rfl, ?_⟩⟩
      refine ite2 (fun e => ?_) (fun e => ?_)
      · rw [e, Bool.true_and] at q
        have cs3 := cs.same s3
        refine ⟨_, rfl, p, prs ns, rfl, cs3, pl, sm, _, rfl, ?_⟩
        refine ite2 (fun e => ?_) (fun e => ?_)
        · rw [e, Bool.true_and] at q
          refine ⟨_, rfl, p, prs ns, rfl, cs3, pl, sm, fun H4 s4 => ⟨_, _, rfl, rfl, ?_⟩⟩
          exact q H4 (((s1.trans s2).trans s3).trans s4)
        · rw [Bool.eq_false_iff.mpr e, Bool.false_and] at q
          exact q H3 ((s1.trans s2).trans s3)
      · rw [Bool.eq_false_iff.mpr e, Bool.false_and, Bool.false_and] at q
        exact q H3 ((s1.trans s2).trans s3)
end
end Fg

set_option Elab.async false
set_option linter.all false
set_option maxRecDepth 100000
set_option maxHeartbeats 2000000
namespace Fg
open PySem PySem.Spec PyProof.Rows L2
open PySem.W (Codec)
section
variable {P : Program} {w : World} {K : PySem.W.Frag} {mg : Str → Option Value} {base : Heap}
/-! ### common_factor -/
theorem gcd_step {x y : Int} (hy : 0 < y) : Nat.gcd y.natAbs (x % y).natAbs = Nat.gcd x.natAbs y.natAbs := by
  refine Nat.dvd_antisymm ?_ ?_
  · have h1 : ((Nat.gcd y.natAbs (x % y).natAbs : Nat) : Int) ∣ y := Int.ofNat_dvd_left.mpr (Nat.gcd_dvd_left _ _)
    have h2 : ((Nat.gcd y.natAbs (x % y).natAbs : Nat) : Int) ∣ x % y := Int.ofNat_dvd_left.mpr (Nat.gcd_dvd_right _ _)
    have h3 : ((Nat.gcd y.natAbs (x % y).natAbs : Nat) : Int) ∣ x := by
      have e := Int.mul_ediv_add_emod x y
      have d := Int.dvd_add (Int.dvd_mul_of_dvd_left (c := x / y) h1) h2
      rw [e] at d
      exact d
    exact Nat.dvd_gcd (Int.ofNat_dvd_left.mp h3) (Int.ofNat_dvd_left.mp h1)
  · have h1 : ((Nat.gcd x.natAbs y.natAbs : Nat) : Int) ∣ x := Int.ofNat_dvd_left.mpr (Nat.gcd_dvd_left _ _)
    have h2 : ((Nat.gcd x.natAbs y.natAbs : Nat) : Int) ∣ y := Int.ofNat_dvd_left.mpr (Nat.gcd_dvd_right _ _)
    have h3 : ((Nat.gcd x.natAbs y.natAbs : Nat) : Int) ∣ x % y := by
      rw [Int.emod_def]
      exact Int.dvd_sub h1 (Int.dvd_mul_of_dvd_left h2)
    exact Nat.dvd_gcd (Int.ofNat_dvd_left.mp h2) (Int.ofNat_dvd_left.mp h3)
def spCf (K : PySem.W.Frag) : Sp := fun vs H Q _ => ∃ (a b : Int), vs = [.int a, .int b] ∧ 0 < b ∧ Q (.int ((Nat.gcd a.natAbs b.natAbs : Nat) : Int)) H
theorem scCf : FnScope ["one", "other", "rest"] ["one", "other"] (defScope sCf) := ⟨rfl, rfl, rfl, by decide +kernel, rfl, by decide +kernel, by decide +kernel⟩
theorem ok_cf {f : Addr} {fd : FuncData} (F : Fun K "common_factor" "common_factor" sCf f fd) : FnOk P w K mg base CX0 1 f fd ["one", "other"] (spCf K) := by
  refine F.ok scCf (fun vs H Q E h => ?_) (fun cdv A outer s H vs Q E hr h => ?_)
  · obtain ⟨a, b, rfl, _⟩ := h
    rfl
  · obtain ⟨a, b, rfl, hb, q⟩ := h
    refine ⟨_, pss_cons (ps_while PassesOwn.never (pt_cmpR op_ne (pv 1) pe_int (nomark _))
        (pss_cons (ps_set (i := 2) scCf.nd rfl (Or.inl rfl) (pe_op op_mod (pv 0) (pv 1)))
        (pss_cons (ps_set (i := 0) scCf.nd rfl (Or.inl rfl) (pv 1))
        (pss_one (ps_set (i := 1) scCf.nd rfl (Or.inl rfl) (pv 2))))))
      (pss_one (ps_ret (pv 0))), ?_⟩
    refine ⟨fun m σ H' => ∃ (x y : Int) (v : Option V), σ = [some (.int x), some (.int y), v] ∧ H' = H ∧ m = y.toNat ∧ 0 ≤ y ∧ (y = 0 → 0 ≤ x) ∧ Nat.gcd x.natAbs y.natAbs = Nat.gcd a.natAbs b.natAbs,
      ⟨b.toNat, a, b, none, rfl, rfl, rfl, by omega, by omega, rfl⟩, ?_⟩
    rintro m σ H' ⟨x, y, v, rfl, rfl, rfl, hy, hx, hg⟩
    refine ⟨_, rfl, rfl, _, rfl, ?_⟩
    refine ite2 (fun e => ?_) (fun e => ?_)
    · have y0 : y ≠ 0 := fun z => by
        rw [z] at e
        simp at e
      have yp : 0 < y := by omega
      refine ⟨fun σ' H3 => σ' = [some (.int y), some (.int (x % y)), some (.int (x % y))] ∧ H3 = H', fun σ' H3 ⟨e1, e2⟩ => ⟨(x % y).toNat, ?_, y, x % y, _, e1, e2, rfl, Int.emod_nonneg _ y0, fun _ => by omega, ?_⟩, ?_⟩
      · have := Int.emod_lt_of_pos x yp
        have := Int.emod_nonneg x y0
        omega
      · rw [gcd_step yp, hg]
      · exact ⟨_, rfl, _, rfl, _, _, rfl, rfl, yp, _, rfl, _, rfl, rfl, rfl⟩
    · have y0 : y = 0 := by
        refine Classical.byContradiction fun z => e ?_
        rw [Bool.not_eq_true', decide_eq_false_iff_not]
        exact fun e3 => z (V.int.inj e3)
      subst y0
      refine ⟨_, rfl, ?_⟩
      have h0 := hx rfl
      rw [← hg] at q
      simp only [Int.natAbs_zero, Nat.gcd_zero_right] at q
      rw [show ((x.natAbs : Nat) : Int) = x by omega] at q
      exact q
end
end Fg

set_option Elab.async false
set_option linter.all false
set_option maxRecDepth 100000
set_option maxHeartbeats 2000000
namespace Fg
open PySem PySem.Spec PyProof.Rows L2
open PySem.W (Codec)
section
variable {P : Program} {w : World} {K : PySem.W.Frag} {mg : Str → Option Value} {base : Heap}
/-! ### fraction -/
def spFrac (K : PySem.W.Frag) : Sp := fun vs H Q _ => ∃ (n d : Int), vs = [.int n, .int d] ∧ 0 < d ∧ d.natAbs < 2 ^ 9000 ∧ ∀ H' p, Same H H' → H p = none → H' p = some (.lst ((frc n d).map V.int)) → Q (.ref p) H'
theorem scFrac : FnScope ["upper", "lower", "common"] ["upper", "lower"] (defScope sFrac) := ⟨rfl, rfl, rfl, by decide +kernel, rfl, by decide +kernel, by decide +kernel⟩
theorem gcd_le {n d : Int} (hd : 0 < d) : 0 < ((Nat.gcd n.natAbs d.natAbs : Nat) : Int) ∧ ((Nat.gcd n.natAbs d.natAbs : Nat) : Int).natAbs ≤ d.natAbs := by
  have h1 : 0 < Nat.gcd n.natAbs d.natAbs := Nat.gcd_pos_of_pos_right _ (by omega)
  have h2 : Nat.gcd n.natAbs d.natAbs ≤ d.natAbs := Nat.gcd_le_right _ (by omega)
  omega
theorem ok_frac {f f1 : Addr} {fd fd1 : FuncData} (F : Fun K "fraction" "fraction" sFrac f fd) (Cf : Gd P w K mg base "common_factor" 1 ["one", "other"] (spCf K) f1 fd1) : FnOk P w K mg base CX0 2 f fd ["upper", "lower"] (spFrac K) := by
  refine F.ok scFrac (fun vs H Q E h => ?_) (fun cdv A outer s H vs Q E hr h => ?_)
  · obtain ⟨n, d, rfl, _⟩ := h
    rfl
  · obtain ⟨n, d, rfl, hd, hb, q⟩ := h
    refine ⟨_, pss_cons (ps_set (i := 2) scFrac.nd rfl (Or.inl rfl) (pe_call Cf.ok hr (by rfl) Cf.gl Cf.kp Cf.bd .nil pass0 (pa_cons (pv 0) (pa_cons (pv 1) pa_nil))))
      (pss_one (ps_ret (pe_lst (pa_cons (pe_op op_fdivW (pv 0) (pv 2)) (pa_cons (pe_op op_fdivW (pv 1) (pv 2)) pa_nil))))), ?_⟩
    obtain ⟨g0, g1⟩ := gcd_le (n := n) hd
    have gd := wide_div (i := n) (b := 9000) g0 (Nat.lt_of_le_of_lt g1 hb) (by decide) (by decide)
    have gd2 := wide_div (i := d) (b := 9000) g0 (Nat.lt_of_le_of_lt g1 hb) (by decide) (by decide)
    refine ⟨_, rfl, _, rfl, n, d, rfl, hd, ?_⟩
    refine ⟨_, rfl, _, rfl, _, _, rfl, rfl, gd, _, rfl, _, rfl, _, _, rfl, rfl, gd2, (by show 2 ≤ sizeLine; decide), fun p hp => ?_⟩
    exact q _ p (same_upd hp) hp upd_same
end
end Fg

set_option Elab.async false
set_option linter.all false
set_option maxRecDepth 100000
set_option maxHeartbeats 2000000
namespace Fg
open PySem PySem.Spec PyProof.Rows L2
open PySem.W (Codec)
section
variable {P : Program} {w : World} {K : PySem.W.Frag} {mg : Str → Option Value} {base : Heap}
theorem half_frc (n : Int) : halfOf n = frc n 2 := by
  unfold halfOf frc
  by_cases h : n % 2 = 0
  · rw [if_pos h, show (2 : Int).natAbs = 2 from rfl, gcd_two_even h]
    rfl
  · rw [if_neg h, show (2 : Int).natAbs = 2 from rfl, gcd_two_odd h]
    simp
def spSize (K : PySem.W.Frag) : Sp := fun vs H Q _ => ∃ (a : Addr) (ns : List Int), vs = [.ref a] ∧ SqL K H a (ns.map V.int) ∧ ns.length ≤ 2000 ∧ ∀ H' p, H' p = some (.lst ((mSize ns).map V.int)) → Q (.ref p) H'
theorem scSize : FnScope ["f"] ["f"] (defScope sSize) := ⟨rfl, rfl, rfl, by decide +kernel, rfl, by decide +kernel, by decide +kernel⟩
theorem ok_size {f f1 f2 f3 f4 : Addr} {fd fd1 fd2 fd3 fd4 : FuncData} (F : Fun K "size" "size" sSize f fd) (C : Co mg) (Fg : Gd P w K mg base "is_figure" 5 ["f"] (spFig K) f1 fd1) (Cr : Gd P w K mg base "corners_of" 1 ["f"] (spCorners K) f2 fd2)
    (Tw : Gd P w K mg base "twice_size" 2 ["corners"] (spTwice K) f3 fd3) (Hf : Gd P w K mg base "fraction" 2 ["upper", "lower"] (spFrac K) f4 fd4) : FnOk P w K mg base CX0 6 f fd ["f"] (spSize K) := by
  obtain ⟨t1, c1⟩ := C.told
  refine F.ok scSize (fun vs H Q E h => ?_) (fun cdv A outer s H vs Q E hr h => ?_)
  · obtain ⟨a, ns, rfl, _⟩ := h
    rfl
  · obtain ⟨a, ns, rfl, hS, hl, q⟩ := h
    have hr1 : Room 1 _ := hr.mono (by decide)
    have hr2 : Room 2 _ := hr.mono (by decide)
    refine ⟨_, pss_cons (ps_if (pt_not (pt_val (pe_call Fg.ok hr (by rfl) Fg.gl Fg.kp Fg.bd .nil pass0 (pa_cons (pv 0) pa_nil)))) (pss_one (ps_ret (pe_lst (pa_cons (pe_glob (v := .int (-22)) rfl c1 ⟨_, rfl⟩) pa_nil)))) pss_nil)
      (pss_one (ps_ret (pe_call Hf.ok hr2 (by rfl) Hf.gl Hf.kp Hf.bd .nil pass0 (pa_cons (pe_call Tw.ok hr2 (by rfl) Tw.gl Tw.kp Tw.bd .nil pass0 (pa_cons (pe_call Cr.ok hr1 (by rfl) Cr.gl Cr.kp Cr.bd .nil pass0 (pa_cons (pv 0) pa_nil)) pa_nil)) (pa_cons pe_int pa_nil))))), ?_⟩
    refine ⟨_, rfl, a, ns, rfl, hS, hl, fun H1 s1 => ⟨_, rfl, ?_⟩⟩
    unfold mSize at q
    refine ite2 (fun e => ?_) (fun e => ?_)
    · rw [Bool.not_eq_true'] at e
      rw [e] at q
      refine ⟨(by show 1 ≤ sizeLine; decide), fun p hp => ?_⟩
      exact q _ p upd_same
    · have e1 : fig ns = true := by
        revert e
        cases fig ns <;> simp
      rw [e1, if_pos rfl] at q
      have e2 : form ns = true := by
        unfold fig at e1
        rw [Bool.and_eq_true] at e1
        exact e1.1
      obtain ⟨sm, hev, h6, h16⟩ := form_sm e2
      have pl : (prs ns).length ≤ 1000 := by
        rw [prs_length]
        omega
      refine ⟨_, rfl, a, ns, rfl, s1.seq hS, hl, hev, fun H2 p s2 hp cs => ?_⟩
      refine ⟨p, prs ns, rfl, cs, pl, sm, fun H3 s3 => ?_⟩
      refine ⟨_, _, rfl, by decide, ?_, fun H4 p4 s4 n4 e4 => ?_⟩
      · have h2 : 2 ^ 2 ≤ 2 ^ 9000 := Nat.pow_le_pow_right (by decide) (by decide)
        exact Nat.lt_of_lt_of_le (by decide) h2
      rw [half_frc] at q
      exact q H4 p4 e4
end
end Fg

set_option Elab.async false
set_option linter.all false
set_option maxRecDepth 100000
set_option maxHeartbeats 2000000
namespace Fg
open PySem PySem.Spec PyProof.Rows L2
open PySem.W (Codec)
/-! ### what the top has written -/
theorem all_mk {P : Program} {w : World} {K : PySem.W.Frag} {h : Heap} {mg : Str → Option Value} {fa f0 f1 f2 f3 f4 f5 f6 f7 f8 f9 f10 f11 f12 f13 f14 f15 : Addr} (X : K.In h) (G : h.Ns mainGlobals mg) (hfa : mg "size" = some (.ref fa))
    {od0 an0 od1 an1 od2 an2 od3 an3 od4 an4 od5 an5 od6 an6 od7 an7 od8 an8 od9 an9 od10 an10 od11 an11 od12 an12 od13 an13 od14 an14 od15 an15 : Option Addr} {sl0 sl1 sl2 sl3 sl4 sl5 sl6 sl7 sl8 sl9 sl10 sl11 sl12 sl13 sl14 sl15 : Array (Option Value)} {oc0 kV0 dc0 pm0 cd0 ct0 oc1 kV1 dc1 pm1 cd1 ct1 oc2 kV2 dc2 pm2 cd2 ct2 oc3 kV3 dc3 pm3 cd3 ct3 oc4 kV4 dc4 pm4 cd4 ct4 oc5 kV5 dc5 pm5 cd5 ct5 oc6 kV6 dc6 pm6 cd6 ct6 oc7 kV7 dc7 pm7 cd7 ct7 oc8 kV8 dc8 pm8 cd8 ct8 oc9 kV9 dc9 pm9 cd9 ct9 oc10 kV10 dc10 pm10 cd10 ct10 oc11 kV11 dc11 pm11 cd11 ct11 oc12 kV12 dc12 pm12 cd12 ct12 oc13 kV13 dc13 pm13 cd13 ct13 oc14 kV14 dc14 pm14 cd14 ct14 oc15 kV15 dc15 pm15 cd15 ct15 : Value} {tk0 tk1 tk2 tk3 : Tok}
    (a0 : PySem.W.nsIn K mainGlobals "is_figure" = some (some (.ref f0))) (l0 : K.lookup f0 = some ⟨oc0, od0, .func (PySem.W.fnOf "is_figure" "is_figure" (defArgs sFig) (defBody sFig) (defScope sFig) .none kV0 dc0 pm0 an0 cd0 ct0), sl0⟩) (c0 : PySem.W.codeIn K cd0 "is_figure" = true) (k0 : PySem.W.keepIn K (.ref f0) = true)
    (a1 : PySem.W.nsIn K mainGlobals "has_form_of_figure" = some (some (.ref f1))) (l1 : K.lookup f1 = some ⟨oc1, od1, .func (PySem.W.fnOf "has_form_of_figure" "has_form_of_figure" (defArgs sForm) (defBody sForm) (defScope sForm) .none kV1 dc1 pm1 an1 cd1 ct1), sl1⟩) (c1 : PySem.W.codeIn K cd1 "has_form_of_figure" = true) (k1 : PySem.W.keepIn K (.ref f1) = true)
    (a2 : PySem.W.nsIn K mainGlobals "corners_of" = some (some (.ref f2))) (l2 : K.lookup f2 = some ⟨oc2, od2, .func (PySem.W.fnOf "corners_of" "corners_of" (defArgs sCorners) (defBody sCorners) (defScope sCorners) .none kV2 dc2 pm2 an2 cd2 ct2), sl2⟩) (c2 : PySem.W.codeIn K cd2 "corners_of" = true) (k2 : PySem.W.keepIn K (.ref f2) = true)
    (a3 : PySem.W.nsIn K mainGlobals "corner_before" = some (some (.ref f3))) (l3 : K.lookup f3 = some ⟨oc3, od3, .func (PySem.W.fnOf "corner_before" "corner_before" (defArgs sBefore) (defBody sBefore) (defScope sBefore) .none kV3 dc3 pm3 an3 cd3 ct3), sl3⟩) (c3 : PySem.W.codeIn K cd3 "corner_before" = true) (k3 : PySem.W.keepIn K (.ref f3) = true)
    (a4 : PySem.W.nsIn K mainGlobals "corner_after" = some (some (.ref f4))) (l4 : K.lookup f4 = some ⟨oc4, od4, .func (PySem.W.fnOf "corner_after" "corner_after" (defArgs sAfter) (defBody sAfter) (defScope sAfter) .none kV4 dc4 pm4 an4 cd4 ct4), sl4⟩) (c4 : PySem.W.codeIn K cd4 "corner_after" = true) (k4 : PySem.W.keepIn K (.ref f4) = true)
    (a5 : PySem.W.nsIn K mainGlobals "turn" = some (some (.ref f5))) (l5 : K.lookup f5 = some ⟨oc5, od5, .func (PySem.W.fnOf "turn" "turn" (defArgs sTurn) (defBody sTurn) (defScope sTurn) .none kV5 dc5 pm5 an5 cd5 ct5), sl5⟩) (c5 : PySem.W.codeIn K cd5 "turn" = true) (k5 : PySem.W.keepIn K (.ref f5) = true)
    (a6 : PySem.W.nsIn K mainGlobals "turn_at" = some (some (.ref f6))) (l6 : K.lookup f6 = some ⟨oc6, od6, .func (PySem.W.fnOf "turn_at" "turn_at" (defArgs sTurnAt) (defBody sTurnAt) (defScope sTurnAt) .none kV6 dc6 pm6 an6 cd6 ct6), sl6⟩) (c6 : PySem.W.codeIn K cd6 "turn_at" = true) (k6 : PySem.W.keepIn K (.ref f6) = true)
    (a7 : PySem.W.nsIn K mainGlobals "turns_everywhere" = some (some (.ref f7))) (l7 : K.lookup f7 = some ⟨oc7, od7, .func (PySem.W.fnOf "turns_everywhere" "turns_everywhere" (defArgs sTurnsEv) (defBody sTurnsEv) (defScope sTurnsEv) .none kV7 dc7 pm7 an7 cd7 ct7), sl7⟩) (c7 : PySem.W.codeIn K cd7 "turns_everywhere" = true) (k7 : PySem.W.keepIn K (.ref f7) = true)
    (a8 : PySem.W.nsIn K mainGlobals "twice_size" = some (some (.ref f8))) (l8 : K.lookup f8 = some ⟨oc8, od8, .func (PySem.W.fnOf "twice_size" "twice_size" (defArgs sTwice) (defBody sTwice) (defScope sTwice) .none kV8 dc8 pm8 an8 cd8 ct8), sl8⟩) (c8 : PySem.W.codeIn K cd8 "twice_size" = true) (k8 : PySem.W.keepIn K (.ref f8) = true)
    (a9 : PySem.W.nsIn K mainGlobals "sides_keep_apart" = some (some (.ref f9))) (l9 : K.lookup f9 = some ⟨oc9, od9, .func (PySem.W.fnOf "sides_keep_apart" "sides_keep_apart" (defArgs sApart) (defBody sApart) (defScope sApart) .none kV9 dc9 pm9 an9 cd9 ct9), sl9⟩) (c9 : PySem.W.codeIn K cd9 "sides_keep_apart" = true) (k9 : PySem.W.keepIn K (.ref f9) = true)
    (a10 : PySem.W.nsIn K mainGlobals "sides_meet" = some (some (.ref f10))) (l10 : K.lookup f10 = some ⟨oc10, od10, .func (PySem.W.fnOf "sides_meet" "sides_meet" (defArgs sMeet) (defBody sMeet) (defScope sMeet) .none kV10 dc10 pm10 an10 cd10 ct10), sl10⟩) (c10 : PySem.W.codeIn K cd10 "sides_meet" = true) (k10 : PySem.W.keepIn K (.ref f10) = true)
    (a11 : PySem.W.nsIn K mainGlobals "lies_on_side" = some (some (.ref f11))) (l11 : K.lookup f11 = some ⟨oc11, od11, .func (PySem.W.fnOf "lies_on_side" "lies_on_side" (defArgs sOn) (defBody sOn) (defScope sOn) .none kV11 dc11 pm11 an11 cd11 ct11), sl11⟩) (c11 : PySem.W.codeIn K cd11 "lies_on_side" = true) (k11 : PySem.W.keepIn K (.ref f11) = true)
    (a12 : PySem.W.nsIn K mainGlobals "is_between" = some (some (.ref f12))) (l12 : K.lookup f12 = some ⟨oc12, od12, .func (PySem.W.fnOf "is_between" "is_between" (defArgs sBetween) (defBody sBetween) (defScope sBetween) .none kV12 dc12 pm12 an12 cd12 ct12), sl12⟩) (c12 : PySem.W.codeIn K cd12 "is_between" = true) (k12 : PySem.W.keepIn K (.ref f12) = true)
    (a13 : PySem.W.nsIn K mainGlobals "size" = some (some (.ref f13))) (l13 : K.lookup f13 = some ⟨oc13, od13, .func (PySem.W.fnOf "size" "size" (defArgs sSize) (defBody sSize) (defScope sSize) .none kV13 dc13 pm13 an13 cd13 ct13), sl13⟩) (c13 : PySem.W.codeIn K cd13 "size" = true) (k13 : PySem.W.keepIn K (.ref f13) = true)
    (a14 : PySem.W.nsIn K mainGlobals "common_factor" = some (some (.ref f14))) (l14 : K.lookup f14 = some ⟨oc14, od14, .func (PySem.W.fnOf "common_factor" "common_factor" (defArgs sCf) (defBody sCf) (defScope sCf) .none kV14 dc14 pm14 an14 cd14 ct14), sl14⟩) (c14 : PySem.W.codeIn K cd14 "common_factor" = true) (k14 : PySem.W.keepIn K (.ref f14) = true)
    (a15 : PySem.W.nsIn K mainGlobals "fraction" = some (some (.ref f15))) (l15 : K.lookup f15 = some ⟨oc15, od15, .func (PySem.W.fnOf "fraction" "fraction" (defArgs sFrac) (defBody sFrac) (defScope sFrac) .none kV15 dc15 pm15 an15 cd15 ct15), sl15⟩) (c15 : PySem.W.codeIn K cd15 "fraction" = true) (k15 : PySem.W.keepIn K (.ref f15) = true)
    (n0 : PySem.W.nsIn K mainGlobals "FEWEST_CORNERS" = some (some (.int 3 tk0)))
    (n1 : PySem.W.nsIn K mainGlobals "MOST_CORNERS" = some (some (.int 8 tk1)))
    (n2 : PySem.W.nsIn K mainGlobals "FARTHEST" = some (some (.int 50 tk2)))
    (n3 : PySem.W.nsIn K mainGlobals "NOT_AS_TOLD" = some (some (.int (-22) tk3)))
    (z0 : PySem.W.nsIn K mainGlobals "len" = some none)
    (z1 : PySem.W.nsIn K mainGlobals "range" = some none)
    (z2 : PySem.W.nsIn K mainGlobals "all" = some none)
    (z3 : PySem.W.nsIn K mainGlobals "sum" = some none)
    (z4 : PySem.W.nsIn K mainGlobals "abs" = some none)
    (z5 : PySem.W.nsIn K mainGlobals "min" = some none)
    (z6 : PySem.W.nsIn K mainGlobals "max" = some none)
    : ∃ fd : FuncData, (∀ (s : Shared) (us : List Value), us.length = (["f"] : List Str).length → BindsTo s fd ⟨us, []⟩ ((["f"] : List Str).zip us)) ∧ ∀ base : Heap, K.In base → base.Ns mainGlobals mg → FnOk P w K mg base CX0 6 fa fd ["f"] (spSize K) := by
  have e := hfa.symm.trans (PySem.W.mg_of X G a13)
  cases e
  have F0 := fun_mk (st := sFig) l0 c0 k0
  have b0 := F0.binds (ps := ["f"]) fun _ _ _ _ _ _ us hl => match us, hl with | [_], _ => rfl
  have g0 := PySem.W.mg_of X G a0
  have F1 := fun_mk (st := sForm) l1 c1 k1
  have b1 := F1.binds (ps := ["f"]) fun _ _ _ _ _ _ us hl => match us, hl with | [_], _ => rfl
  have g1 := PySem.W.mg_of X G a1
  have F2 := fun_mk (st := sCorners) l2 c2 k2
  have b2 := F2.binds (ps := ["f"]) fun _ _ _ _ _ _ us hl => match us, hl with | [_], _ => rfl
  have g2 := PySem.W.mg_of X G a2
  have F3 := fun_mk (st := sBefore) l3 c3 k3
  have b3 := F3.binds (ps := ["corners", "k"]) fun _ _ _ _ _ _ us hl => match us, hl with | [_, _], _ => rfl
  have g3 := PySem.W.mg_of X G a3
  have F4 := fun_mk (st := sAfter) l4 c4 k4
  have b4 := F4.binds (ps := ["corners", "k"]) fun _ _ _ _ _ _ us hl => match us, hl with | [_, _], _ => rfl
  have g4 := PySem.W.mg_of X G a4
  have F5 := fun_mk (st := sTurn) l5 c5 k5
  have b5 := F5.binds (ps := ["a", "b", "c"]) fun _ _ _ _ _ _ us hl => match us, hl with | [_, _, _], _ => rfl
  have g5 := PySem.W.mg_of X G a5
  have F6 := fun_mk (st := sTurnAt) l6 c6 k6
  have b6 := F6.binds (ps := ["corners", "k"]) fun _ _ _ _ _ _ us hl => match us, hl with | [_, _], _ => rfl
  have g6 := PySem.W.mg_of X G a6
  have F7 := fun_mk (st := sTurnsEv) l7 c7 k7
  have b7 := F7.binds (ps := ["corners"]) fun _ _ _ _ _ _ us hl => match us, hl with | [_], _ => rfl
  have g7 := PySem.W.mg_of X G a7
  have F8 := fun_mk (st := sTwice) l8 c8 k8
  have b8 := F8.binds (ps := ["corners"]) fun _ _ _ _ _ _ us hl => match us, hl with | [_], _ => rfl
  have g8 := PySem.W.mg_of X G a8
  have F9 := fun_mk (st := sApart) l9 c9 k9
  have b9 := F9.binds (ps := ["corners"]) fun _ _ _ _ _ _ us hl => match us, hl with | [_], _ => rfl
  have g9 := PySem.W.mg_of X G a9
  have F10 := fun_mk (st := sMeet) l10 c10 k10
  have b10 := F10.binds (ps := ["corners", "i", "j"]) fun _ _ _ _ _ _ us hl => match us, hl with | [_, _, _], _ => rfl
  have g10 := PySem.W.mg_of X G a10
  have F11 := fun_mk (st := sOn) l11 c11 k11
  have b11 := F11.binds (ps := ["point", "a", "b"]) fun _ _ _ _ _ _ us hl => match us, hl with | [_, _, _], _ => rfl
  have g11 := PySem.W.mg_of X G a11
  have F12 := fun_mk (st := sBetween) l12 c12 k12
  have b12 := F12.binds (ps := ["number", "one", "other"]) fun _ _ _ _ _ _ us hl => match us, hl with | [_, _, _], _ => rfl
  have g12 := PySem.W.mg_of X G a12
  have F13 := fun_mk (st := sSize) l13 c13 k13
  have b13 := F13.binds (ps := ["f"]) fun _ _ _ _ _ _ us hl => match us, hl with | [_], _ => rfl
  have g13 := PySem.W.mg_of X G a13
  have F14 := fun_mk (st := sCf) l14 c14 k14
  have b14 := F14.binds (ps := ["one", "other"]) fun _ _ _ _ _ _ us hl => match us, hl with | [_, _], _ => rfl
  have g14 := PySem.W.mg_of X G a14
  have F15 := fun_mk (st := sFrac) l15 c15 k15
  have b15 := F15.binds (ps := ["upper", "lower"]) fun _ _ _ _ _ _ us hl => match us, hl with | [_, _], _ => rfl
  have g15 := PySem.W.mg_of X G a15
  have C : Co mg := ⟨⟨_, PySem.W.mg_of X G n3⟩, ⟨_, PySem.W.mg_of X G n0⟩, ⟨_, PySem.W.mg_of X G n1⟩, ⟨_, PySem.W.mg_of X G n2⟩⟩
  have B : Bu mg := ⟨PySem.W.mg_none_of X G z0, PySem.W.mg_none_of X G z1, PySem.W.mg_none_of X G z2, PySem.W.mg_none_of X G z3, PySem.W.mg_none_of X G z4, PySem.W.mg_none_of X G z5, PySem.W.mg_none_of X G z6⟩
  refine ⟨PySem.W.fnOf "size" "size" (defArgs sSize) (defBody sSize) (defScope sSize) .none kV13 dc13 pm13 an13 cd13 ct13, fun s us hu => match us, hu with | [_], _ => .of_eq rfl, fun base _ _ => ?_⟩
  have G1 : Gd P w K mg base "has_form_of_figure" _ _ _ f1 _ := ⟨ok_form F1 B C, g1, k1, b1⟩
  have G2 : Gd P w K mg base "corners_of" _ _ _ f2 _ := ⟨ok_corners F2 B, g2, k2, b2⟩
  have G5 : Gd P w K mg base "turn" _ _ _ f5 _ := ⟨ok_turn F5, g5, k5, b5⟩
  have G3 : Gd P w K mg base "corner_before" _ _ _ f3 _ := ⟨ok_before F3 B, g3, k3, b3⟩
  have G4 : Gd P w K mg base "corner_after" _ _ _ f4 _ := ⟨ok_after F4 B, g4, k4, b4⟩
  have G6 : Gd P w K mg base "turn_at" _ _ _ f6 _ := ⟨ok_turnAt F6 G5 G3 G4, g6, k6, b6⟩
  have G7 : Gd P w K mg base "turns_everywhere" _ _ _ f7 _ := ⟨ok_turnsEv F7 B G6, g7, k7, b7⟩
  have G12 : Gd P w K mg base "is_between" _ _ _ f12 _ := ⟨ok_btw F12 B, g12, k12, b12⟩
  have G11 : Gd P w K mg base "lies_on_side" _ _ _ f11 _ := ⟨ok_on F11 G5 G12, g11, k11, b11⟩
  have G10 : Gd P w K mg base "sides_meet" _ _ _ f10 _ := ⟨ok_meet F10 G5 G4 G11, g10, k10, b10⟩
  have G9 : Gd P w K mg base "sides_keep_apart" _ _ _ f9 _ := ⟨ok_apart F9 B G10, g9, k9, b9⟩
  have G8 : Gd P w K mg base "twice_size" _ _ _ f8 _ := ⟨ok_twice F8 B G5 G4, g8, k8, b8⟩
  have G0 : Gd P w K mg base "is_figure" _ _ _ f0 _ := ⟨ok_fig F0 G1 G2 G7 G9 G8, g0, k0, b0⟩
  have G14 : Gd P w K mg base "common_factor" _ _ _ f14 _ := ⟨ok_cf F14, g14, k14, b14⟩
  have G15 : Gd P w K mg base "fraction" _ _ _ f15 _ := ⟨ok_frac F15 G14, g15, k15, b15⟩
  exact ok_size F13 C G0 G2 G8 G15

end Fg

open PySem PySem.W PyProof.Rows
set_option maxRecDepth 100000 in
set_option maxHeartbeats 0 in
theorem PySem.Challenge.cw_straightfigures_s01_size_holds : PySem.Challenge.rw_straightfigures_s01_size.Holds := by
  w_on; k_headS; (case hw => exact ⟨[.list []], by decide +kernel, by decide +kernel⟩)
  k_fillS
  refine L2.walk_specK (r := PySem.Challenge.rw_straightfigures_s01_size) (k := 6) (CX := L2.CX0) (ps := ["f"]) (sp := Fg.spSize) (by decide +kernel) rfl rfl ⟨rfl, by decide, by decide⟩ (fun w h Y => PySem.W.kIn_of Y) ?F ?S (fun _ _ _ _ z => z)
  case F =>
    intro w mg fa h Y KX G hmg
    refine' Fg.all_mk KX G hmg ?a0 ?l0 ?c0 ?k0 ?a1 ?l1 ?c1 ?k1 ?a2 ?l2 ?c2 ?k2 ?a3 ?l3 ?c3 ?k3 ?a4 ?l4 ?c4 ?k4 ?a5 ?l5 ?c5 ?k5 ?a6 ?l6 ?c6 ?k6 ?a7 ?l7 ?c7 ?k7 ?a8 ?l8 ?c8 ?k8 ?a9 ?l9 ?c9 ?k9 ?a10 ?l10 ?c10 ?k10 ?a11 ?l11 ?c11 ?k11 ?a12 ?l12 ?c12 ?k12 ?a13 ?l13 ?c13 ?k13 ?a14 ?l14 ?c14 ?k14 ?a15 ?l15 ?c15 ?k15 ?n0 ?n1 ?n2 ?n3 ?z0 ?z1 ?z2 ?z3 ?z4 ?z5 ?z6
    (case a0 => k_is); (case l0 => k_is); (case c0 => k_is); (case k0 => k_is); (case a1 => k_is); (case l1 => k_is)
    (case c1 => k_is); (case k1 => k_is); (case a2 => k_is); (case l2 => k_is); (case c2 => k_is); (case k2 => k_is)
    (case a3 => k_is); (case l3 => k_is); (case c3 => k_is); (case k3 => k_is); (case a4 => k_is); (case l4 => k_is)
    (case c4 => k_is); (case k4 => k_is); (case a5 => k_is); (case l5 => k_is); (case c5 => k_is); (case k5 => k_is)
    (case a6 => k_is); (case l6 => k_is); (case c6 => k_is); (case k6 => k_is); (case a7 => k_is); (case l7 => k_is)
    (case c7 => k_is); (case k7 => k_is); (case a8 => k_is); (case l8 => k_is); (case c8 => k_is); (case k8 => k_is)
    (case a9 => k_is); (case l9 => k_is); (case c9 => k_is); (case k9 => k_is); (case a10 => k_is); (case l10 => k_is)
    (case c10 => k_is); (case k10 => k_is); (case a11 => k_is); (case l11 => k_is); (case c11 => k_is); (case k11 => k_is)
    (case a12 => k_is); (case l12 => k_is); (case c12 => k_is); (case k12 => k_is); (case a13 => k_is); (case l13 => k_is)
    (case c13 => k_is); (case k13 => k_is); (case a14 => k_is); (case l14 => k_is); (case c14 => k_is); (case k14 => k_is)
    (case a15 => k_is); (case l15 => k_is); (case c15 => k_is); (case k15 => k_is); (case n0 => k_is); (case n1 => k_is)
    (case n2 => k_is); (case n3 => k_is); (case z0 => k_is); (case z1 => k_is); (case z2 => k_is); (case z3 => k_is)
    (case z4 => k_is); (case z5 => k_is); (case z6 => k_is)
  case S =>
    intro K H xs a hO hwi hask hx
    cases hx with
    | cons h1 h2 =>
      cases h2
      cases h1 with
      | lst hs ha =>
        have e := L2.ints_dw a.1 _ ha
        subst e
        have q : (Codec.inLen 0 2000 a.1 && a.1.all (Codec.inInt (-115792089237316195423570985008687907853269984665640564039457584007913129639935) 115792089237316195423570985008687907853269984665640564039457584007913129639935)) && true = true := hwi
        rw [Bool.and_eq_true, Bool.and_eq_true] at q
        refine ⟨_, a.1, rfl, hs, (Codec.inNat_iff.mp q.1.1).2, fun H' p hp => ?_⟩
        rw [← Fg.size_is] at hp
        exact .lst (L2.SqL.of hp) (L2.dw_ints _)
#print axioms PySem.Challenge.cw_straightfigures_s01_size_holds
