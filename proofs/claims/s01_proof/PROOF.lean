import PyProof.Rows.All
import Wide.All
import OpenK.AllK
import Wide.FinOn
import Open.SpecLaws
import KE.OsGo
import HandS.ForSpec
import HandS.Comp
import HandS.Walk
import HandS.Deep
import HandS.SortOrd
import PyFlatLaws
import PySem.Challenge.RW_strongones_s01_answers
set_option Elab.async false
set_option maxRecDepth 100000
set_option maxHeartbeats 2000000
set_option linter.unusedVariables false
/-! Fractions of the specification, over whole numbers. -/
namespace Sg
open Kp340
open Kp346 (ltF sub maxF)

theorem gcd_pos_right {a b : Int} (hb : 0 < b) : 0 < Nat.gcd a.natAbs b.natAbs :=
  Nat.gcd_pos_of_pos_right _ (by omega)

/-- the gcd as a whole number -/
def gc (a b : Int) : Int := (Nat.gcd a.natAbs b.natAbs : Int)

theorem gc_pos {a b : Int} (hb : 0 < b) : 0 < gc a b := by
  have := gcd_pos_right (a := a) hb
  unfold gc; omega

theorem fr_eq {a b : Int} (hb : 0 < b) : fr a b = (a / gc a b, b / gc a b) := by
  have h := gcd_pos_right (a := a) hb
  unfold fr gc
  have h0 : ¬ Nat.gcd a.natAbs b.natAbs = 0 := by omega
  have hb' : ¬ b < 0 := by omega
  simp only [if_neg h0, if_neg hb']

theorem gc_dvd_left (a b : Int) : gc a b ∣ a := by
  exact Int.gcd_dvd_left a b
theorem gc_dvd_right (a b : Int) : gc a b ∣ b := by
  exact Int.gcd_dvd_right a b

theorem fr_num {a b : Int} (hb : 0 < b) : (fr a b).1 * gc a b = a := by
  rw [fr_eq hb]
  exact Int.ediv_mul_cancel (gc_dvd_left a b)
theorem fr_den {a b : Int} (hb : 0 < b) : (fr a b).2 * gc a b = b := by
  rw [fr_eq hb]
  exact Int.ediv_mul_cancel (gc_dvd_right a b)
theorem fr_den_pos {a b : Int} (hb : 0 < b) : 0 < (fr a b).2 := by
  have h1 := fr_den (a := a) hb
  have h2 := gc_pos (a := a) hb
  rcases Int.lt_trichotomy (fr a b).2 0 with h | h | h
  · have := Int.mul_neg_of_neg_of_pos h h2; omega
  · rw [h] at h1; omega
  · exact h

theorem gc_mul {k a b : Int} (hk : 0 < k) : gc (k * a) (k * b) = k * gc a b := by
  unfold gc
  rw [Int.natAbs_mul, Int.natAbs_mul, Nat.gcd_mul_left]
  have : (k.natAbs : Int) = k := by omega
  rw [Int.natCast_mul, this]

/-- what's in common is taken away -/
theorem fr_mul {k a b : Int} (hk : 0 < k) (hb : 0 < b) : fr (k * a) (k * b) = fr a b := by
  rw [fr_eq (Int.mul_pos hk hb), fr_eq hb, gc_mul hk]
  rw [Int.mul_ediv_mul_of_pos _ _ hk, Int.mul_ediv_mul_of_pos _ _ hk]

/-- two told fractions that are as great are the same -/
theorem fr_congr {a b c d : Int} (hb : 0 < b) (hd : 0 < d) (h : a * d = c * b) : fr a b = fr c d := by
  have e1 : fr a b = fr (d * a) (d * b) := (fr_mul hd hb).symm
  have e2 : fr c d = fr (b * c) (b * d) := (fr_mul hb hd).symm
  rw [e1, e2, Int.mul_comm d a, h, Int.mul_comm c b, Int.mul_comm d b]

theorem fr_fr {a b : Int} (hb : 0 < b) : fr (fr a b).1 (fr a b).2 = fr a b := by
  refine fr_congr (fr_den_pos hb) hb ?_
  have h1 := fr_num (a := a) hb
  have h2 := fr_den (a := a) hb
  generalize (fr a b).1 = x at *
  generalize (fr a b).2 = y at *
  generalize gc a b = g at *
  subst h1 h2
  grind

theorem add_fr {a b c d : Int} (hb : 0 < b) (hd : 0 < d) : add (fr a b) (fr c d) = fr (a * d + c * b) (b * d) := by
  unfold add
  refine fr_congr (Int.mul_pos (fr_den_pos hb) (fr_den_pos hd)) (Int.mul_pos hb hd) ?_
  have h1 := fr_num (a := a) hb
  have h2 := fr_den (a := a) hb
  have h3 := fr_num (a := c) hd
  have h4 := fr_den (a := c) hd
  generalize (fr a b).1 = x at *
  generalize (fr a b).2 = y at *
  generalize (fr c d).1 = z at *
  generalize (fr c d).2 = w at *
  generalize gc a b = g at *
  generalize gc c d = e at *
  subst h1 h2 h3 h4
  grind

theorem mul_fr {a b c d : Int} (hb : 0 < b) (hd : 0 < d) : mul (fr a b) (fr c d) = fr (a * c) (b * d) := by
  unfold mul
  refine fr_congr (Int.mul_pos (fr_den_pos hb) (fr_den_pos hd)) (Int.mul_pos hb hd) ?_
  have h1 := fr_num (a := a) hb
  have h2 := fr_den (a := a) hb
  have h3 := fr_num (a := c) hd
  have h4 := fr_den (a := c) hd
  generalize (fr a b).1 = x at *
  generalize (fr a b).2 = y at *
  generalize (fr c d).1 = z at *
  generalize (fr c d).2 = w at *
  generalize gc a b = g at *
  generalize gc c d = e at *
  subst h1 h2 h3 h4
  grind

theorem gc_neg (a b : Int) : gc (-a) b = gc a b := by
  unfold gc
  rw [Int.natAbs_neg]

theorem neg_fr {a b : Int} (hb : 0 < b) : neg (fr a b) = fr (-a) b := by
  unfold neg
  rw [fr_eq hb, fr_eq hb, gc_neg]
  show (-(a / gc a b), b / gc a b) = _
  rw [Int.neg_ediv_of_dvd (gc_dvd_left a b)]

theorem sub_fr {a b c d : Int} (hb : 0 < b) (hd : 0 < d) : sub (fr a b) (fr c d) = fr (a * d - c * b) (b * d) := by
  unfold sub
  rw [neg_fr hd, add_fr hb hd]
  congr 1
  rw [Int.neg_mul]
  rfl

theorem ltF_fr {a b c d : Int} (hb : 0 < b) (hd : 0 < d) : ltF (fr a b) (fr c d) = decide (a * d < c * b) := by
  unfold ltF
  have h1 := fr_num (a := a) hb
  have h2 := fr_den (a := a) hb
  have h3 := fr_num (a := c) hd
  have h4 := fr_den (a := c) hd
  have g1 := gc_pos (a := a) hb
  have g2 := gc_pos (a := c) hd
  generalize (fr a b).1 = x at *
  generalize (fr a b).2 = y at *
  generalize (fr c d).1 = z at *
  generalize (fr c d).2 = w at *
  generalize gc a b = g at *
  generalize gc c d = e at *
  subst h1 h2 h3 h4
  have hge : 0 < g * e := Int.mul_pos g1 g2
  have e1 : x * g * (w * e) = (g * e) * (x * w) := by grind
  have e2 : z * e * (y * g) = (g * e) * (z * y) := by grind
  rw [e1, e2]
  congr 1
  exact propext ⟨fun h => Int.mul_lt_mul_of_pos_left h hge, fun h => Int.lt_of_mul_lt_mul_left h (Int.le_of_lt hge)⟩

/-! ### with one lower number, a million -/
def MIL : Int := 1000000
theorem mil_pos : 0 < MIL := by decide
/-- so many millionths -/
def ml (a : Int) : Fr := fr a MIL
theorem zero_ml : ((0, 1) : Fr) = ml 0 := by decide
theorem one_ml : ((1, 1) : Fr) = ml MIL := by decide
theorem ltF_ml (a b : Int) : ltF (ml a) (ml b) = decide (a < b) := by
  unfold ml
  rw [ltF_fr mil_pos mil_pos]
  congr 1
  exact propext ⟨fun h => Int.lt_of_mul_lt_mul_right h (Int.le_of_lt mil_pos), fun h => Int.mul_lt_mul_of_pos_right h mil_pos⟩
theorem sub_ml (a b : Int) : sub (ml a) (ml b) = ml (a - b) := by
  unfold ml
  rw [sub_fr mil_pos mil_pos]
  refine fr_congr (by decide) mil_pos ?_
  generalize MIL = m
  grind
theorem add_ml (a b : Int) : add (ml a) (ml b) = ml (a + b) := by
  unfold ml
  rw [add_fr mil_pos mil_pos]
  refine fr_congr (by decide) mil_pos ?_
  generalize MIL = m
  grind
theorem maxF_ml (a b : Int) : maxF (ml a) (ml b) = ml (if a < b then b else a) := by
  unfold maxF
  rw [ltF_ml]
  by_cases h : a < b <;> simp [h]
theorem sumF_ml_go : ∀ (l : List Int) (a : Int), (l.map ml).foldl add (ml a) = ml (a + l.sum)
  | [], a => by simp
  | x :: r, a => by
    rw [List.map_cons, List.foldl_cons, add_ml, sumF_ml_go r, List.sum_cons, Int.add_assoc]
theorem sumF_ml (l : List Int) : sumF (l.map ml) = ml l.sum := by
  unfold sumF
  rw [zero_ml, sumF_ml_go, Int.zero_add]
/-- hundredths -/
theorem hun_ml (t : Int) : fr t 100 = ml (10000 * t) := by
  unfold ml
  refine fr_congr (by decide) mil_pos ?_
  show t * 1000000 = 10000 * t * 100
  omega
theorem ml_inj {a b : Int} (h : ml a = ml b) : a = b := by
  have h1 : ltF (ml a) (ml b) = false := by rw [h, ltF_ml]; simp
  have h2 : ltF (ml b) (ml a) = false := by rw [h, ltF_ml]; simp
  rw [ltF_ml] at h1 h2
  simp at h1 h2
  omega
theorem thrice_ml (w : Int) : sub (mul (3, 1) (mul (fr w 100) (fr w 100))) (mul (2, 1) (mul (fr w 100) (mul (fr w 100) (fr w 100)))) = ml (300 * w * w - 2 * w * w * w) := by
  have e3 : ((3, 1) : Fr) = fr 3 1 := by decide
  have e2 : ((2, 1) : Fr) = fr 2 1 := by decide
  have h : (0 : Int) < 100 := by decide
  have h1 : (0 : Int) < 1 := by decide
  rw [e3, e2, mul_fr h h, mul_fr h (by decide : (0 : Int) < 100 * 100), mul_fr h1 (by decide), mul_fr h1 (by decide), sub_fr (by decide) (by decide)]
  unfold ml
  refine fr_congr (by decide) mil_pos ?_
  show _ * (1000000 : Int) = _
  grind
theorem floor_ml (a : Int) : ((ml a).1 * 100).fdiv (ml a).2 = (a * 100).fdiv MIL := by
  have h1 := fr_num (a := a) mil_pos
  have h2 := fr_den (a := a) mil_pos
  have h3 := fr_den_pos (a := a) mil_pos
  have g1 := gc_pos (a := a) mil_pos
  unfold ml
  rw [Int.fdiv_eq_ediv_of_nonneg _ (Int.le_of_lt h3), Int.fdiv_eq_ediv_of_nonneg _ (Int.le_of_lt mil_pos)]
  generalize (fr a MIL).1 = x at *
  generalize (fr a MIL).2 = y at *
  generalize gc a MIL = g at *
  rw [← h2]
  subst h1
  have e : x * g * 100 = (x * 100) * g := by grind
  rw [e, Int.mul_ediv_mul_of_pos_left _ _ g1]
end Sg

/-! Trees of the specification: fuel goes away, fractions become millionths. -/
namespace Sg
open Kp340
open Kp365 (nodeAt isLeaf isTrue isNode goTrue goUnder leaves NODES)
open Kp346 (ltF sub maxF)

/-- a tree as the calls make it -/
structure WFT (t : Kp365.Desk) : Prop where
  len : t.nodes.length ≤ 20
  kids : ∀ i, ∀ k ∈ (nodeAt t i).kids, k < i
  klen : ∀ i, (nodeAt t i).kids.length ≤ 4
  kind : ∀ i, ((nodeAt t i).kind = 0 ∧ (nodeAt t i).kids = [] ∧ (nodeAt t i).so ≤ 1 ∧ (nodeAt t i).wrong ≤ 100) ∨
    (((nodeAt t i).kind = 1 ∨ (nodeAt t i).kind = 2) ∧ (nodeAt t i).kids ≠ [] ∧ (nodeAt t i).so = 0 ∧ (nodeAt t i).wrong = 0)

theorem nodeAt_out {t : Kp365.Desk} {i : Nat} (h : t.nodes.length ≤ i) : nodeAt t i = ⟨0, 0, 0, []⟩ := by
  unfold nodeAt
  rw [List.getD_eq_getElem?_getD, List.getElem?_eq_none h]
  rfl
theorem nodeAt_in {t : Kp365.Desk} {i : Nat} (h : i < t.nodes.length) : nodeAt t i = t.nodes[i] := by
  unfold nodeAt
  rw [List.getD_eq_getElem?_getD, List.getElem?_eq_getElem h]
  rfl
/-- an inner node is one of the nodes -/
theorem in_of_kind {t : Kp365.Desk} {i : Nat} (h : (nodeAt t i).kind ≠ 0) : i < t.nodes.length := by
  rcases Nat.lt_or_ge i t.nodes.length with h1 | h1
  · exact h1
  · rw [nodeAt_out h1] at h
    exact absurd rfl h

/-! ### true -/
theorem all_congr {α : Type} {f g : α → Bool} : ∀ (l : List α), (∀ x ∈ l, f x = g x) → l.all f = l.all g
  | [], _ => rfl
  | x :: r, h => by
    rw [List.all_cons, List.all_cons, h x (by simp), all_congr r fun y hy => h y (by simp [hy])]
theorem any_congr {α : Type} {f g : α → Bool} : ∀ (l : List α), (∀ x ∈ l, f x = g x) → l.any f = l.any g
  | [], _ => rfl
  | x :: r, h => by
    rw [List.any_cons, List.any_cons, h x (by simp), any_congr r fun y hy => h y (by simp [hy])]
theorem flatMap_congr' {α β : Type} {f g : α → List β} : ∀ (l : List α), (∀ x ∈ l, f x = g x) → l.flatMap f = l.flatMap g
  | [], _ => rfl
  | x :: r, h => by
    rw [List.flatMap_cons, List.flatMap_cons, h x (by simp), flatMap_congr' r fun y hy => h y (by simp [hy])]

theorem goTrue_fuel {t : Kp365.Desk} (hk : ∀ i, ∀ k ∈ (nodeAt t i).kids, k < i) : ∀ (f g i : Nat), i < f → i < g → goTrue t f i = goTrue t g i
  | 0, _, _, h, _ => absurd h (Nat.not_lt_zero _)
  | _ + 1, 0, _, _, h => absurd h (Nat.not_lt_zero _)
  | f + 1, g + 1, i, hf, hg => by
    have ih : ∀ k ∈ (nodeAt t i).kids, goTrue t f k = goTrue t g k := fun k hm => by
      have := hk i k hm
      exact goTrue_fuel hk f g k (by omega) (by omega)
    show (if (nodeAt t i).kind = 0 then (nodeAt t i).so == 1 else if (nodeAt t i).kind = 1 then (nodeAt t i).kids.all (goTrue t f) else (nodeAt t i).kids.any (goTrue t f)) =
      (if (nodeAt t i).kind = 0 then (nodeAt t i).so == 1 else if (nodeAt t i).kind = 1 then (nodeAt t i).kids.all (goTrue t g) else (nodeAt t i).kids.any (goTrue t g))
    rw [all_congr _ ih, any_congr _ ih]

theorem isTrue_eq {t : Kp365.Desk} (w : WFT t) (i : Nat) : isTrue t i = if (nodeAt t i).kind = 0 then (nodeAt t i).so == 1 else if (nodeAt t i).kind = 1 then (nodeAt t i).kids.all (isTrue t) else (nodeAt t i).kids.any (isTrue t) := by
  show (if (nodeAt t i).kind = 0 then (nodeAt t i).so == 1 else if (nodeAt t i).kind = 1 then (nodeAt t i).kids.all (goTrue t NODES) else (nodeAt t i).kids.any (goTrue t NODES)) = _
  by_cases h0 : (nodeAt t i).kind = 0
  · rw [if_pos h0, if_pos h0]
  · have hi := in_of_kind h0
    have hl := w.len
    have ih : ∀ k ∈ (nodeAt t i).kids, goTrue t NODES k = isTrue t k := fun k hm => by
      have := w.kids i k hm
      exact goTrue_fuel w.kids NODES (NODES + 1) k (by show k < 20; omega) (by show k < 21; omega)
    rw [all_congr _ ih, any_congr _ ih]

/-! ### leaves -/
theorem goUnder_fuel {t : Kp365.Desk} (hk : ∀ i, ∀ k ∈ (nodeAt t i).kids, k < i) : ∀ (f g i : Nat), i < f → i < g → goUnder t f i = goUnder t g i
  | 0, _, _, h, _ => absurd h (Nat.not_lt_zero _)
  | _ + 1, 0, _, _, h => absurd h (Nat.not_lt_zero _)
  | f + 1, g + 1, i, hf, hg => by
    have ih : ∀ k ∈ (nodeAt t i).kids, goUnder t f k = goUnder t g k := fun k hm => by
      have := hk i k hm
      exact goUnder_fuel hk f g k (by omega) (by omega)
    show (if (nodeAt t i).kind = 0 then [i] else (nodeAt t i).kids.flatMap (goUnder t f)) = (if (nodeAt t i).kind = 0 then [i] else (nodeAt t i).kids.flatMap (goUnder t g))
    rw [flatMap_congr' _ ih]
theorem leaves_eq {t : Kp365.Desk} (w : WFT t) (i : Nat) : leaves t i = if (nodeAt t i).kind = 0 then [i] else (nodeAt t i).kids.flatMap (leaves t) := by
  show (if (nodeAt t i).kind = 0 then [i] else (nodeAt t i).kids.flatMap (goUnder t NODES)) = _
  by_cases h0 : (nodeAt t i).kind = 0
  · rw [if_pos h0, if_pos h0]
  · have hi := in_of_kind h0
    have hl := w.len
    have ih : ∀ k ∈ (nodeAt t i).kids, goUnder t NODES k = leaves t k := fun k hm => by
      have := w.kids i k hm
      exact goUnder_fuel w.kids NODES (NODES + 1) k (by show k < 20; omega) (by show k < 21; omega)
    rw [flatMap_congr' _ ih]

/-! ### held -/
/-- how often a leaf is misread, in millionths -/
def misW (w : Nat) (thr : Bool) : Int := if thr then 300 * (w : Int) * w - 2 * w * w * w else 10000 * w
def misI (d : Kp366.Desk) (s i : Nat) : Int := misW (nodeAt d.tree i).wrong (s.testBit i)
theorem misread_ml (d : Kp366.Desk) (s i : Nat) : Kp366.misread d s i = ml (misI d s i) := by
  unfold Kp366.misread misI misW
  cases h : s.testBit i
  · simp only [Bool.false_eq_true, if_false]
    unfold Kp366.once
    rw [hun_ml]
  · simp only [if_true]
    unfold Kp366.once
    exact thrice_ml _
theorem misW_bounds (w : Nat) (b : Bool) (h : w ≤ 100) : 0 ≤ misW w b ∧ misW w b ≤ MIL := by
  have key : ∀ b : Bool, ∀ w : Fin 101, 0 ≤ misW w.1 b ∧ misW w.1 b ≤ MIL := by decide +kernel
  exact key b ⟨w, by omega⟩

def minL (a : Int) (l : List Int) : Int := l.foldl (fun (a b : Int) => if b < a then b else a) a
def maxL (a : Int) (l : List Int) : Int := l.foldl (fun (a b : Int) => if a < b then b else a) a
def goHI (d : Kp366.Desk) (s : Nat) : Nat → Nat → Int
  | 0, _ => 0
  | f + 1, i => if (nodeAt d.tree i).kind = 0 then (if (nodeAt d.tree i).so = 1 then MIL - misI d s i else misI d s i) else
    if (nodeAt d.tree i).kind = 1 then minL MIL ((nodeAt d.tree i).kids.map (goHI d s f)) else maxL 0 ((nodeAt d.tree i).kids.map (goHI d s f))
theorem foldMin_ml : ∀ (l : List Int) (a : Int), (l.map ml).foldl (fun (a b : Fr) => if ltF b a then b else a) (ml a) = ml (minL a l)
  | [], a => rfl
  | x :: r, a => by
    rw [List.map_cons, List.foldl_cons]
    have e : (if ltF (ml x) (ml a) = true then ml x else ml a) = ml (if x < a then x else a) := by
      rw [ltF_ml]
      by_cases h : x < a <;> simp [h]
    rw [e, foldMin_ml r]
    rfl
theorem foldMax_ml : ∀ (l : List Int) (a : Int), (l.map ml).foldl maxF (ml a) = ml (maxL a l)
  | [], a => rfl
  | x :: r, a => by
    rw [List.map_cons, List.foldl_cons, maxF_ml, foldMax_ml r]
    rfl
theorem goHeld_ml (d : Kp366.Desk) (s : Nat) : ∀ (f i : Nat), Kp366.goHeld d s f i = ml (goHI d s f i)
  | 0, i => by
    show ((0, 1) : Fr) = ml 0
    exact zero_ml
  | f + 1, i => by
    show (if (nodeAt d.tree i).kind = 0 then (if (nodeAt d.tree i).so = 1 then sub (1, 1) (Kp366.misread d s i) else Kp366.misread d s i) else
      if (nodeAt d.tree i).kind = 1 then ((nodeAt d.tree i).kids.map (Kp366.goHeld d s f)).foldl (fun (a b : Fr) => if ltF b a then b else a) (1, 1) else ((nodeAt d.tree i).kids.map (Kp366.goHeld d s f)).foldl maxF (0, 1)) =
      ml (if (nodeAt d.tree i).kind = 0 then (if (nodeAt d.tree i).so = 1 then MIL - misI d s i else misI d s i) else
    if (nodeAt d.tree i).kind = 1 then minL MIL ((nodeAt d.tree i).kids.map (goHI d s f)) else maxL 0 ((nodeAt d.tree i).kids.map (goHI d s f)))
    have e : (nodeAt d.tree i).kids.map (Kp366.goHeld d s f) = ((nodeAt d.tree i).kids.map (goHI d s f)).map ml := by
      rw [List.map_map]
      exact List.map_congr_left fun k _ => goHeld_ml d s f k
    rw [e, misread_ml, one_ml, zero_ml, sub_ml, foldMin_ml, foldMax_ml]
    by_cases h0 : (nodeAt d.tree i).kind = 0
    · simp only [h0, if_true]
      by_cases h1 : (nodeAt d.tree i).so = 1 <;> simp [h1]
    · by_cases h1 : (nodeAt d.tree i).kind = 1 <;> simp [h0, h1]
def hI (d : Kp366.Desk) (s i : Nat) : Int := goHI d s (NODES + 1) i
theorem held_ml (d : Kp366.Desk) (s i : Nat) : Kp366.held d s i = ml (hI d s i) := goHeld_ml d s _ i
theorem goHI_fuel {d : Kp366.Desk} (s : Nat) (hk : ∀ i, ∀ k ∈ (nodeAt d.tree i).kids, k < i) : ∀ (f g i : Nat), i < f → i < g → goHI d s f i = goHI d s g i
  | 0, _, _, h, _ => absurd h (Nat.not_lt_zero _)
  | _ + 1, 0, _, _, h => absurd h (Nat.not_lt_zero _)
  | f + 1, g + 1, i, hf, hg => by
    have ih : (nodeAt d.tree i).kids.map (goHI d s f) = (nodeAt d.tree i).kids.map (goHI d s g) := List.map_congr_left fun k hm => by
      have := hk i k hm
      exact goHI_fuel s hk f g k (by omega) (by omega)
    unfold goHI
    rw [ih]
theorem hI_eq {d : Kp366.Desk} (w : WFT d.tree) (s i : Nat) : hI d s i = if (nodeAt d.tree i).kind = 0 then (if (nodeAt d.tree i).so = 1 then MIL - misI d s i else misI d s i) else
    if (nodeAt d.tree i).kind = 1 then minL MIL ((nodeAt d.tree i).kids.map (hI d s)) else maxL 0 ((nodeAt d.tree i).kids.map (hI d s)) := by
  show goHI d s (NODES + 1) i = _
  unfold goHI
  by_cases h0 : (nodeAt d.tree i).kind = 0
  · rw [if_pos h0, if_pos h0]
  · have hi := in_of_kind h0
    have hl := w.len
    have ih : (nodeAt d.tree i).kids.map (goHI d s NODES) = (nodeAt d.tree i).kids.map (hI d s) := List.map_congr_left fun k hm => by
      have := w.kids i k hm
      exact goHI_fuel s w.kids NODES (NODES + 1) k (by show k < 20; omega) (by show k < 21; omega)
    rw [ih]

/-! ### least and greatest -/
theorem minL_le : ∀ (l : List Int) (a : Int), minL a l ≤ a
  | [], a => Int.le_refl _
  | x :: r, a => by
    show minL (if x < a then x else a) r ≤ a
    have h1 := minL_le r (if x < a then x else a)
    have h2 : (if x < a then x else a) ≤ a := by split <;> omega
    omega
theorem minL_le_mem : ∀ (l : List Int) (a : Int), ∀ x ∈ l, minL a l ≤ x
  | y :: r, a, x, h => by
    show minL (if y < a then y else a) r ≤ x
    rcases List.mem_cons.mp h with e | e
    · have h1 := minL_le r (if y < a then y else a)
      have h2 : (if y < a then y else a) ≤ y := by split <;> omega
      omega
    · exact minL_le_mem r _ x e
theorem minL_mem : ∀ (l : List Int) (a : Int), minL a l = a ∨ minL a l ∈ l
  | [], a => Or.inl rfl
  | y :: r, a => by
    show minL (if y < a then y else a) r = a ∨ minL (if y < a then y else a) r ∈ y :: r
    rcases minL_mem r (if y < a then y else a) with h | h
    · by_cases c : y < a
      · rw [if_pos c] at h ⊢
        exact Or.inr (by rw [h]; simp)
      · rw [if_neg c] at h ⊢
        exact Or.inl h
    · exact Or.inr (List.mem_cons_of_mem _ h)
theorem maxL_ge : ∀ (l : List Int) (a : Int), a ≤ maxL a l
  | [], a => Int.le_refl _
  | x :: r, a => by
    show a ≤ maxL (if a < x then x else a) r
    have h1 := maxL_ge r (if a < x then x else a)
    have h2 : a ≤ (if a < x then x else a) := by split <;> omega
    omega
theorem maxL_ge_mem : ∀ (l : List Int) (a : Int), ∀ x ∈ l, x ≤ maxL a l
  | y :: r, a, x, h => by
    show x ≤ maxL (if a < y then y else a) r
    rcases List.mem_cons.mp h with e | e
    · have h1 := maxL_ge r (if a < y then y else a)
      have h2 : y ≤ (if a < y then y else a) := by split <;> omega
      omega
    · exact maxL_ge_mem r _ x e
theorem maxL_mem : ∀ (l : List Int) (a : Int), maxL a l = a ∨ maxL a l ∈ l
  | [], a => Or.inl rfl
  | y :: r, a => by
    show maxL (if a < y then y else a) r = a ∨ maxL (if a < y then y else a) r ∈ y :: r
    rcases maxL_mem r (if a < y then y else a) with h | h
    · by_cases c : a < y
      · rw [if_pos c] at h ⊢
        exact Or.inr (by rw [h]; simp)
      · rw [if_neg c] at h ⊢
        exact Or.inl h
    · exact Or.inr (List.mem_cons_of_mem _ h)
/-- the least of a list that isn't empty -/
theorem minL_is {l : List Int} {a m : Int} (hm : m ∈ l) (hle : ∀ x ∈ l, m ≤ x) (ha : ∀ x ∈ l, x ≤ a) : minL a l = m := by
  have h1 := minL_le_mem l a m hm
  have h2 := ha m hm
  rcases minL_mem l a with h | h
  · omega
  · have := hle _ h
    omega
theorem maxL_is {l : List Int} {a m : Int} (hm : m ∈ l) (hle : ∀ x ∈ l, x ≤ m) (ha : ∀ x ∈ l, a ≤ x) : maxL a l = m := by
  have h1 := maxL_ge_mem l a m hm
  have h2 := ha m hm
  rcases maxL_mem l a with h | h
  · omega
  · have := hle _ h
    omega

theorem hI_bounds {d : Kp366.Desk} (w : WFT d.tree) (s : Nat) : ∀ i, 0 ≤ hI d s i ∧ hI d s i ≤ MIL := by
  intro i
  induction i using Nat.strongRecOn with
  | ind i ih =>
    rw [hI_eq w]
    have hM : (0 : Int) ≤ MIL := by decide
    rcases w.kind i with ⟨h0, h1, h2, h3⟩ | ⟨h0, h1, h2, h3⟩
    · rw [if_pos h0]
      have := misW_bounds (nodeAt d.tree i).wrong (s.testBit i) h3
      unfold misI
      split <;> omega
    · have hb : ∀ x ∈ (nodeAt d.tree i).kids.map (hI d s), 0 ≤ x ∧ x ≤ MIL := fun x hx => by
        obtain ⟨k, hk, rfl⟩ := List.mem_map.mp hx
        exact ih k (w.kids i k hk)
      rw [if_neg (by omega)]
      rcases h0 with h0 | h0
      · rw [if_pos h0]
        refine ⟨?_, minL_le _ _⟩
        rcases minL_mem ((nodeAt d.tree i).kids.map (hI d s)) MIL with h | h
        · omega
        · exact (hb _ h).1
      · rw [if_neg (by omega)]
        refine ⟨maxL_ge _ _, ?_⟩
        rcases maxL_mem ((nodeAt d.tree i).kids.map (hI d s)) 0 with h | h
        · omega
        · exact (hb _ h).2

/-- how often who's right wins, in millionths -/
def rI (d : Kp366.Desk) (s i : Nat) : Int := if isTrue d.tree i then hI d s i else MIL - hI d s i
theorem right_ml (d : Kp366.Desk) (s i : Nat) : Kp366.right d s i = ml (rI d s i) := by
  unfold Kp366.right rI
  rw [held_ml, one_ml, sub_ml]
  split <;> rfl
theorem rI_bounds {d : Kp366.Desk} (w : WFT d.tree) (s i : Nat) : 0 ≤ rI d s i ∧ rI d s i ≤ MIL := by
  have := hI_bounds w s i
  unfold rI
  split <;> omega

/-! ### picked, and where it ends -/
theorem pick_min (h : Nat → Int) : ∀ (l : List Nat) (k : Nat), l.foldl (fun (b : Option Nat) (c : Nat) => match b with
    | none => some c
    | some k => if h c < h k then some c else b) (some k) = (k :: l).find? (fun c => decide (h c = minL (h k) (l.map h)))
  | [], k => by
    simp [minL]
  | c :: l, k => by
    rw [List.foldl_cons]
    show l.foldl _ (if h c < h k then some c else some k) = _
    by_cases q : h c < h k
    · rw [if_pos q, pick_min h l c]
      have e : minL (h k) ((c :: l).map h) = minL (h c) (l.map h) := by
        show minL (if h c < h k then h c else h k) (l.map h) = _
        rw [if_pos q]
      rw [e]
      have := minL_le (l.map h) (h c)
      rw [List.find?_cons_of_neg (l := c :: l)]
      simp only [decide_eq_true_eq]
      omega
    · rw [if_neg q, pick_min h l k]
      have e : minL (h k) ((c :: l).map h) = minL (h k) (l.map h) := by
        show minL (if h c < h k then h c else h k) (l.map h) = _
        rw [if_neg q]
      rw [e]
      have := minL_le (l.map h) (h k)
      by_cases z : h k = minL (h k) (l.map h)
      · rw [List.find?_cons_of_pos (by simpa using z), List.find?_cons_of_pos (by simpa using z)]
      · rw [List.find?_cons_of_neg (by simpa using z), List.find?_cons_of_neg (by simpa using z), List.find?_cons_of_neg]
        simp only [decide_eq_true_eq]
        omega
theorem pick_max (h : Nat → Int) : ∀ (l : List Nat) (k : Nat), l.foldl (fun (b : Option Nat) (c : Nat) => match b with
    | none => some c
    | some k => if h k < h c then some c else b) (some k) = (k :: l).find? (fun c => decide (h c = maxL (h k) (l.map h)))
  | [], k => by
    simp [maxL]
  | c :: l, k => by
    rw [List.foldl_cons]
    show l.foldl _ (if h k < h c then some c else some k) = _
    by_cases q : h k < h c
    · rw [if_pos q, pick_max h l c]
      have e : maxL (h k) ((c :: l).map h) = maxL (h c) (l.map h) := by
        show maxL (if h k < h c then h c else h k) (l.map h) = _
        rw [if_pos q]
      rw [e]
      have := maxL_ge (l.map h) (h c)
      rw [List.find?_cons_of_neg (l := c :: l)]
      simp only [decide_eq_true_eq]
      omega
    · rw [if_neg q, pick_max h l k]
      have e : maxL (h k) ((c :: l).map h) = maxL (h k) (l.map h) := by
        show maxL (if h k < h c then h c else h k) (l.map h) = _
        rw [if_neg q]
      rw [e]
      have := maxL_ge (l.map h) (h k)
      by_cases z : h k = maxL (h k) (l.map h)
      · rw [List.find?_cons_of_pos (by simpa using z), List.find?_cons_of_pos (by simpa using z)]
      · rw [List.find?_cons_of_neg (by simpa using z), List.find?_cons_of_neg (by simpa using z), List.find?_cons_of_neg]
        simp only [decide_eq_true_eq]
        omega
theorem foldl_congr' {α β : Type} {f g : β → α → β} (l : List α) (b : β) (h : ∀ b a, f b a = g b a) : l.foldl f b = l.foldl g b := by
  have e : f = g := funext fun b => funext fun a => h b a
  rw [e]
/-- picked is the first child that is held as often as the node itself -/
theorem pick_eq {d : Kp366.Desk} (w : WFT d.tree) (i : Nat) (h0 : (nodeAt d.tree i).kind ≠ 0) :
    Kp367.pick d i = (nodeAt d.tree i).kids.find? (fun c => decide (hI d d.thrice c = hI d d.thrice i)) := by
  unfold Kp367.pick
  rw [if_neg h0]
  rcases w.kind i with ⟨q, _⟩ | ⟨q, hne, _⟩
  · exact absurd q h0
  have hE := hI_eq w d.thrice i
  rw [if_neg h0] at hE
  cases hk : (nodeAt d.tree i).kids with
  | nil => exact absurd hk hne
  | cons k l =>
    rw [hk] at hE
    have hb : ∀ x ∈ (k :: l).map (hI d d.thrice), 0 ≤ x ∧ x ≤ MIL := fun x hx => by
      obtain ⟨c, _, rfl⟩ := List.mem_map.mp hx
      exact hI_bounds w _ _
    rcases q with q | q
    · rw [if_pos q] at hE
      rw [List.foldl_cons]
      rw [foldl_congr' (g := fun (b : Option Nat) (c : Nat) => match b with
        | none => some c
        | some k => if hI d d.thrice c < hI d d.thrice k then some c else b)]
      · rw [pick_min (hI d d.thrice), hE]
        have e : minL MIL ((k :: l).map (hI d d.thrice)) = minL (hI d d.thrice k) (l.map (hI d d.thrice)) := by
          show minL (if hI d d.thrice k < MIL then hI d d.thrice k else MIL) _ = _
          have := (hI_bounds w d.thrice k).2
          by_cases c : hI d d.thrice k < MIL
          · rw [if_pos c]
          · rw [if_neg c]
            congr 1
            omega
        rw [e]
      · intro b a
        cases b with
        | none => rfl
        | some b =>
          simp only [q, if_true, held_ml, ltF_ml, decide_eq_true_eq]
    · rw [if_neg (by omega)] at hE
      rw [List.foldl_cons]
      rw [foldl_congr' (g := fun (b : Option Nat) (c : Nat) => match b with
        | none => some c
        | some k => if hI d d.thrice k < hI d d.thrice c then some c else b)]
      · rw [pick_max (hI d d.thrice), hE]
        have e : maxL 0 ((k :: l).map (hI d d.thrice)) = maxL (hI d d.thrice k) (l.map (hI d d.thrice)) := by
          show maxL (if 0 < hI d d.thrice k then hI d d.thrice k else 0) _ = _
          have := (hI_bounds w d.thrice k).1
          by_cases c : 0 < hI d d.thrice k
          · rw [if_pos c]
          · rw [if_neg c]
            congr 1
            omega
        rw [e]
      · intro b a
        cases b with
        | none => rfl
        | some b =>
          simp only [q, held_ml, ltF_ml, decide_eq_true_eq]
          rfl
/-- some child is held as often as the node -/
theorem pick_some {d : Kp366.Desk} (w : WFT d.tree) (s i : Nat) (h0 : (nodeAt d.tree i).kind ≠ 0) : ∃ k ∈ (nodeAt d.tree i).kids, hI d s k = hI d s i := by
  rcases w.kind i with ⟨q, _⟩ | ⟨q, hne, _⟩
  · exact absurd q h0
  have hE := hI_eq w s i
  rw [if_neg h0] at hE
  obtain ⟨k, l, hk⟩ := List.exists_cons_of_ne_nil hne
  have hb : ∀ x ∈ (nodeAt d.tree i).kids.map (hI d s), 0 ≤ x ∧ x ≤ MIL := fun x hx => by
    obtain ⟨c, _, rfl⟩ := List.mem_map.mp hx
    exact hI_bounds w _ _
  have hkm : hI d s k ∈ (nodeAt d.tree i).kids.map (hI d s) := by rw [hk]; simp
  have fin : hI d s i ∈ (nodeAt d.tree i).kids.map (hI d s) := by
    rw [hE]
    by_cases h1 : (nodeAt d.tree i).kind = 1
    · rw [if_pos h1]
      rcases minL_mem ((nodeAt d.tree i).kids.map (hI d s)) MIL with h | h
      · have e1 := minL_le_mem _ MIL _ hkm
        have e2 := (hb _ hkm).2
        have : minL MIL ((nodeAt d.tree i).kids.map (hI d s)) = hI d s k := by omega
        rw [this]; exact hkm
      · exact h
    · rw [if_neg h1]
      rcases maxL_mem ((nodeAt d.tree i).kids.map (hI d s)) 0 with h | h
      · have e1 := maxL_ge_mem _ 0 _ hkm
        have e2 := (hb _ hkm).1
        have : maxL 0 ((nodeAt d.tree i).kids.map (hI d s)) = hI d s k := by omega
        rw [this]; exact hkm
      · exact h
  obtain ⟨c, hc, e⟩ := List.mem_map.mp fin
  exact ⟨c, hc, e⟩
theorem pick_leaf {d : Kp366.Desk} {i : Nat} (h0 : (nodeAt d.tree i).kind = 0) : Kp367.pick d i = none := by
  unfold Kp367.pick
  rw [if_pos h0]
theorem pick_lt {d : Kp366.Desk} (w : WFT d.tree) {i k : Nat} (h : Kp367.pick d i = some k) : k < i ∧ k ∈ (nodeAt d.tree i).kids ∧ hI d d.thrice k = hI d d.thrice i := by
  by_cases h0 : (nodeAt d.tree i).kind = 0
  · rw [pick_leaf h0] at h; cases h
  · rw [pick_eq w i h0] at h
    have h1 := List.mem_of_find?_eq_some h
    have h2 := List.find?_some h
    exact ⟨w.kids i k h1, h1, by simpa using h2⟩
theorem pick_isSome {d : Kp366.Desk} (w : WFT d.tree) {i : Nat} (h0 : (nodeAt d.tree i).kind ≠ 0) : ∃ k, Kp367.pick d i = some k := by
  rw [pick_eq w i h0]
  obtain ⟨k, hk, e⟩ := pick_some w d.thrice i h0
  cases h : (nodeAt d.tree i).kids.find? (fun c => decide (hI d d.thrice c = hI d d.thrice i)) with
  | some c => exact ⟨c, rfl⟩
  | none =>
    have := List.find?_eq_none.mp h k hk
    simp [e] at this
theorem endsAt_fuel {d : Kp366.Desk} (w : WFT d.tree) : ∀ (f g i : Nat), i < f → i < g → Kp367.endsAt d f i = Kp367.endsAt d g i
  | 0, _, _, h, _ => absurd h (Nat.not_lt_zero _)
  | _ + 1, 0, _, _, h => absurd h (Nat.not_lt_zero _)
  | f + 1, g + 1, i, hf, hg => by
    unfold Kp367.endsAt
    cases h : Kp367.pick d i with
    | none => rfl
    | some k =>
      have := (pick_lt w h).1
      exact endsAt_fuel w f g k (by omega) (by omega)
theorem leafOf_leaf {d : Kp366.Desk} {i : Nat} (h0 : (nodeAt d.tree i).kind = 0) : Kp367.leafOf d i = i := by
  unfold Kp367.leafOf Kp367.endsAt
  rw [pick_leaf h0]
theorem leafOf_pick {d : Kp366.Desk} (w : WFT d.tree) {i k : Nat} (h : Kp367.pick d i = some k) : Kp367.leafOf d i = Kp367.leafOf d k := by
  have hk := (pick_lt w h).1
  have hl := w.len
  have hi : i < d.tree.nodes.length := in_of_kind fun z => by rw [pick_leaf z] at h; cases h
  have e : Kp367.leafOf d i = Kp367.endsAt d NODES k := by
    unfold Kp367.leafOf
    show Kp367.endsAt d (NODES + 1) i = _
    rw [Kp367.endsAt.eq_2, h]
  rw [e]
  exact endsAt_fuel w NODES (NODES + 1) k (by show k < 20; omega) (by show k < 21; omega)
/-- a hearing ends at a leaf, that's held as often as the node -/
theorem leafOf_is {d : Kp366.Desk} (w : WFT d.tree) : ∀ i, (nodeAt d.tree (Kp367.leafOf d i)).kind = 0 ∧ Kp367.leafOf d i ≤ i ∧ hI d d.thrice (Kp367.leafOf d i) = hI d d.thrice i := by
  intro i
  induction i using Nat.strongRecOn with
  | ind i ih =>
    by_cases h0 : (nodeAt d.tree i).kind = 0
    · rw [leafOf_leaf h0]
      exact ⟨h0, Nat.le_refl _, rfl⟩
    · obtain ⟨k, hk⟩ := pick_isSome w h0
      have h1 := pick_lt w hk
      have h2 := ih k h1.1
      rw [leafOf_pick w hk]
      exact ⟨h2.1, by omega, h2.2.2.trans h1.2.2⟩
end Sg

/-! Lists: different ones, sums. -/
namespace Sg
open Kp365 (nodeAt isTrue isNode)
def diffs (ns : List Int) : List Int := ns.foldl (fun (l : List Int) (x : Int) => if l.any (fun y => y == x) then l else l ++ [x]) []
theorem diffs_go_le : ∀ (ns acc : List Int), (ns.foldl (fun (l : List Int) (x : Int) => if l.any (fun y => y == x) then l else l ++ [x]) acc).length ≤ acc.length + ns.length
  | [], acc => by simp
  | x :: r, acc => by
    rw [List.foldl_cons]
    have h := diffs_go_le r (if acc.any (fun y => y == x) then acc else acc ++ [x])
    have h2 : (if acc.any (fun y => y == x) then acc else acc ++ [x]).length ≤ acc.length + 1 := by
      split
      · omega
      · rw [List.length_append]; simp
    rw [List.length_cons]
    omega
theorem diffs_go : ∀ (ns acc : List Int), (ns.foldl (fun (l : List Int) (x : Int) => if l.any (fun y => y == x) then l else l ++ [x]) acc).length = acc.length + ns.length ↔ ns.Nodup ∧ ∀ x ∈ ns, x ∉ acc
  | [], acc => by simp
  | x :: r, acc => by
    rw [List.foldl_cons]
    by_cases hx : x ∈ acc
    · have e : acc.any (fun y => y == x) = true := List.any_eq_true.mpr ⟨x, hx, by simp⟩
      rw [if_pos e]
      have h := diffs_go_le r acc
      constructor
      · intro h'
        rw [List.length_cons] at h'
        omega
      · intro h'
        exact absurd hx (h'.2 x (by simp))
    · have e : ¬ acc.any (fun y => y == x) = true := fun h => by
        obtain ⟨y, hy, e⟩ := List.any_eq_true.mp h
        exact hx (by rw [← eq_of_beq e]; exact hy)
      rw [if_neg e]
      have ih := diffs_go r (acc ++ [x])
      rw [List.length_append, List.length_singleton] at ih
      rw [List.length_cons, show acc.length + (r.length + 1) = acc.length + 1 + r.length by omega, ih]
      simp only [List.mem_append, List.nodup_cons, List.mem_cons, List.not_mem_nil, or_false]
      constructor
      · rintro ⟨h1, h2⟩
        refine ⟨⟨fun h => h2 x h (Or.inr rfl), h1⟩, fun y hy => ?_⟩
        rcases hy with rfl | hy
        · exact hx
        · exact fun h => h2 y hy (Or.inl h)
      · rintro ⟨⟨h1, h2⟩, h3⟩
        refine ⟨h2, fun y hy h => ?_⟩
        rcases h with h | h
        · exact h3 y (Or.inr hy) h
        · exact h1 (h ▸ hy)
theorem diffs_nodup (ns : List Int) : (diffs ns).length = ns.length ↔ ns.Nodup := by
  have h := diffs_go ns []
  rw [List.length_nil, Nat.zero_add] at h
  unfold diffs
  rw [h]
  simp
theorem dups_le : ∀ (n : Nat) (l : List Nat), l.length ≤ n → l.eraseDups.length ≤ l.length
  | _, [], _ => by simp
  | 0, x :: r, h => by simp at h
  | n + 1, x :: r, h => by
    rw [List.eraseDups_cons, List.length_cons, List.length_cons]
    have h1 : (r.filter fun b => !b == x).length ≤ r.length := List.length_filter_le _ _
    have h2 := dups_le n (r.filter fun b => !b == x) (by rw [List.length_cons] at h; omega)
    omega
theorem dups_nodup : ∀ (n : Nat) (l : List Nat), l.length ≤ n → (l.eraseDups.length = l.length ↔ l.Nodup)
  | _, [], _ => by simp
  | 0, x :: r, h => by simp at h
  | n + 1, x :: r, h => by
    rw [List.eraseDups_cons, List.length_cons, List.length_cons, List.nodup_cons]
    have h1 : (r.filter fun b => !b == x).length ≤ r.length := List.length_filter_le _ _
    rw [List.length_cons] at h
    have h2 := dups_le n (r.filter fun b => !b == x) (by omega)
    have h3 := dups_nodup n (r.filter fun b => !b == x) (by omega)
    constructor
    · intro e
      have e1 : (r.filter fun b => !b == x).length = r.length := by omega
      have e2 : r.filter (fun b => !b == x) = r := by
        refine List.filter_eq_self.mpr ?_
        exact List.length_filter_eq_length_iff.mp e1
      rw [e2] at h3 e
      refine ⟨fun hx => ?_, h3.mp (by omega)⟩
      have := List.length_filter_eq_length_iff.mp e1 x hx
      simp at this
    · rintro ⟨hx, hn⟩
      have e2 : r.filter (fun b => !b == x) = r := by
        refine List.filter_eq_self.mpr fun y hy => ?_
        have : y ≠ x := fun e => hx (e ▸ hy)
        simp [this]
      rw [e2] at h3 ⊢
      have := h3.mpr hn
      omega
theorem nodup_int : ∀ (l : List Nat), (l.map fun (k : Nat) => (k : Int)).Nodup ↔ l.Nodup
  | [] => by simp
  | x :: r => by
    rw [List.map_cons, List.nodup_cons, List.nodup_cons, nodup_int r]
    constructor
    · rintro ⟨h1, h2⟩
      exact ⟨fun h => h1 (List.mem_map.mpr ⟨x, h, rfl⟩), h2⟩
    · rintro ⟨h1, h2⟩
      refine ⟨fun h => ?_, h2⟩
      obtain ⟨y, hy, e⟩ := List.mem_map.mp h
      have : y = x := by omega
      exact h1 (this ▸ hy)
/-- both ways of asking whether all are different -/
theorem diffs_dups (l : List Nat) : (diffs (l.map fun (k : Nat) => (k : Int))).length = l.length ↔ l.eraseDups.length = l.length := by
  have h := diffs_nodup (l.map fun (k : Nat) => (k : Int))
  rw [List.length_map] at h
  rw [h, nodup_int, dups_nodup l.length l (Nat.le_refl _)]
/-! ### what a set costs -/
theorem cost_sum (d : Kp366.Desk) (s : Nat) : ∀ n, (((List.range n).foldl (fun (a i : Nat) => if s.testBit i then a + d.price.getD i 0 else a) 0 : Nat) : Int) = ((List.range n).filterMap fun j => if s.testBit j then some ((d.price.getD j 0 : Nat) : Int) else none).sum
  | 0 => rfl
  | n + 1 => by
    rw [List.range_succ, List.foldl_append, List.filterMap_append, List.sum_append, ← cost_sum d s n]
    by_cases h : s.testBit n = true
    · rw [List.filterMap_cons_some (b := ((d.price.getD n 0 : Nat) : Int)) (by rw [if_pos h])]
      simp [h]
    · rw [List.filterMap_cons_none (by rw [if_neg h])]
      simp [h]
theorem nodes_any (t : Kp365.Desk) (p : Kp365.Node → Bool) : ((List.range t.nodes.length).map fun j => p (nodeAt t j)).any id = t.nodes.any p := by
  have e : (List.range t.nodes.length).map (fun j => p (nodeAt t j)) = t.nodes.map p := by
    apply List.ext_getElem?
    intro i
    rw [List.getElem?_map, List.getElem?_map]
    rcases Nat.lt_or_ge i t.nodes.length with h | h
    · rw [List.getElem?_range h, List.getElem?_eq_getElem h]
      simp only [Option.map_some]
      rw [nodeAt_in h]
    · rw [List.getElem?_eq_none (by simpa using h), List.getElem?_eq_none h]
      rfl
  rw [e, List.any_map]
  rfl
end Sg

/-! The calls as one list. -/
namespace Sg
open PyKp367 (shape whole)
def plainNs : List Int := [1, 2, 0, 0, 0, 1, 1, 2, 1, 1, 1, 1, 1, 1, 1, 1, 2, 1, 1, 1, 3, 3, 1, 0, 0, 1, 2]
theorem shape_lt {p : Int} {n k : Nat} (h : shape p = some (n, k)) : ∃ q : Nat, p = (q : Int) ∧ q < 27 ∧ plainNs[q]? = some (n : Int) ∧ ((k = 1 ∧ (q = 2 ∨ q = 3 ∨ q = 14 ∨ q = 15)) ∨ (k = 0 ∧ ¬ (q = 2 ∨ q = 3 ∨ q = 14 ∨ q = 15))) := by
  have hp : ∃ q : Nat, p = (q : Int) ∧ q < 27 := by
    unfold shape at h
    by_cases h0 : 0 ≤ p ∧ p < 27
    · exact ⟨p.toNat, by omega, by omega⟩
    · exfalso
      repeat rw [if_neg (by omega)] at h
      cases h
  obtain ⟨q, rfl, hq⟩ := hp
  refine ⟨q, rfl, hq, ?_⟩
  have key : ∀ q : Fin 27, ∀ x, shape (q.1 : Int) = some x → plainNs[q.1]? = some (x.1 : Int) ∧ ((x.2 = 1 ∧ (q.1 = 2 ∨ q.1 = 3 ∨ q.1 = 14 ∨ q.1 = 15)) ∨ (x.2 = 0 ∧ ¬ (q.1 = 2 ∨ q.1 = 3 ∨ q.1 = 14 ∨ q.1 = 15))) := by
    have e : ∀ q : Fin 27, ∃ x, shape (q.1 : Int) = some x ∧ plainNs[q.1]? = some (x.1 : Int) ∧ ((x.2 = 1 ∧ (q.1 = 2 ∨ q.1 = 3 ∨ q.1 = 14 ∨ q.1 = 15)) ∨ (x.2 = 0 ∧ ¬ (q.1 = 2 ∨ q.1 = 3 ∨ q.1 = 14 ∨ q.1 = 15))) := by
      intro q
      cases hx : shape (q.1 : Int) with
      | none =>
        exfalso
        revert hx
        revert q
        decide +kernel
      | some x =>
        refine ⟨x, rfl, ?_⟩
        have c : ∀ q : Fin 27, (match shape (q.1 : Int) with | none => false | some x => decide (plainNs[q.1]? = some (x.1 : Int)) && decide ((x.2 = 1 ∧ (q.1 = 2 ∨ q.1 = 3 ∨ q.1 = 14 ∨ q.1 = 15)) ∨ (x.2 = 0 ∧ ¬ (q.1 = 2 ∨ q.1 = 3 ∨ q.1 = 14 ∨ q.1 = 15)))) = true := by decide +kernel
        have c1 := c q
        rw [hx] at c1
        simp only [Bool.and_eq_true, decide_eq_true_eq] at c1
        exact c1
    intro q x hx
    obtain ⟨y, hy, r⟩ := e q
    rw [hx] at hy
    cases hy
    exact r
  exact key ⟨q, hq⟩ (n, k) h
/-- a call's number and what it's handed, in one row -/
theorem whole_eq {p : Int} {a : List Int} {xs : List (List Int)} (h : shape p = some (a.length, xs.length)) : whole ((p :: a) :: xs) = [p :: (a ++ xs.flatten)] := by
  obtain ⟨q, rfl, hq, h1, h2⟩ := shape_lt h
  have hx : xs = [] ∨ ∃ r, xs = [r] := by
    match xs, h2 with
    | [], _ => exact Or.inl rfl
    | [r], _ => exact Or.inr ⟨r, rfl⟩
    | _ :: _ :: _, h2 => simp at h2
  have hq' : q = 0 ∨ q = 1 ∨ q = 2 ∨ q = 3 ∨ q = 4 ∨ q = 5 ∨ q = 6 ∨ q = 7 ∨ q = 8 ∨ q = 9 ∨ q = 10 ∨ q = 11 ∨ q = 12 ∨ q = 13 ∨ q = 14 ∨ q = 15 ∨ q = 16 ∨ q = 17 ∨ q = 18 ∨ q = 19 ∨ q = 20 ∨ q = 21 ∨ q = 22 ∨ q = 23 ∨ q = 24 ∨ q = 25 ∨ q = 26 := by omega
  rcases hq' with rfl | rfl | rfl | rfl | rfl | rfl | rfl | rfl | rfl | rfl | rfl | rfl | rfl | rfl | rfl | rfl | rfl | rfl | rfl | rfl | rfl | rfl | rfl | rfl | rfl | rfl | rfl <;>
    (simp [plainNs] at h1 h2; rcases hx with rfl | ⟨r, rfl⟩ <;> simp at h2 <;>
      (rcases a with _ | ⟨x, _ | ⟨y, _ | ⟨z, _ | ⟨u, a⟩⟩⟩⟩ <;> simp only [List.length_nil, List.length_cons] at h1 <;> first | rfl | (exfalso; omega) | (simp [whole])))
end Sg

/-! Trees that are alike below some place; trees as calls change them. -/
namespace Sg
open Kp340 (fr Fr)
open Kp365 (nodeAt isLeaf isTrue isNode leaves)

theorem isTrue_agree {t u : Kp365.Desk} (wt : WFT t) (wu : WFT u) {n : Nat} (h : ∀ j, j < n → nodeAt t j = nodeAt u j) : ∀ i, i < n → isTrue t i = isTrue u i := by
  intro i
  induction i using Nat.strongRecOn with
  | ind i ih =>
    intro hi
    have ik : ∀ k ∈ (nodeAt t i).kids, isTrue t k = isTrue u k := fun k hk => ih k (wt.kids i k hk) (Nat.lt_trans (wt.kids i k hk) hi)
    rw [isTrue_eq wt, isTrue_eq wu, ← h i hi, all_congr _ ik, any_congr _ ik]
theorem hI_agree {d e : Kp366.Desk} (wt : WFT d.tree) (wu : WFT e.tree) {n s s' : Nat} (h : ∀ j, j < n → nodeAt d.tree j = nodeAt e.tree j) (hb : ∀ j, j < n → s.testBit j = s'.testBit j) : ∀ i, i < n → hI d s i = hI e s' i := by
  intro i
  induction i using Nat.strongRecOn with
  | ind i ih =>
    intro hi
    have ik : (nodeAt d.tree i).kids.map (hI d s) = (nodeAt d.tree i).kids.map (hI e s') := List.map_congr_left fun k hk => ih k (wt.kids i k hk) (Nat.lt_trans (wt.kids i k hk) hi)
    rw [hI_eq wt, hI_eq wu, ← h i hi, ik]
    unfold misI
    rw [← h i hi, hb i hi]
theorem rI_agree {d e : Kp366.Desk} (wt : WFT d.tree) (wu : WFT e.tree) {n s s' : Nat} (h : ∀ j, j < n → nodeAt d.tree j = nodeAt e.tree j) (hb : ∀ j, j < n → s.testBit j = s'.testBit j) {i : Nat} (hi : i < n) : rI d s i = rI e s' i := by
  unfold rI
  rw [isTrue_agree wt wu h i hi, hI_agree wt wu h hb i hi]

/-! ### one node more -/
theorem nodeAt_app {t : Kp365.Desk} {x : Kp365.Node} {j : Nat} (h : j < t.nodes.length) : nodeAt ⟨t.nodes ++ [x]⟩ j = nodeAt t j := by
  unfold nodeAt
  rw [List.getD_eq_getElem?_getD, List.getD_eq_getElem?_getD, List.getElem?_append_left h]
theorem nodeAt_new {t : Kp365.Desk} {x : Kp365.Node} : nodeAt ⟨t.nodes ++ [x]⟩ t.nodes.length = x := by
  unfold nodeAt
  rw [List.getD_eq_getElem?_getD, List.getElem?_append_right (Nat.le_refl _), Nat.sub_self]
  rfl
theorem nodeAt_past {t : Kp365.Desk} {x : Kp365.Node} {j : Nat} (h : t.nodes.length < j) : nodeAt ⟨t.nodes ++ [x]⟩ j = ⟨0, 0, 0, []⟩ := by
  refine nodeAt_out ?_
  show (t.nodes ++ [x]).length ≤ j
  rw [List.length_append]
  exact h
/-- a node that may be put behind n others -/
structure OkNode (n : Nat) (x : Kp365.Node) : Prop where
  kids : ∀ k ∈ x.kids, k < n
  klen : x.kids.length ≤ 4
  kind : (x.kind = 0 ∧ x.kids = [] ∧ x.so ≤ 1 ∧ x.wrong ≤ 100) ∨ ((x.kind = 1 ∨ x.kind = 2) ∧ x.kids ≠ [] ∧ x.so = 0 ∧ x.wrong = 0)
theorem wft_app {t : Kp365.Desk} (w : WFT t) {x : Kp365.Node} (hx : OkNode t.nodes.length x) (hl : t.nodes.length < 20) : WFT ⟨t.nodes ++ [x]⟩ := by
  have cs : ∀ i, nodeAt ⟨t.nodes ++ [x]⟩ i = nodeAt t i ∨ (i = t.nodes.length ∧ nodeAt ⟨t.nodes ++ [x]⟩ i = x) := fun i => by
    rcases Nat.lt_trichotomy i t.nodes.length with h | h | h
    · exact Or.inl (nodeAt_app h)
    · subst h
      exact Or.inr ⟨rfl, nodeAt_new⟩
    · left
      rw [nodeAt_past h, nodeAt_out (Nat.le_of_lt h)]
  refine ⟨?_, fun i => ?_, fun i => ?_, fun i => ?_⟩
  · show (t.nodes ++ [x]).length ≤ 20
    rw [List.length_append]
    exact hl
  · rcases cs i with e | ⟨e1, e⟩
    · rw [e]; exact w.kids i
    · rw [e, e1]; exact hx.kids
  · rcases cs i with e | ⟨_, e⟩
    · rw [e]; exact w.klen i
    · rw [e]; exact hx.klen
  · rcases cs i with e | ⟨_, e⟩
    · rw [e]; exact w.kind i
    · rw [e]; exact hx.kind
theorem okKids_ok {t : Kp365.Desk} {l : List Nat} (h : Kp365.okKids t l = true) (k : Nat) (hk : k = 1 ∨ k = 2) : OkNode t.nodes.length ⟨k, 0, 0, l⟩ := by
  unfold Kp365.okKids at h
  simp only [Bool.and_eq_true, decide_eq_true_eq] at h
  obtain ⟨⟨⟨h1, h2⟩, _⟩, h4⟩ := h
  refine ⟨fun j hj => ?_, h2, Or.inr ⟨hk, fun e => ?_, rfl, rfl⟩⟩
  · have := List.all_eq_true.mp h4 j hj
    unfold Kp365.free isNode at this
    simp only [Bool.and_eq_true, decide_eq_true_eq] at this
    exact this.1
  · have e : l = [] := e
    rw [e] at h1
    simp at h1
/-! ### the last one gone -/
theorem nodeAt_drop {t : Kp365.Desk} {j : Nat} (h : j < t.nodes.length - 1) : nodeAt ⟨t.nodes.dropLast⟩ j = nodeAt t j := by
  unfold nodeAt
  rw [List.getD_eq_getElem?_getD, List.getD_eq_getElem?_getD, List.getElem?_dropLast, if_pos h]
theorem wft_drop {t : Kp365.Desk} (w : WFT t) : WFT ⟨t.nodes.dropLast⟩ := by
  have cs : ∀ i, nodeAt ⟨t.nodes.dropLast⟩ i = nodeAt t i ∨ nodeAt ⟨t.nodes.dropLast⟩ i = ⟨0, 0, 0, []⟩ := fun i => by
    rcases Nat.lt_or_ge i (t.nodes.length - 1) with h | h
    · exact Or.inl (nodeAt_drop h)
    · exact Or.inr (nodeAt_out (by show t.nodes.dropLast.length ≤ i; rw [List.length_dropLast]; exact h))
  refine ⟨?_, fun i => ?_, fun i => ?_, fun i => ?_⟩
  · show t.nodes.dropLast.length ≤ 20
    rw [List.length_dropLast]
    have := w.len
    omega
  · rcases cs i with e | e
    · rw [e]; exact w.kids i
    · rw [e]; intro k hk; cases hk
  · rcases cs i with e | e
    · rw [e]; exact w.klen i
    · rw [e]; exact Nat.zero_le _
  · rcases cs i with e | e
    · rw [e]; exact w.kind i
    · rw [e]; exact Or.inl ⟨rfl, rfl, Nat.zero_le _, Nat.zero_le _⟩
/-! ### a leaf flipped -/
theorem nodeAt_set {t : Kp365.Desk} {i : Nat} {x : Kp365.Node} (h : i < t.nodes.length) (j : Nat) : nodeAt ⟨t.nodes.set i x⟩ j = if j = i then x else nodeAt t j := by
  unfold nodeAt
  rw [List.getD_eq_getElem?_getD, List.getD_eq_getElem?_getD, List.getElem?_set]
  by_cases e : j = i
  · subst e
    rw [if_pos rfl, if_pos h, if_pos rfl]
    rfl
  · rw [if_neg fun q => e q.symm, if_neg e]
theorem wft_flip {t : Kp365.Desk} (w : WFT t) {i : Nat} (h : i < t.nodes.length) (h0 : (nodeAt t i).kind = 0) : WFT (Kp365.withSo t i) := by
  have cs : ∀ j, nodeAt (Kp365.withSo t i) j = if j = i then { nodeAt t i with so := 1 - (nodeAt t i).so } else nodeAt t j := nodeAt_set h
  refine ⟨?_, fun j => ?_, fun j => ?_, fun j => ?_⟩
  · show (t.nodes.set i _).length ≤ 20
    rw [List.length_set]
    exact w.len
  · rw [cs]
    by_cases e : j = i
    · rw [if_pos e, e]; exact w.kids i
    · rw [if_neg e]; exact w.kids j
  · rw [cs]
    by_cases e : j = i
    · rw [if_pos e]; exact w.klen i
    · rw [if_neg e]; exact w.klen j
  · rw [cs]
    by_cases e : j = i
    · rw [if_pos e]
      rcases w.kind i with ⟨z1, z2, z3, z4⟩ | ⟨z1, _⟩
      · exact Or.inl ⟨z1, z2, by show 1 - (nodeAt t i).so ≤ 1; omega, z4⟩
      · omega
    · rw [if_neg e]; exact w.kind j
end Sg

/-! The specification's calls, in whole numbers, on houses as the calls make them. -/
namespace Sg
open Kp340 (fr Fr)
open Kp365 (nodeAt isLeaf isTrue isNode leaves)
open Kp367 (House Heard)

abbrev cnt (h : House) : Nat := h.desk.tree.nodes.length
/-- how often who's right about node i wins now, in millionths -/
abbrev rNow (h : House) (i : Nat) : Int := rI h.desk h.desk.thrice i
/-- a promise is kept -/
def keptI (h : House) (p : Nat × Nat) : Bool := decide (p.1 < cnt h) && decide (10000 * (p.2 : Int) ≤ rNow h p.1)
theorem not_lt_ml (a b : Int) : (!Kp346.ltF (ml a) (ml b)) = decide (b ≤ a) := by
  rw [ltF_ml]
  by_cases c : a < b
  · rw [decide_eq_true c, decide_eq_false (by omega)]; rfl
  · rw [decide_eq_false c, decide_eq_true (by omega)]; rfl
theorem kept_eq (h : House) (p : Nat × Nat) : Kp367.kept h p = keptI h p := by
  unfold Kp367.kept keptI isNode
  rw [right_ml, hun_ml, not_lt_ml]
theorem allKept_eq (h : House) : Kp367.allKept h = h.promises.all (keptI h) := by
  unfold Kp367.allKept
  exact all_congr _ fun p _ => kept_eq h p

/-- a house as the calls make it -/
structure WFH (h : House) : Prop where
  tree : WFT h.desk.tree
  price : h.desk.price.length = cnt h
  pr1 : ∀ p ∈ h.desk.price, 1 ≤ p ∧ p ≤ 100
  thr : ∀ i, h.desk.thrice.testBit i = true → i < cnt h ∧ (nodeAt h.desk.tree i).kind = 0
  kept : h.promises.all (keptI h) = true
  proms : h.promises.length ≤ 4
  promt : ∀ p ∈ h.promises, p.2 ≤ 100
  log : h.log.length ≤ 20
  logw : ∀ x ∈ h.log, ∃ z : Int, x.wrong = ml z ∧ 0 ≤ z ∧ z ≤ MIL
  logc : ∀ x ∈ h.log, x.cost ≤ 100
  purse : h.purse ≤ 100000
theorem WFH.promIn {h : House} (w : WFH h) {p : Nat × Nat} (hp : p ∈ h.promises) : p.1 < cnt h := by
  have := List.all_eq_true.mp w.kept p hp
  unfold keptI at this
  simp only [Bool.and_eq_true, decide_eq_true_eq] at this
  exact this.1

def fresh (m : Nat) : House := ⟨⟨⟨[]⟩, 0, []⟩, m, [], []⟩
theorem wfh_fresh {m : Nat} (hm : m ≤ 10000) : WFH (fresh m) := by
  refine ⟨⟨Nat.zero_le _, fun i k hk => ?_, fun i => ?_, fun i => ?_⟩, rfl, fun p hp => ?_, fun i hi => ?_, rfl, Nat.zero_le _, fun p hp => ?_, Nat.zero_le _, fun x hx => ?_, fun x hx => ?_, ?_⟩
  · rw [nodeAt_out (Nat.zero_le _)] at hk; cases hk
  · rw [nodeAt_out (Nat.zero_le _)]; exact Nat.zero_le _
  · rw [nodeAt_out (Nat.zero_le _)]; exact Or.inl ⟨rfl, rfl, Nat.zero_le _, Nat.zero_le _⟩
  · cases hp
  · rw [show (fresh m).desk.thrice = 0 from rfl, Nat.zero_testBit] at hi; cases hi
  · cases hp
  · cases hx
  · cases hx
  · show m ≤ 100000; omega

/-! ### one node more -/
def addN (h : House) (x : Kp365.Node) : House := { h with desk := { h.desk with tree := ⟨h.desk.tree.nodes ++ [x]⟩, price := h.desk.price ++ [1] } }
theorem all_true_congr {α : Type} {f g : α → Bool} (l : List α) (hf : l.all f = true) (h : ∀ x ∈ l, f x = true → g x = true) : l.all g = true :=
  List.all_eq_true.mpr fun x hx => h x hx (List.all_eq_true.mp hf x hx)
theorem keptI_of {h e : House} {p : Nat × Nat} (h1 : p.1 < cnt h → p.1 < cnt e) (h2 : p.1 < cnt h → rNow e p.1 = rNow h p.1) (k : keptI h p = true) : keptI e p = true := by
  unfold keptI at k ⊢
  simp only [Bool.and_eq_true, decide_eq_true_eq] at k ⊢
  exact ⟨h1 k.1, by rw [h2 k.1]; exact k.2⟩
theorem wfh_add {h : House} (w : WFH h) {x : Kp365.Node} (hx : OkNode (cnt h) x) (hl : cnt h < 20) : WFH (addN h x) := by
  have wt : WFT (addN h x).desk.tree := wft_app w.tree hx hl
  have hc : cnt (addN h x) = cnt h + 1 := by
    show (h.desk.tree.nodes ++ [x]).length = _
    rw [List.length_append]; rfl
  refine ⟨wt, ?_, fun p hp => ?_, fun i hi => ?_, ?_, w.proms, w.promt, w.log, w.logw, w.logc, w.purse⟩
  · rw [hc, ← w.price]
    show (h.desk.price ++ [1]).length = _
    rw [List.length_append]; rfl
  · have hp : p ∈ h.desk.price ++ [1] := hp
    rcases List.mem_append.mp hp with q | q
    · exact w.pr1 p q
    · rw [List.mem_singleton] at q; omega
  · have := w.thr i hi
    refine ⟨by omega, ?_⟩
    rw [show (addN h x).desk.tree = ⟨h.desk.tree.nodes ++ [x]⟩ from rfl, nodeAt_app this.1]
    exact this.2
  · refine all_true_congr _ w.kept fun p _ k => keptI_of (fun q => by omega) (fun q => ?_) k
    exact (rI_agree w.tree wt (n := cnt h) (fun j hj => (nodeAt_app hj).symm) (fun _ _ => rfl) q).symm
theorem put_eq {h : House} (w : WFH h) {x : Kp365.Node} (hx : OkNode (cnt h) x) {c : Kp366.Call} (hs : Kp366.step (some h.desk) c = if 20 ≤ cnt h then (some h.desk, Kp366.say (-28)) else (some (addN h x).desk, Kp366.say (cnt h : Nat))) :
    Kp367.change (some h) h c = if 20 ≤ cnt h then (some h, Kp367.say (-28)) else (some (addN h x), Kp367.say (cnt h : Nat)) := by
  unfold Kp367.change
  rw [hs]
  by_cases hl : 20 ≤ cnt h
  · rw [if_pos hl, if_pos hl]
    rfl
  · rw [if_neg hl, if_neg hl]
    have k := (wfh_add w hx (by omega)).kept
    rw [← allKept_eq] at k
    show (if ((cnt h : Nat) : Int) < 0 then _ else if Kp367.allKept (addN h x) = true then (some (addN h x), Kp367.say (cnt h : Nat)) else _) = _
    rw [if_neg (by omega), if_pos k]
theorem st_leaf {h : House} (w : WFH h) (so wr : Nat) : Kp367.step (some h) (.leaf so wr) = if 1 < so ∨ 100 < wr then (some h, Kp367.say (-22)) else if 20 ≤ cnt h then (some h, Kp367.say (-28)) else (some (addN h ⟨0, so, wr, []⟩), Kp367.say (cnt h : Nat)) := by
  show Kp367.change (some h) h (.leaf so wr) = _
  by_cases c : 1 < so ∨ 100 < wr
  · rw [if_pos c]
    unfold Kp367.change Kp366.step Kp366.put Kp366.under Kp365.step
    simp only [if_pos c]
    rfl
  · rw [if_neg c]
    refine put_eq w (x := ⟨0, so, wr, []⟩) ⟨(fun _ hk => nomatch hk), Nat.zero_le _, Or.inl ⟨rfl, rfl, (by show so ≤ 1; omega), (by show wr ≤ 100; omega)⟩⟩ ?_
    unfold Kp366.step Kp366.put Kp366.under Kp365.step
    simp only [if_neg c]
    by_cases hl : 20 ≤ cnt h
    · have hl' : Kp365.NODES ≤ h.desk.tree.nodes.length := hl
      simp only [if_pos hl, if_pos hl']
      rfl
    · have hl' : ¬ Kp365.NODES ≤ h.desk.tree.nodes.length := hl
      simp only [if_neg hl, if_neg hl']
      show (if ((cnt h : Nat) : Int) < 0 then _ else _) = _
      rw [if_neg (by omega)]
      rfl
theorem st_all {h : House} (w : WFH h) (l : List Nat) : Kp367.step (some h) (.all_ l) = if Kp365.okKids h.desk.tree l = false then (some h, Kp367.say (-22)) else if 20 ≤ cnt h then (some h, Kp367.say (-28)) else (some (addN h ⟨1, 0, 0, l⟩), Kp367.say (cnt h : Nat)) := by
  show Kp367.change (some h) h (.all_ l) = _
  by_cases c : Kp365.okKids h.desk.tree l = false
  · rw [if_pos c]
    unfold Kp367.change Kp366.step Kp366.put Kp366.under Kp365.step
    simp only [if_pos c]
    rfl
  · rw [if_neg c]
    refine put_eq w (x := ⟨1, 0, 0, l⟩) (okKids_ok (by simpa using c) 1 (Or.inl rfl)) ?_
    unfold Kp366.step Kp366.put Kp366.under Kp365.step
    simp only [if_neg c]
    by_cases hl : 20 ≤ cnt h
    · have hl' : Kp365.NODES ≤ h.desk.tree.nodes.length := hl
      simp only [if_pos hl, if_pos hl']
      rfl
    · have hl' : ¬ Kp365.NODES ≤ h.desk.tree.nodes.length := hl
      simp only [if_neg hl, if_neg hl']
      show (if ((cnt h : Nat) : Int) < 0 then _ else _) = _
      rw [if_neg (by omega)]
      rfl
theorem st_some {h : House} (w : WFH h) (l : List Nat) : Kp367.step (some h) (.some_ l) = if Kp365.okKids h.desk.tree l = false then (some h, Kp367.say (-22)) else if 20 ≤ cnt h then (some h, Kp367.say (-28)) else (some (addN h ⟨2, 0, 0, l⟩), Kp367.say (cnt h : Nat)) := by
  show Kp367.change (some h) h (.some_ l) = _
  by_cases c : Kp365.okKids h.desk.tree l = false
  · rw [if_pos c]
    unfold Kp367.change Kp366.step Kp366.put Kp366.under Kp365.step
    simp only [if_pos c]
    rfl
  · rw [if_neg c]
    refine put_eq w (x := ⟨2, 0, 0, l⟩) (okKids_ok (by simpa using c) 2 (Or.inr rfl)) ?_
    unfold Kp366.step Kp366.put Kp366.under Kp365.step
    simp only [if_neg c]
    by_cases hl : 20 ≤ cnt h
    · have hl' : Kp365.NODES ≤ h.desk.tree.nodes.length := hl
      simp only [if_pos hl, if_pos hl']
      rfl
    · have hl' : ¬ Kp365.NODES ≤ h.desk.tree.nodes.length := hl
      simp only [if_neg hl, if_neg hl']
      show (if ((cnt h : Nat) : Int) < 0 then _ else _) = _
      rw [if_neg (by omega)]
      rfl

/-! ### changes -/
theorem node_no {h : House} {i : Nat} (c : cnt h ≤ i) : isNode h.desk.tree i = false := decide_eq_false (Nat.not_lt.mpr c)
theorem node_yes {h : House} {i : Nat} (c : ¬ cnt h ≤ i) : ¬ isNode h.desk.tree i = false := by
  have e : isNode h.desk.tree i = true := decide_eq_true (Nat.not_le.mp c)
  rw [e]
  decide
/-- behind a change: refused where a promise wouldn't be kept -/
def guard (h e : House) (n : Int) : Option House × Kp367.Ans := if e.promises.all (keptI e) then (some e, Kp367.say n) else (some h, Kp367.say (-30))
theorem change_ok {h : House} {e : Kp366.Desk} {n : Int} {c : Kp366.Call} (hn : 0 ≤ n) (hs : Kp366.step (some h.desk) c = (some e, Kp366.say n)) : Kp367.change (some h) h c = guard h { h with desk := e } n := by
  unfold Kp367.change guard
  rw [hs, ← allKept_eq]
  show (if n < 0 then _ else if Kp367.allKept { h with desk := e } = true then _ else _) = _
  rw [if_neg (by omega)]
  rfl
theorem change_no {h : House} {s : Option Kp366.Desk} {n : Int} {c : Kp366.Call} (hn : n < 0) (hs : Kp366.step (some h.desk) c = (s, Kp366.say n)) : Kp367.change (some h) h c = (some h, Kp367.say n) := by
  unfold Kp367.change
  rw [hs]
  show (if n < 0 then _ else _) = _
  rw [if_pos hn]
  rfl
/-- the last node gone -/
def popD (d : Kp366.Desk) : Kp366.Desk := { tree := ⟨d.tree.nodes.dropLast⟩, price := d.price.dropLast, thrice := d.thrice % 2 ^ (d.tree.nodes.length - 1) }
theorem st_pop (h : House) : Kp367.step (some h) .pop = if cnt h = 0 then (some h, Kp367.say (-6)) else guard h { h with desk := popD h.desk } ((cnt h - 1 : Nat) : Int) := by
  show Kp367.change (some h) h .pop = _
  by_cases c : cnt h = 0
  · rw [if_pos c]
    have c' : h.desk.tree.nodes.isEmpty = true := by
      rw [List.isEmpty_iff_length_eq_zero]; exact c
    refine change_no (s := some h.desk) (by decide) ?_
    unfold Kp366.step Kp366.under Kp365.step
    simp only [if_pos c']
    rfl
  · rw [if_neg c]
    have c' : ¬ h.desk.tree.nodes.isEmpty = true := by
      rw [List.isEmpty_iff_length_eq_zero]; exact c
    refine change_ok (e := popD h.desk) (by omega) ?_
    unfold Kp366.step Kp366.under Kp365.step
    simp only [if_neg c']
    show (if ((cnt h - 1 : Nat) : Int) < 0 then _ else _) = _
    rw [if_neg (by omega)]
    show (Option.map _ (if ((cnt h - 1 : Nat) : Int) < 0 then _ else _), _) = _
    rw [if_neg (by omega)]
    rfl
def flipD (d : Kp366.Desk) (i : Nat) : Kp366.Desk := { d with tree := Kp365.withSo d.tree i }
theorem st_flip (h : House) (i : Nat) : Kp367.step (some h) (.flip i) = if cnt h ≤ i then (some h, Kp367.say (-2)) else if (nodeAt h.desk.tree i).kind ≠ 0 then (some h, Kp367.say (-33)) else guard h { h with desk := flipD h.desk i } ((1 - (nodeAt h.desk.tree i).so : Nat) : Int) := by
  show Kp367.change (some h) h (.flip i) = _
  by_cases c : cnt h ≤ i
  · rw [if_pos c]
    have c' := node_no c
    refine change_no (s := some h.desk) (by decide) ?_
    unfold Kp366.step Kp366.under Kp365.step
    simp only [if_pos c']
    rfl
  · rw [if_neg c]
    have c' := node_yes c
    by_cases k : (nodeAt h.desk.tree i).kind ≠ 0
    · rw [if_pos k]
      have k' : isLeaf h.desk.tree i = false := by unfold isLeaf; simp [k]
      refine change_no (s := some h.desk) (by decide) ?_
      unfold Kp366.step Kp366.under Kp365.step
      simp only [if_neg c', if_pos k']
      rfl
    · rw [if_neg k]
      have k' : ¬ isLeaf h.desk.tree i = false := by unfold isLeaf; simpa using k
      refine change_ok (e := flipD h.desk i) (by omega) ?_
      unfold Kp366.step Kp366.under Kp365.step
      simp only [if_neg c', if_neg k']
      show (if ((1 - (nodeAt h.desk.tree i).so : Nat) : Int) < 0 then _ else _, _) = _
      rw [if_neg (by omega)]
      rfl
theorem st_price {h : House} (w : WFH h) (i p : Nat) : Kp367.step (some h) (.price i p) = if cnt h ≤ i then (some h, Kp367.say (-2)) else if p < 1 ∨ 100 < p then (some h, Kp367.say (-22)) else (some { h with desk := { h.desk with price := h.desk.price.set i p } }, Kp367.say (h.desk.price.getD i 0 : Nat)) := by
  show Kp367.change (some h) h (.price i p) = _
  by_cases c : cnt h ≤ i
  · rw [if_pos c]
    have c' := node_no c
    refine change_no (s := some h.desk) (by decide) ?_
    unfold Kp366.step
    simp only [if_pos c']
  · rw [if_neg c]
    have c' := node_yes c
    by_cases k : p < 1 ∨ 100 < p
    · rw [if_pos k]
      refine change_no (s := some h.desk) (by decide) ?_
      unfold Kp366.step
      simp only [if_neg c', if_pos k]
    · rw [if_neg k]
      refine (change_ok (e := { h.desk with price := h.desk.price.set i p }) (n := ((h.desk.price.getD i 0 : Nat) : Int)) (by omega) ?_).trans ?_
      · unfold Kp366.step
        simp only [if_neg c', if_neg k]
      · unfold guard
        exact if_pos (all_true_congr _ w.kept fun q _ z => z)
theorem st_thrice (h : House) (i : Nat) : Kp367.step (some h) (.thrice i) = if cnt h ≤ i then (some h, Kp367.say (-2)) else if (nodeAt h.desk.tree i).kind ≠ 0 then (some h, Kp367.say (-33)) else if h.desk.thrice.testBit i then (some h, Kp367.say (-17)) else
    guard h { h with desk := { h.desk with thrice := h.desk.thrice + 2 ^ i } } (Kp366.costOf h.desk (h.desk.thrice + 2 ^ i) : Nat) := by
  show Kp367.change (some h) h (.thrice i) = _
  by_cases c : cnt h ≤ i
  · rw [if_pos c]
    have c' := node_no c
    refine change_no (s := some h.desk) (by decide) ?_
    unfold Kp366.step
    simp only [if_pos c']
  · rw [if_neg c]
    have c' := node_yes c
    by_cases k : (nodeAt h.desk.tree i).kind ≠ 0
    · rw [if_pos k]
      have k' : isLeaf h.desk.tree i = false := by unfold isLeaf; simp [k]
      refine change_no (s := some h.desk) (by decide) ?_
      unfold Kp366.step
      simp only [if_neg c', if_pos k']
    · rw [if_neg k]
      have k' : ¬ isLeaf h.desk.tree i = false := by unfold isLeaf; simpa using k
      by_cases b : h.desk.thrice.testBit i = true
      · rw [if_pos b]
        refine change_no (s := some h.desk) (by decide) ?_
        unfold Kp366.step
        simp only [if_neg c', if_neg k', if_pos b]
      · rw [if_neg b]
        refine change_ok (by omega) ?_
        unfold Kp366.step
        simp only [if_neg c', if_neg k', if_neg b]
theorem st_once (h : House) (i : Nat) : Kp367.step (some h) (.once i) = if cnt h ≤ i then (some h, Kp367.say (-2)) else if h.desk.thrice.testBit i = false then (some h, Kp367.say (-6)) else
    guard h { h with desk := { h.desk with thrice := h.desk.thrice - 2 ^ i } } (Kp366.costOf h.desk (h.desk.thrice - 2 ^ i) : Nat) := by
  show Kp367.change (some h) h (.once i) = _
  by_cases c : cnt h ≤ i
  · rw [if_pos c]
    have c' := node_no c
    refine change_no (s := some h.desk) (by decide) ?_
    unfold Kp366.step
    simp only [if_pos c']
  · rw [if_neg c]
    have c' := node_yes c
    by_cases b : h.desk.thrice.testBit i = false
    · rw [if_pos b]
      refine change_no (s := some h.desk) (by decide) ?_
      unfold Kp366.step
      simp only [if_neg c', if_pos b]
    · rw [if_neg b]
      refine change_ok (by omega) ?_
      unfold Kp366.step
      simp only [if_neg c', if_neg b]
end Sg

/-! Sets as numbers; houses behind a change. -/
namespace Sg
open Kp340 (fr Fr)
open Kp365 (nodeAt isLeaf isTrue isNode leaves)
open Kp367 (House Heard)
theorem bit_split (t i : Nat) : t = 2 ^ i * (t / 2 ^ i) + t % 2 ^ i := (Nat.div_add_mod t (2 ^ i)).symm
theorem bit_at (t i : Nat) : t.testBit i = decide ((t / 2 ^ i) % 2 = 1) := Nat.testBit_eq_decide_div_mod_eq
theorem bit_parts (a b i j : Nat) (h : b < 2 ^ i) : (2 ^ i * a + b).testBit j = if j < i then b.testBit j else a.testBit (j - i) := Nat.testBit_two_pow_mul_add a h j
theorem bit_up (q k : Nat) : (2 * q + 1).testBit (k + 1) = q.testBit k := by
  rw [Nat.testBit_succ]
  congr 1
  omega
theorem bit_up0 (q k : Nat) : (2 * q).testBit (k + 1) = q.testBit k := by
  rw [Nat.testBit_succ]
  congr 1
  omega
/-- one more in a set -/
theorem bit_add {t i : Nat} (h : t.testBit i = false) (j : Nat) : (t + 2 ^ i).testBit j = if j = i then true else t.testBit j := by
  rw [bit_at] at h
  have hm : t % 2 ^ i < 2 ^ i := Nat.mod_lt _ (Nat.two_pow_pos i)
  have hd : (t / 2 ^ i) % 2 = 0 := by
    have := of_decide_eq_false h
    omega
  have e := bit_split t i
  have e2 : t + 2 ^ i = 2 ^ i * (t / 2 ^ i + 1) + t % 2 ^ i := by
    rw [Nat.mul_add, Nat.mul_one]
    omega
  have e3 : t.testBit j = (2 ^ i * (t / 2 ^ i) + t % 2 ^ i).testBit j := by rw [← e]
  rw [e2, e3, bit_parts _ _ _ _ hm, bit_parts _ _ _ _ hm]
  generalize t / 2 ^ i = a at *
  obtain ⟨q, rfl⟩ : ∃ q, a = 2 * q := ⟨a / 2, by omega⟩
  by_cases h1 : j < i
  · rw [if_pos h1, if_pos h1, if_neg (by omega)]
  · rw [if_neg h1, if_neg h1]
    by_cases h2 : j = i
    · rw [if_pos h2, h2, Nat.sub_self, Nat.testBit_zero]
      simp
    · rw [if_neg h2]
      obtain ⟨k, hk⟩ : ∃ k, j - i = k + 1 := ⟨j - i - 1, by omega⟩
      rw [hk, bit_up, bit_up0]
/-- one less -/
theorem bit_sub {t i : Nat} (h : t.testBit i = true) (j : Nat) : (t - 2 ^ i).testBit j = if j = i then false else t.testBit j := by
  rw [bit_at] at h
  have hm : t % 2 ^ i < 2 ^ i := Nat.mod_lt _ (Nat.two_pow_pos i)
  have hd : (t / 2 ^ i) % 2 = 1 := of_decide_eq_true h
  have e := bit_split t i
  obtain ⟨q, hq⟩ : ∃ q, t / 2 ^ i = 2 * q + 1 := ⟨t / 2 ^ i / 2, by omega⟩
  have e2 : t - 2 ^ i = 2 ^ i * (2 * q) + t % 2 ^ i := by
    rw [hq, Nat.mul_add, Nat.mul_one] at e
    omega
  have e3 : t.testBit j = (2 ^ i * (t / 2 ^ i) + t % 2 ^ i).testBit j := by rw [← e]
  rw [e2, e3, bit_parts _ _ _ _ hm, bit_parts _ _ _ _ hm, hq]
  by_cases h1 : j < i
  · rw [if_pos h1, if_pos h1, if_neg (by omega)]
  · rw [if_neg h1, if_neg h1]
    by_cases h2 : j = i
    · rw [if_pos h2, h2, Nat.sub_self, Nat.testBit_zero]
      simp
    · rw [if_neg h2]
      obtain ⟨k, hk⟩ : ∃ k, j - i = k + 1 := ⟨j - i - 1, by omega⟩
      rw [hk, bit_up, bit_up0]
theorem bit_mod (t n j : Nat) : (t % 2 ^ n).testBit j = (decide (j < n) && t.testBit j) := Nat.testBit_mod_two_pow t n j

/-! ### houses behind a change -/
theorem wfh_desk {h : House} (w : WFH h) {e : Kp366.Desk} (wt : WFT e.tree) (hp : e.price.length = e.tree.nodes.length) (p1 : ∀ p ∈ e.price, 1 ≤ p ∧ p ≤ 100) (ht : ∀ i, e.thrice.testBit i = true → i < e.tree.nodes.length ∧ (nodeAt e.tree i).kind = 0)
    (k : ({ h with desk := e } : House).promises.all (keptI { h with desk := e }) = true) : WFH { h with desk := e } :=
  ⟨wt, hp, p1, ht, k, w.proms, w.promt, w.log, w.logw, w.logc, w.purse⟩
theorem wfh_pop {h : House} (w : WFH h) (k : ({ h with desk := popD h.desk } : House).promises.all (keptI { h with desk := popD h.desk }) = true) : WFH { h with desk := popD h.desk } := by
  refine wfh_desk w (wft_drop w.tree) ?_ (fun p hp => w.pr1 p ((List.dropLast_sublist _).subset hp)) (fun i hi => ?_) k
  · show h.desk.price.dropLast.length = h.desk.tree.nodes.dropLast.length
    rw [List.length_dropLast, List.length_dropLast, w.price]
  · have hi : (h.desk.thrice % 2 ^ (h.desk.tree.nodes.length - 1)).testBit i = true := hi
    rw [bit_mod, Bool.and_eq_true, decide_eq_true_eq] at hi
    refine ⟨?_, ?_⟩
    · show i < h.desk.tree.nodes.dropLast.length
      rw [List.length_dropLast]
      exact hi.1
    · show (nodeAt ⟨h.desk.tree.nodes.dropLast⟩ i).kind = 0
      rw [nodeAt_drop hi.1]
      exact (w.thr i hi.2).2
theorem wfh_flip {h : House} (w : WFH h) {i : Nat} (hi : i < cnt h) (h0 : (nodeAt h.desk.tree i).kind = 0) (k : ({ h with desk := flipD h.desk i } : House).promises.all (keptI { h with desk := flipD h.desk i }) = true) : WFH { h with desk := flipD h.desk i } := by
  have hl : (flipD h.desk i).tree.nodes.length = cnt h := by
    show (h.desk.tree.nodes.set i _).length = _
    rw [List.length_set]
  refine wfh_desk w (wft_flip w.tree hi h0) ?_ w.pr1 (fun j hj => ?_) k
  · rw [hl]; exact w.price
  · have := w.thr j hj
    refine ⟨by rw [hl]; exact this.1, ?_⟩
    show (nodeAt ⟨h.desk.tree.nodes.set i _⟩ j).kind = 0
    rw [nodeAt_set hi]
    by_cases e : j = i
    · rw [if_pos e]; exact h0
    · rw [if_neg e]; exact this.2
theorem wfh_price {h : House} (w : WFH h) {i p : Nat} (hp : 1 ≤ p ∧ p ≤ 100) : WFH { h with desk := { h.desk with price := h.desk.price.set i p } } := by
  refine wfh_desk w w.tree ?_ (fun q hq => ?_) w.thr (all_true_congr _ w.kept fun q _ z => z)
  · show (h.desk.price.set i p).length = _
    rw [List.length_set]
    exact w.price
  · rcases List.mem_or_eq_of_mem_set hq with z | z
    · exact w.pr1 q z
    · rw [z]; exact hp
theorem wfh_set {h : House} (w : WFH h) {s : Nat} (hs : ∀ i, s.testBit i = true → i < cnt h ∧ (nodeAt h.desk.tree i).kind = 0) (k : ({ h with desk := { h.desk with thrice := s } } : House).promises.all (keptI { h with desk := { h.desk with thrice := s } }) = true) : WFH { h with desk := { h.desk with thrice := s } } :=
  wfh_desk w w.tree w.price w.pr1 hs k
theorem wfh_thrice {h : House} (w : WFH h) {i : Nat} (hi : i < cnt h) (h0 : (nodeAt h.desk.tree i).kind = 0) (hb : h.desk.thrice.testBit i = false) (k : ({ h with desk := { h.desk with thrice := h.desk.thrice + 2 ^ i } } : House).promises.all (keptI { h with desk := { h.desk with thrice := h.desk.thrice + 2 ^ i } }) = true) : WFH { h with desk := { h.desk with thrice := h.desk.thrice + 2 ^ i } } := by
  refine wfh_set w (fun j hj => ?_) k
  rw [bit_add hb] at hj
  by_cases e : j = i
  · rw [e]; exact ⟨hi, h0⟩
  · rw [if_neg e] at hj; exact w.thr j hj
theorem wfh_once {h : House} (w : WFH h) {i : Nat} (hb : h.desk.thrice.testBit i = true) (k : ({ h with desk := { h.desk with thrice := h.desk.thrice - 2 ^ i } } : House).promises.all (keptI { h with desk := { h.desk with thrice := h.desk.thrice - 2 ^ i } }) = true) : WFH { h with desk := { h.desk with thrice := h.desk.thrice - 2 ^ i } } := by
  refine wfh_set w (fun j hj => ?_) k
  rw [bit_sub hb] at hj
  by_cases e : j = i
  · rw [if_pos e] at hj; cases hj
  · rw [if_neg e] at hj; exact w.thr j hj
end Sg

/-! What the specification answers where nothing is changed, or promises, log and purse are. -/
namespace Sg
open Kp340 (fr Fr)
open Kp346 (ltF sub)
open Kp365 (nodeAt isLeaf isTrue isNode leaves)
open Kp367 (House Heard)
/-- a fraction of millionths, told -/
def frL (z : Int) : List Int := [(ml z).1, (ml z).2]
theorem of_node (h : House) (i : Nat) (a : Kp367.Ans) : Kp367.of (some h) h i a = (some h, if cnt h ≤ i then Kp367.say (-2) else a) := by
  unfold Kp367.of
  by_cases c : cnt h ≤ i
  · rw [if_pos (node_no c), if_pos c]
  · rw [if_neg (node_yes c), if_neg c]
theorem ask_of {h : House} {c : Kp366.Call} {s : Option Kp366.Desk} {a : Kp366.Ans} (hs : Kp366.step (some h.desk) c = (s, a)) : Kp367.ask (some h) h c = (some h, ⟨a.num, a.nums⟩) := by
  unfold Kp367.ask
  rw [hs]
theorem st_nodeIs (h : House) (i : Nat) : Kp367.step (some h) (.nodeIs i) = (some h, if cnt h ≤ i then Kp367.say (-2) else ⟨((nodeAt h.desk.tree i).kind : Int), if (nodeAt h.desk.tree i).kind = 0 then [((nodeAt h.desk.tree i).so : Int), ((nodeAt h.desk.tree i).wrong : Int)] else (nodeAt h.desk.tree i).kids.map fun (x : Nat) => (x : Int)⟩) := by
  show Kp367.ask (some h) h (.nodeIs i) = _
  unfold Kp367.ask Kp366.step Kp366.under Kp365.step Kp365.of
  by_cases c : cnt h ≤ i
  · simp only [if_pos (node_no c), if_pos c]
    rfl
  · simp only [if_neg (node_yes c), if_neg c]
theorem st_true (h : House) (i : Nat) : Kp367.step (some h) (.true_ i) = (some h, if cnt h ≤ i then Kp367.say (-2) else Kp367.say (if isTrue h.desk.tree i then 1 else 0)) := by
  show Kp367.ask (some h) h (.true_ i) = _
  unfold Kp367.ask Kp366.step Kp366.under Kp365.step Kp365.of
  by_cases c : cnt h ≤ i
  · simp only [if_pos (node_no c), if_pos c]
    rfl
  · simp only [if_neg (node_yes c), if_neg c]
    rfl
theorem st_misread (h : House) (i : Nat) : Kp367.step (some h) (.misread i) = (some h, if cnt h ≤ i then Kp367.say (-2) else if (nodeAt h.desk.tree i).kind ≠ 0 then Kp367.say (-33) else ⟨0, frL (misI h.desk h.desk.thrice i)⟩) := by
  show Kp367.ask (some h) h (.misread i) = _
  unfold Kp367.ask Kp366.step Kp366.of
  by_cases c : cnt h ≤ i
  · simp only [if_pos (node_no c), if_pos c]
    rfl
  · simp only [if_neg (node_yes c), if_neg c]
    by_cases k : (nodeAt h.desk.tree i).kind ≠ 0
    · have k' : isLeaf h.desk.tree i = false := by unfold isLeaf; simp [k]
      simp only [if_pos k, if_pos k']
      rfl
    · have k' : ¬ isLeaf h.desk.tree i = false := by unfold isLeaf; simpa using k
      simp only [if_neg k, if_neg k', misread_ml]
      rfl
theorem st_right (h : House) (i : Nat) : Kp367.step (some h) (.right i) = (some h, if cnt h ≤ i then Kp367.say (-2) else ⟨0, frL (rNow h i)⟩) := by
  show Kp367.ask (some h) h (.right i) = _
  unfold Kp367.ask Kp366.step Kp366.of
  by_cases c : cnt h ≤ i
  · simp only [if_pos (node_no c), if_pos c]
    rfl
  · simp only [if_neg (node_yes c), if_neg c, right_ml]
    rfl
theorem st_ends (h : House) (i : Nat) : Kp367.step (some h) (.ends i) = (some h, if cnt h ≤ i then Kp367.say (-2) else Kp367.say (Kp367.leafOf h.desk i : Nat)) := of_node h i _
theorem st_tightest (h : House) (i : Nat) : Kp367.step (some h) (.tightest i) = (some h, if cnt h ≤ i then Kp367.say (-2) else Kp367.say ((rNow h i * 100).fdiv MIL)) := by
  refine (of_node h i _).trans ?_
  unfold Kp367.floorOf
  rw [right_ml, floor_ml]
theorem floor_div (r : Int) : (r * 100).fdiv MIL = r.fdiv 10000 := by
  rw [Int.fdiv_eq_ediv_of_nonneg _ (by decide), Int.fdiv_eq_ediv_of_nonneg _ (by decide)]
  show r * 100 / 1000000 = r / 10000
  omega
/-! ### promises -/
theorem st_promise (h : House) (i t : Nat) : Kp367.step (some h) (.promise i t) = if cnt h ≤ i then (some h, Kp367.say (-2)) else if 100 < t then (some h, Kp367.say (-22)) else if h.promises.contains (i, t) then (some h, Kp367.say (-17)) else if rNow h i < 10000 * (t : Int) then (some h, Kp367.say (-30)) else if 4 ≤ h.promises.length then (some h, Kp367.say (-28)) else
    (some { h with promises := h.promises ++ [(i, t)] }, Kp367.say (h.promises.length : Nat)) := by
  show (if isNode h.desk.tree i = false then _ else _) = _
  by_cases c : cnt h ≤ i
  · rw [if_pos (node_no c), if_pos c]
  · rw [if_neg (node_yes c), if_neg c]
    by_cases c1 : 100 < t
    · rw [if_pos c1, if_pos c1]
    · rw [if_neg c1, if_neg c1]
      by_cases c2 : h.promises.contains (i, t) = true
      · rw [if_pos c2, if_pos c2]
      · rw [if_neg c2, if_neg c2, kept_eq]
        have e : keptI h (i, t) = decide (10000 * (t : Int) ≤ rNow h i) := by
          unfold keptI
          rw [decide_eq_true (show (i, t).1 < cnt h from Nat.not_le.mp c), Bool.true_and]
        rw [e]
        by_cases c3 : rNow h i < 10000 * (t : Int)
        · rw [if_pos c3, if_pos (decide_eq_false (by omega))]
        · rw [if_neg c3, if_neg (by rw [decide_eq_true (by omega)]; decide)]
          rfl
theorem wfh_promise {h : House} (w : WFH h) {i t : Nat} (hi : i < cnt h) (ht : t ≤ 100) (hr : 10000 * (t : Int) ≤ rNow h i) (hl : h.promises.length < 4) : WFH { h with promises := h.promises ++ [(i, t)] } := by
  refine ⟨w.tree, w.price, w.pr1, w.thr, ?_, ?_, fun p hp => ?_, w.log, w.logw, w.logc, w.purse⟩
  · show (h.promises ++ [(i, t)]).all (keptI { h with promises := h.promises ++ [(i, t)] }) = true
    rw [List.all_append, Bool.and_eq_true]
    refine ⟨all_true_congr _ w.kept fun q _ z => z, ?_⟩
    rw [List.all_cons, List.all_nil, Bool.and_true]
    unfold keptI
    rw [Bool.and_eq_true]
    exact ⟨decide_eq_true hi, decide_eq_true hr⟩
  · show (h.promises ++ [(i, t)]).length ≤ 4
    rw [List.length_append]
    exact hl
  · have hp : p ∈ h.promises ++ [(i, t)] := hp
    rcases List.mem_append.mp hp with q | q
    · exact w.promt p q
    · rw [List.mem_singleton] at q
      rw [q]
      exact ht
theorem st_unpromise (h : House) (k : Nat) : Kp367.step (some h) (.unpromise k) = if h.promises.length ≤ k then (some h, Kp367.say (-2)) else (some { h with promises := h.promises.take k ++ h.promises.drop (k + 1) }, Kp367.say (h.promises.length - 1 : Nat)) := rfl
theorem take_drop_eraseIdx {α : Type} (l : List α) (k : Nat) : l.take k ++ l.drop (k + 1) = l.eraseIdx k := (List.eraseIdx_eq_take_drop_succ l k).symm
theorem wfh_unpromise {h : House} (w : WFH h) (k : Nat) : WFH { h with promises := h.promises.take k ++ h.promises.drop (k + 1) } := by
  have sub : ∀ p ∈ h.promises.take k ++ h.promises.drop (k + 1), p ∈ h.promises := fun p hp => by
    rcases List.mem_append.mp hp with q | q
    · exact List.mem_of_mem_take q
    · exact List.mem_of_mem_drop q
  refine ⟨w.tree, w.price, w.pr1, w.thr, ?_, ?_, fun p hp => w.promt p (sub p hp), w.log, w.logw, w.logc, w.purse⟩
  · exact List.all_eq_true.mpr fun p hp => List.all_eq_true.mp w.kept p (sub p hp)
  · show (h.promises.take k ++ h.promises.drop (k + 1)).length ≤ 4
    have := w.proms
    rw [List.length_append, List.length_take, List.length_drop]
    omega
theorem st_promiseIs (h : House) (k : Nat) : Kp367.step (some h) (.promiseIs k) = (some h, if h.promises.length ≤ k then Kp367.say (-2) else ⟨((h.promises.getD k (0, 0)).1 : Int), [((h.promises.getD k (0, 0)).2 : Int)]⟩) := rfl
/-! ### hearings -/
def heardI (h : House) (i a b : Nat) : Heard := ⟨i, Kp367.leafOf h.desk i, if (a : Int) * MIL < misI h.desk h.desk.thrice (Kp367.leafOf h.desk i) * (b : Int) then !((nodeAt h.desk.tree (Kp367.leafOf h.desk i)).so == 1) else (nodeAt h.desk.tree (Kp367.leafOf h.desk i)).so == 1,
  if h.desk.thrice.testBit (Kp367.leafOf h.desk i) then h.desk.price.getD (Kp367.leafOf h.desk i) 0 else 0, ml (MIL - rNow h i)⟩
theorem hearing_eq (h : House) (i a b : Nat) (hb : 0 < b) : Kp367.hearing h i (fr (a : Nat) (b : Nat)) = heardI h i a b := by
  unfold Kp367.hearing heardI
  dsimp only
  rw [misread_ml, right_ml, one_ml, sub_ml]
  have e : ltF (fr (a : Nat) (b : Nat)) (ml (misI h.desk h.desk.thrice (Kp367.leafOf h.desk i))) = decide ((a : Int) * MIL < misI h.desk h.desk.thrice (Kp367.leafOf h.desk i) * (b : Int)) := by
    unfold ml
    rw [ltF_fr (by omega) mil_pos]
  rw [e]
  simp only [decide_eq_true_eq]
def badLuck (a b : Nat) : Prop := b < 1 ∨ 1000 < b ∨ b ≤ a
instance (a b : Nat) : Decidable (badLuck a b) := by unfold badLuck; infer_instance
theorem okLuck_eq (a b : Nat) : Kp367.okLuck a b = false ↔ badLuck a b := by
  unfold Kp367.okLuck badLuck
  simp only [Bool.and_eq_false_iff, decide_eq_false_iff_not]
  omega
theorem st_hear (h : House) (i a b : Nat) : Kp367.step (some h) (.hear i a b) = if cnt h ≤ i then (some h, Kp367.say (-2)) else if badLuck a b then (some h, Kp367.say (-22)) else if 20 ≤ h.log.length then (some h, Kp367.say (-28)) else if h.purse < (heardI h i a b).cost then (some h, Kp367.say (-19)) else
    (some { h with purse := h.purse - (heardI h i a b).cost, log := h.log ++ [heardI h i a b] }, Kp367.heardAns (heardI h i a b)) := by
  show (if isNode h.desk.tree i = false then _ else _) = _
  by_cases c : cnt h ≤ i
  · rw [if_pos (node_no c), if_pos c]
  · rw [if_neg (node_yes c), if_neg c]
    by_cases c1 : badLuck a b
    · rw [if_pos ((okLuck_eq a b).mpr c1), if_pos c1]
    · rw [if_neg fun q => c1 ((okLuck_eq a b).mp q), if_neg c1]
      have hb : 0 < b := by unfold badLuck at c1; omega
      rw [hearing_eq h i a b hb]
      rfl
theorem st_ifHear (h : House) (i a b : Nat) : Kp367.step (some h) (.ifHear i a b) = (some h, if cnt h ≤ i then Kp367.say (-2) else if badLuck a b then Kp367.say (-22) else Kp367.heardAns (heardI h i a b)) := by
  refine (of_node h i _).trans ?_
  by_cases c1 : badLuck a b
  · rw [if_pos ((okLuck_eq a b).mpr c1), if_pos c1]
  · rw [if_neg fun q => c1 ((okLuck_eq a b).mp q), if_neg c1]
    have hb : 0 < b := by unfold badLuck at c1; omega
    rw [hearing_eq h i a b hb]
theorem getD_le {l : List Nat} {m : Nat} (h : ∀ p ∈ l, p ≤ m) (i : Nat) : l.getD i 0 ≤ m := by
  rw [List.getD_eq_getElem?_getD]
  cases e : l[i]? with
  | none => exact Nat.zero_le _
  | some x => exact h x (List.mem_of_getElem? e)
theorem heardI_cost {h : House} (w : WFH h) (i a b : Nat) : (heardI h i a b).cost ≤ 100 := by
  show (if h.desk.thrice.testBit (Kp367.leafOf h.desk i) then h.desk.price.getD (Kp367.leafOf h.desk i) 0 else 0) ≤ 100
  split
  · exact getD_le (fun p hp => (w.pr1 p hp).2) _
  · exact Nat.zero_le _
theorem wfh_hear {h : House} (w : WFH h) (i a b : Nat) (hl : h.log.length < 20) : WFH { h with purse := h.purse - (heardI h i a b).cost, log := h.log ++ [heardI h i a b] } := by
  refine ⟨w.tree, w.price, w.pr1, w.thr, all_true_congr _ w.kept fun q _ z => z, w.proms, w.promt, ?_, fun x hx => ?_, fun x hx => ?_, ?_⟩
  · show (h.log ++ [heardI h i a b]).length ≤ 20
    rw [List.length_append]
    exact hl
  · have hx : x ∈ h.log ++ [heardI h i a b] := hx
    rcases List.mem_append.mp hx with q | q
    · exact w.logw x q
    · rw [List.mem_singleton] at q
      rw [q]
      have : 0 ≤ rNow h i ∧ rNow h i ≤ MIL := rI_bounds w.tree h.desk.thrice i
      exact ⟨MIL - rNow h i, rfl, by omega, by omega⟩
  · have hx : x ∈ h.log ++ [heardI h i a b] := hx
    rcases List.mem_append.mp hx with q | q
    · exact w.logc x q
    · rw [List.mem_singleton] at q
      rw [q]
      exact heardI_cost w i a b
  · show h.purse - _ ≤ 100000
    have := w.purse
    omega
theorem st_entry (h : House) (k : Nat) : Kp367.step (some h) (.entry k) = (some h, if h.log.length ≤ k then Kp367.say (-2) else let x := h.log.getD k ⟨0, 0, false, 0, (0, 1)⟩
    ⟨(x.node : Int), [(x.leaf : Int), if x.held then 1 else 0, (x.cost : Int), x.wrong.1, x.wrong.2]⟩) := rfl
theorem st_tally (h : House) : Kp367.step (some h) .tally = (some h, ⟨(h.log.length : Int), [((h.log.filter (Kp367.rightAt h)).length : Int), (h.purse : Int), (((h.log.map fun x => x.cost).sum : Nat) : Int)]⟩) := by
  have e : ∀ (l : List Nat) (a : Nat), l.foldl (fun (a b : Nat) => a + b) a = a + l.sum := by
    intro l
    induction l with
    | nil => intro a; rfl
    | cons x r ih => intro a; rw [List.foldl_cons, ih, List.sum_cons, Nat.add_assoc]
  show (some h, (⟨(h.log.length : Int), [((h.log.filter (Kp367.rightAt h)).length : Int), (h.purse : Int), (((h.log.map fun x => x.cost).foldl (fun (a b : Nat) => a + b) 0 : Nat) : Int)]⟩ : Kp367.Ans)) = _
  rw [e, Nat.zero_add]
theorem st_owed (h : House) (zs : List Int) (e : h.log.map (fun x => x.wrong) = zs.map ml) : Kp367.step (some h) .owed = (some h, ⟨(h.log.length : Int), frL zs.sum⟩) := by
  show (some h, (⟨(h.log.length : Int), [(Kp340.sumF (h.log.map fun x => x.wrong)).1, (Kp340.sumF (h.log.map fun x => x.wrong)).2]⟩ : Kp367.Ans)) = _
  rw [e, sumF_ml]
  rfl
theorem st_pay (h : House) (m : Nat) : Kp367.step (some h) (.pay m) = if 10000 < m ∨ 100000 < h.purse + m then (some h, Kp367.say (-22)) else (some { h with purse := h.purse + m }, Kp367.say (h.purse + m : Nat)) := rfl
theorem wfh_pay {h : House} (w : WFH h) {m : Nat} (hm : h.purse + m ≤ 100000) : WFH { h with purse := h.purse + m } :=
  ⟨w.tree, w.price, w.pr1, w.thr, all_true_congr _ w.kept fun q _ z => z, w.proms, w.promt, w.log, w.logw, w.logc, hm⟩
theorem st_begin (s : Kp367.State) (m : Nat) : Kp367.step s (.begin_ m) = if 10000 < m then (s, Kp367.say (-22)) else (some (fresh m), Kp367.say 0) := rfl
/-! ### stakes -/
def fairI (r : Int) (g a b : Nat) : Bool := decide ((MIL - r) * g < r * a) && decide ((MIL - r) * b < r * a) && decide ((MIL - r) * a < r * g) && decide ((MIL - r) * a < r * b)
theorem mul_ml (r : Int) (g : Nat) : Kp340.mul (ml r) (Kp340.ofNat g) = ml (r * g) := by
  have e : Kp340.ofNat g = fr (g : Int) 1 := by
    rw [fr_eq (by decide)]
    have : gc (g : Int) 1 = 1 := by unfold gc; simp
    rw [this, Int.ediv_one, Int.ediv_one]
    rfl
  rw [e]
  unfold ml
  rw [mul_fr mil_pos (by decide), Int.mul_one]
theorem fair_eq (r : Int) (g a b : Nat) : Kp366.fair (ml r) g a b = fairI r g a b := by
  unfold Kp366.fair Kp366.lie Kp366.doubtLie Kp366.truth Kp366.doubtTruth fairI
  rw [one_ml, zero_ml, sub_ml]
  simp only [mul_ml, sub_ml, ltF_ml]
  have e1 : ∀ x y : Int, decide (x - y < 0) = decide (x < y) := fun x y => by
    congr 1; exact propext ⟨fun h => by omega, fun h => by omega⟩
  have e2 : ∀ x y : Int, decide (0 < x - y) = decide (y < x) := fun x y => by
    congr 1; exact propext ⟨fun h => by omega, fun h => by omega⟩
  rw [e1, e2, e2, e1]
def stakesI (r : Int) (g : Nat) : Option (Nat × Nat) := (List.range 101).findSome? fun a => ((List.range 101).find? fun b => fairI r g a b).map fun b => (a, b)
theorem stakes_eq (r : Int) (g : Nat) : Kp366.stakes (ml r) g = stakesI r g := by
  unfold Kp366.stakes stakesI
  simp only [fair_eq]
theorem st_stakes (h : House) (i g : Nat) : Kp367.step (some h) (.stakes i g) = (some h, if cnt h ≤ i then Kp367.say (-2) else if 1000 < g then Kp367.say (-22) else match stakesI (rNow h i) g with
    | none => Kp367.say (-33)
    | some p => ⟨(p.1 : Int), [(p.2 : Int)]⟩) := by
  show Kp367.ask (some h) h (.stakes i g) = _
  unfold Kp367.ask Kp366.step
  by_cases c : cnt h ≤ i
  · simp only [if_pos (node_no c), if_pos c]
    rfl
  · simp only [if_neg (node_yes c), if_neg c, right_ml, stakes_eq]
    by_cases c1 : 1000 < g
    · simp only [if_pos c1]
      rfl
    · simp only [if_neg c1]
      cases stakesI (rNow h i) g <;> rfl
end Sg

/-! The cheapest set of leaves. -/
namespace Sg
open Kp340 (fr Fr)
open Kp365 (nodeAt isLeaf isTrue isNode leaves)
open Kp367 (House)
def reachI (d : Kp366.Desk) (cs : List Nat) (t s : Nat) : Bool := cs.all fun i => decide (10000 * (t : Int) ≤ rI d s i)
theorem reaches_eq (d : Kp366.Desk) (cs : List Nat) (t s : Nat) : Kp366.reaches d cs t s = reachI d cs t s := by
  unfold Kp366.reaches reachI
  refine all_congr _ fun i _ => ?_
  rw [right_ml, hun_ml, not_lt_ml]
/-- set s goes ahead of set c -/
def ahead (d : Kp366.Desk) (s c : Nat) : Prop := Kp366.costOf d s < Kp366.costOf d c ∨ (Kp366.costOf d s = Kp366.costOf d c ∧ (Kp366.size d s < Kp366.size d c ∨ (Kp366.size d s = Kp366.size d c ∧ s < c)))
instance (d : Kp366.Desk) (s c : Nat) : Decidable (ahead d s c) := by unfold ahead; infer_instance
theorem ahead_trans {d : Kp366.Desk} {a b c : Nat} (h1 : ahead d a b) (h2 : ahead d b c) : ahead d a c := by
  unfold ahead at *
  omega
theorem ahead_irr {d : Kp366.Desk} {a : Nat} : ¬ ahead d a a := by
  unfold ahead
  omega
theorem ahead_tot {d : Kp366.Desk} {a b : Nat} (h1 : ¬ ahead d a b) (h2 : ¬ ahead d b a) : a = b := by
  unfold ahead at *
  omega
def pickStep (d : Kp366.Desk) (p : Nat → Bool) (b : Option Nat) (s : Nat) : Option Nat := if p s then (match b with
  | none => some s
  | some c => if ahead d s c then some s else b) else b
def pickBest (d : Kp366.Desk) (p : Nat → Bool) (l : List Nat) (b : Option Nat) : Option Nat := l.foldl (pickStep d p) b
/-- of those of l that p takes (and b, if there is one) none goes ahead of what's picked -/
theorem pickBest_spec (d : Kp366.Desk) (p : Nat → Bool) : ∀ (l : List Nat) (b : Option Nat), match pickBest d p l b with
    | none => b = none ∧ ∀ s ∈ l, p s = false
    | some m => ((m ∈ l ∧ p m = true) ∨ b = some m) ∧ (∀ s ∈ l, p s = true → ¬ ahead d s m) ∧ (∀ c, b = some c → ¬ ahead d c m)
  | [], b => by
    show match b with | none => _ | some m => _
    cases b with
    | none => exact ⟨rfl, fun s h => nomatch h⟩
    | some m => exact ⟨Or.inr rfl, (fun s h => nomatch h), fun c e => by cases e; exact ahead_irr⟩
  | x :: r, b => by
    have ih := pickBest_spec d p r (pickStep d p b x)
    have e : pickBest d p (x :: r) b = pickBest d p r (pickStep d p b x) := rfl
    rw [e]
    cases hr : pickBest d p r (pickStep d p b x) with
    | none =>
      rw [hr] at ih
      simp only at ih ⊢
      obtain ⟨h1, h2⟩ := ih
      unfold pickStep at h1
      by_cases hx : p x = true
      · rw [if_pos hx] at h1
        exfalso
        cases b with
        | none => cases h1
        | some c =>
          simp only at h1
          split at h1 <;> cases h1
      · rw [if_neg hx] at h1
        refine ⟨h1, fun s hs => ?_⟩
        rcases List.mem_cons.mp hs with q | q
        · rw [q]; simpa using hx
        · exact h2 s q
    | some m =>
      rw [hr] at ih
      simp only at ih ⊢
      obtain ⟨h1, h2, h3⟩ := ih
      unfold pickStep at h1 h3
      by_cases hx : p x = true
      · rw [if_pos hx] at h1 h3
        cases b with
        | none =>
          simp only at h1 h3
          refine ⟨?_, fun s hs hp => ?_, fun c hc => nomatch hc⟩
          · rcases h1 with q | q
            · exact Or.inl ⟨List.mem_cons_of_mem _ q.1, q.2⟩
            · cases q; exact Or.inl ⟨by simp, hx⟩
          · rcases List.mem_cons.mp hs with q | q
            · rw [q]; exact h3 x rfl
            · exact h2 s q hp
        | some c =>
          simp only at h1 h3
          by_cases hc : ahead d x c
          · rw [if_pos hc] at h1 h3
            have h4 := h3 x rfl
            refine ⟨?_, fun s hs hp => ?_, fun c' hc' => ?_⟩
            · rcases h1 with q | q
              · exact Or.inl ⟨List.mem_cons_of_mem _ q.1, q.2⟩
              · cases q; exact Or.inl ⟨by simp, hx⟩
            · rcases List.mem_cons.mp hs with q | q
              · rw [q]; exact h4
              · exact h2 s q hp
            · cases hc'
              exact fun z => h4 (ahead_trans hc z)
          · rw [if_neg hc] at h1 h3
            have h4 := h3 c rfl
            refine ⟨?_, fun s hs hp => ?_, fun c' hc' => ?_⟩
            · rcases h1 with q | q
              · exact Or.inl ⟨List.mem_cons_of_mem _ q.1, q.2⟩
              · exact Or.inr q
            · rcases List.mem_cons.mp hs with q | q
              · rw [q]
                intro z
                by_cases hcx : ahead d c x
                · exact h4 (ahead_trans hcx z)
                · have := ahead_tot hc hcx
                  rw [this] at z
                  exact h4 z
              · exact h2 s q hp
            · cases hc'
              exact h4
      · rw [if_neg hx] at h1 h3
        refine ⟨?_, fun s hs hp => ?_, h3⟩
        · rcases h1 with q | q
          · exact Or.inl ⟨List.mem_cons_of_mem _ q.1, q.2⟩
          · exact Or.inr q
        · rcases List.mem_cons.mp hs with q | q
          · rw [q] at hp; exact absurd hp hx
          · exact h2 s q hp
/-- all sets of the claims' leaves, as the specification goes through them -/
def sets (d : Kp366.Desk) (cs : List Nat) : List Nat := (List.range (2 ^ (Kp366.allLeaves d cs).length)).map (Kp366.setOf (Kp366.allLeaves d cs))
theorem cheapest_eq (d : Kp366.Desk) (cs : List Nat) (t : Nat) : Kp366.cheapest d cs t = pickBest d (reachI d cs t) (sets d cs) none := by
  unfold Kp366.cheapest pickBest sets
  rw [List.foldl_map]
  dsimp only
  simp only [reaches_eq]
  rfl
/-- the set that goes ahead of all others -/
structure IsBest (d : Kp366.Desk) (cs : List Nat) (t s : Nat) : Prop where
  mem : s ∈ sets d cs
  ok : reachI d cs t s = true
  least : ∀ s' ∈ sets d cs, reachI d cs t s' = true → ¬ ahead d s' s
theorem cheapest_none {d : Kp366.Desk} {cs : List Nat} {t : Nat} (h : ∀ s ∈ sets d cs, reachI d cs t s = false) : Kp366.cheapest d cs t = none := by
  rw [cheapest_eq]
  have q := pickBest_spec d (reachI d cs t) (sets d cs) none
  cases e : pickBest d (reachI d cs t) (sets d cs) none with
  | none => rfl
  | some m =>
    rw [e] at q
    simp only at q
    rcases q.1 with z | z
    · rw [h m z.1] at z; exact absurd z.2 (by decide)
    · cases z
theorem cheapest_some {d : Kp366.Desk} {cs : List Nat} {t s : Nat} (h : IsBest d cs t s) : Kp366.cheapest d cs t = some s := by
  rw [cheapest_eq]
  have q := pickBest_spec d (reachI d cs t) (sets d cs) none
  cases e : pickBest d (reachI d cs t) (sets d cs) none with
  | none =>
    rw [e] at q
    simp only at q
    have := q.2 s h.mem
    rw [h.ok] at this
    cases this
  | some m =>
    rw [e] at q
    simp only at q
    rcases q.1 with z | z
    · exact congrArg some (ahead_tot (h.least m z.1 z.2) (q.2.1 s h.mem h.ok))
    · cases z
theorem cheapest_cases (d : Kp366.Desk) (cs : List Nat) (t : Nat) : (Kp366.cheapest d cs t = none ∧ ∀ s ∈ sets d cs, reachI d cs t s = false) ∨ ∃ s, Kp366.cheapest d cs t = some s ∧ IsBest d cs t s := by
  rw [cheapest_eq]
  have q := pickBest_spec d (reachI d cs t) (sets d cs) none
  cases e : pickBest d (reachI d cs t) (sets d cs) none with
  | none =>
    rw [e] at q
    exact Or.inl ⟨rfl, q.2⟩
  | some m =>
    rw [e] at q
    simp only at q
    refine Or.inr ⟨m, rfl, ?_⟩
    rcases q.1 with z | z
    · exact ⟨z.1, z.2, q.2.1⟩
    · cases z
/-! ### which numbers are sets -/
def setGo (l : List Nat) (b k a : Nat) : Nat := (l.zipIdx b).foldl (fun (a : Nat) (x : Nat × Nat) => if k.testBit x.2 then a + 2 ^ x.1 else a) a
theorem setGo_bit (k : Nat) : ∀ (l : List Nat) (b a : Nat), l.Nodup → (∀ x ∈ l, a.testBit x = false) → ∀ j, (setGo l b k a).testBit j = (a.testBit j || (l.zipIdx b).any fun x => x.1 == j && k.testBit x.2)
  | [], b, a, _, _, j => by
    show a.testBit j = (a.testBit j || false)
    rw [Bool.or_false]
  | x :: r, b, a, hn, ha, j => by
    have hn2 := (List.nodup_cons.mp hn).2
    have hx := (List.nodup_cons.mp hn).1
    have e : setGo (x :: r) b k a = setGo r (b + 1) k (if k.testBit b then a + 2 ^ x else a) := by
      unfold setGo
      rw [List.zipIdx_cons, List.foldl_cons]
    have hax := ha x (by simp)
    rw [e, List.zipIdx_cons, List.any_cons]
    by_cases hk : k.testBit b = true
    · rw [if_pos hk, setGo_bit k r (b + 1) _ hn2 ?_ j, bit_add hax, hk, Bool.and_true]
      · by_cases hj : j = x
        · rw [if_pos hj, hj]
          simp
        · rw [if_neg hj]
          have : (x == j) = false := by simp; omega
          rw [this, Bool.false_or]
      · intro y hy
        rw [bit_add hax, if_neg fun z => hx (by rw [← z]; exact hy)]
        exact ha y (by simp [hy])
    · rw [if_neg hk, setGo_bit k r (b + 1) _ hn2 (fun y hy => ha y (by simp [hy])) j]
      have hk : k.testBit b = false := by simpa using hk
      rw [hk, Bool.and_false, Bool.false_or]
theorem setOf_bit {l : List Nat} (hn : l.Nodup) (k j : Nat) : (Kp366.setOf l k).testBit j = l.zipIdx.any fun x => x.1 == j && k.testBit x.2 := by
  have h := setGo_bit k l 0 0 hn (fun x _ => Nat.zero_testBit x) j
  rw [Nat.zero_testBit, Bool.false_or] at h
  exact h
theorem allLeaves_nodup (d : Kp366.Desk) (cs : List Nat) : (Kp366.allLeaves d cs).Nodup := List.nodup_range.sublist List.filter_sublist
theorem set_sub {d : Kp366.Desk} {cs : List Nat} {s : Nat} (h : s ∈ sets d cs) {j : Nat} (hj : s.testBit j = true) : j ∈ Kp366.allLeaves d cs := by
  obtain ⟨k, _, rfl⟩ := List.mem_map.mp h
  rw [setOf_bit (allLeaves_nodup d cs)] at hj
  obtain ⟨x, hx, e⟩ := List.any_eq_true.mp hj
  rw [Bool.and_eq_true] at e
  rw [← eq_of_beq e.1]
  exact List.fst_mem_of_mem_zipIdx hx
/-- a number with told bits -/
theorem bits_of (f : Nat → Bool) : ∀ n, ∃ k, k < 2 ^ n ∧ ∀ x, x < n → k.testBit x = f x
  | 0 => ⟨0, by decide, fun x h => absurd h (Nat.not_lt_zero _)⟩
  | n + 1 => by
    obtain ⟨k, hk, h⟩ := bits_of f n
    have hb : k.testBit n = false := Nat.testBit_lt_two_pow hk
    cases e : f n with
    | false =>
      refine ⟨k, by rw [Nat.pow_succ]; omega, fun x hx => ?_⟩
      rcases Nat.lt_or_ge x n with q | q
      · exact h x q
      · have : x = n := by omega
        rw [this, hb, e]
    | true =>
      refine ⟨k + 2 ^ n, by rw [Nat.pow_succ]; omega, fun x hx => ?_⟩
      rw [bit_add hb]
      by_cases q : x = n
      · rw [if_pos q, q, e]
      · rw [if_neg q]
        exact h x (by omega)
theorem set_mem {d : Kp366.Desk} {cs : List Nat} {s : Nat} (h : ∀ j, s.testBit j = true → j ∈ Kp366.allLeaves d cs) : s ∈ sets d cs := by
  obtain ⟨k, hk, hb⟩ := bits_of (fun x => s.testBit ((Kp366.allLeaves d cs).getD x 0)) (Kp366.allLeaves d cs).length
  refine List.mem_map.mpr ⟨k, List.mem_range.mpr hk, Nat.eq_of_testBit_eq fun j => ?_⟩
  rw [setOf_bit (allLeaves_nodup d cs), Bool.eq_iff_iff, List.any_eq_true]
  constructor
  · rintro ⟨x, hx, e⟩
    rw [Bool.and_eq_true] at e
    have e1 := eq_of_beq e.1
    have hx2 := List.mem_zipIdx hx
    have hg := hb x.2 (by omega)
    rw [e.2] at hg
    have e3 : (Kp366.allLeaves d cs).getD x.2 0 = j := by
      rw [List.getD_eq_getElem?_getD, List.getElem?_eq_getElem (by omega)]
      rw [← e1, hx2.2.2]
      simp
    rw [e3] at hg
    exact hg.symm
  · intro hj
    obtain ⟨x, hx⟩ := List.mem_iff_getElem?.mp (h j hj)
    have hlt := (List.getElem?_eq_some_iff.mp hx).1
    refine ⟨(j, x), List.mk_mem_zipIdx_iff_getElem?.mpr hx, ?_⟩
    rw [hb x hlt, List.getD_eq_getElem?_getD, hx, Bool.and_eq_true]
    exact ⟨by simp, hj⟩
theorem sets_iff {d : Kp366.Desk} {cs : List Nat} {s : Nat} : s ∈ sets d cs ↔ ∀ j, s.testBit j = true → j ∈ Kp366.allLeaves d cs :=
  ⟨fun h _ hj => set_sub h hj, set_mem⟩
end Sg

/-! cheapest and buy; every call keeps a house as it should be. -/
namespace Sg
open Kp340 (fr Fr)
open Kp365 (nodeAt isLeaf isTrue isNode leaves)
open Kp367 (House)
theorem leaves_kind {t : Kp365.Desk} (w : WFT t) : ∀ i j, j ∈ leaves t i → (nodeAt t j).kind = 0 ∧ j ≤ i := by
  intro i
  induction i using Nat.strongRecOn with
  | ind i ih =>
    intro j hj
    rw [leaves_eq w] at hj
    by_cases h0 : (nodeAt t i).kind = 0
    · rw [if_pos h0, List.mem_singleton] at hj
      rw [hj]
      exact ⟨h0, Nat.le_refl _⟩
    · rw [if_neg h0] at hj
      obtain ⟨k, hk, hjk⟩ := List.mem_flatMap.mp hj
      have hlt := w.kids i k hk
      have := ih k hlt j hjk
      exact ⟨this.1, by omega⟩
theorem mem_allLeaves {d : Kp366.Desk} {cs : List Nat} {j : Nat} : j ∈ Kp366.allLeaves d cs ↔ j < d.tree.nodes.length ∧ ∃ i ∈ cs, j ∈ leaves d.tree i := by
  unfold Kp366.allLeaves
  rw [List.mem_filter, List.mem_range, List.any_eq_true]
  constructor
  · rintro ⟨h, i, hi, e⟩
    exact ⟨h, i, hi, by simpa using e⟩
  · rintro ⟨h, i, hi, e⟩
    exact ⟨h, i, hi, by simpa using e⟩
theorem allLeaves_leaf {d : Kp366.Desk} (w : WFT d.tree) {cs : List Nat} {j : Nat} (h : j ∈ Kp366.allLeaves d cs) : j < d.tree.nodes.length ∧ (nodeAt d.tree j).kind = 0 := by
  obtain ⟨h1, i, _, h2⟩ := mem_allLeaves.mp h
  exact ⟨h1, (leaves_kind w i j h2).1⟩
def badClaims (h : House) (t : Nat) (l : List Nat) : Prop := Kp366.okClaims h.desk l = false ∨ 100 < t
instance (h : House) (t : Nat) (l : List Nat) : Decidable (badClaims h t l) := by unfold badClaims; infer_instance
theorem st_cheapest (h : House) (t : Nat) (l : List Nat) : Kp367.step (some h) (.cheapest t l) = (some h, if badClaims h t l then Kp367.say (-22) else if 10 < (Kp366.allLeaves h.desk l).length then Kp367.say (-28) else match Kp366.cheapest h.desk l t with
    | none => Kp367.say (-33)
    | some s => ⟨(Kp366.costOf h.desk s : Int), [(s : Int)]⟩) := by
  show Kp367.ask (some h) h (.cheapest t l) = _
  unfold Kp367.ask Kp366.step Kp366.ofClaims
  by_cases c : badClaims h t l
  · have c' : Kp366.okClaims h.desk l = false ∨ 100 < t := c
    simp only [if_pos c, if_pos c']
    rfl
  · have c' : ¬ (Kp366.okClaims h.desk l = false ∨ 100 < t) := c
    simp only [if_neg c, if_neg c']
    by_cases c1 : 10 < (Kp366.allLeaves h.desk l).length
    · simp only [if_pos c1]
      rfl
    · simp only [if_neg c1]
      cases Kp366.cheapest h.desk l t <;> rfl
theorem st_buy (h : House) (t : Nat) (l : List Nat) : Kp367.step (some h) (.buy t l) = if badClaims h t l then (some h, Kp367.say (-22)) else if 10 < (Kp366.allLeaves h.desk l).length then (some h, Kp367.say (-28)) else match Kp366.cheapest h.desk l t with
    | none => (some h, Kp367.say (-33))
    | some s => guard h { h with desk := { h.desk with thrice := s } } (Kp366.costOf h.desk s : Nat) := by
  show Kp367.change (some h) h (.buy t l) = _
  by_cases c : badClaims h t l
  · have c' : Kp366.okClaims h.desk l = false ∨ 100 < t := c
    rw [if_pos c]
    refine change_no (s := some h.desk) (by decide) ?_
    unfold Kp366.step Kp366.ofClaims
    simp only [if_pos c']
  · have c' : ¬ (Kp366.okClaims h.desk l = false ∨ 100 < t) := c
    rw [if_neg c]
    by_cases c1 : 10 < (Kp366.allLeaves h.desk l).length
    · rw [if_pos c1]
      refine change_no (s := some h.desk) (by decide) ?_
      unfold Kp366.step Kp366.ofClaims
      simp only [if_neg c', if_pos c1]
    · rw [if_neg c1]
      cases e : Kp366.cheapest h.desk l t with
      | none =>
        refine change_no (s := some h.desk) (by decide) ?_
        unfold Kp366.step Kp366.ofClaims
        simp only [if_neg c', if_neg c1, e]
      | some s =>
        refine change_ok (by omega) ?_
        unfold Kp366.step Kp366.ofClaims
        simp only [if_neg c', if_neg c1, e]
theorem wfh_buy {h : House} (w : WFH h) {l : List Nat} {t s : Nat} (e : Kp366.cheapest h.desk l t = some s) (k : ({ h with desk := { h.desk with thrice := s } } : House).promises.all (keptI { h with desk := { h.desk with thrice := s } }) = true) : WFH { h with desk := { h.desk with thrice := s } } := by
  refine wfh_set w (fun i hi => ?_) k
  rcases cheapest_cases h.desk l t with ⟨q, _⟩ | ⟨s', q, b⟩
  · rw [q] at e; cases e
  · rw [q] at e
    cases e
    exact allLeaves_leaf w.tree (set_sub b.mem hi)
theorem wfh_guard {h e : House} {n : Int} {st : Option House} {a : Kp367.Ans} (w : WFH h) (hg : guard h e n = (st, a)) (he : e.promises.all (keptI e) = true → WFH e) : ∃ h', st = some h' ∧ WFH h' := by
  unfold guard at hg
  by_cases k : e.promises.all (keptI e) = true
  · rw [if_pos k] at hg
    cases hg
    exact ⟨e, rfl, he k⟩
  · rw [if_neg k] at hg
    cases hg
    exact ⟨h, rfl, w⟩
/-- a house stays as it should be -/
theorem wfh_step {h : House} (w : WFH h) (c : Kp367.Call) : ∃ h', (Kp367.step (some h) c).1 = some h' ∧ WFH h' := by
  cases c with
  | begin_ m =>
    rw [st_begin]
    split
    · exact ⟨h, rfl, w⟩
    · exact ⟨_, rfl, wfh_fresh (by omega)⟩
  | leaf so wr =>
    rw [st_leaf w]
    split
    · exact ⟨h, rfl, w⟩
    · split
      · exact ⟨h, rfl, w⟩
      · exact ⟨_, rfl, wfh_add w ⟨(fun _ hk => nomatch hk), Nat.zero_le _, Or.inl ⟨rfl, rfl, (by show so ≤ 1; omega), (by show wr ≤ 100; omega)⟩⟩ (by omega)⟩
  | all_ l =>
    rw [st_all w]
    split
    · exact ⟨h, rfl, w⟩
    · rename_i c
      split
      · exact ⟨h, rfl, w⟩
      · exact ⟨_, rfl, wfh_add w (okKids_ok (by simpa using c) 1 (Or.inl rfl)) (by omega)⟩
  | some_ l =>
    rw [st_some w]
    split
    · exact ⟨h, rfl, w⟩
    · rename_i c
      split
      · exact ⟨h, rfl, w⟩
      · exact ⟨_, rfl, wfh_add w (okKids_ok (by simpa using c) 2 (Or.inr rfl)) (by omega)⟩
  | pop =>
    rw [st_pop]
    split
    · exact ⟨h, rfl, w⟩
    · exact wfh_guard w rfl fun k => wfh_pop w k
  | nodeIs i => rw [st_nodeIs]; exact ⟨h, rfl, w⟩
  | flip i =>
    rw [st_flip]
    split
    · exact ⟨h, rfl, w⟩
    · split
      · exact ⟨h, rfl, w⟩
      · rename_i c c1
        exact wfh_guard w rfl fun k => wfh_flip w (Nat.not_le.mp c) (by simpa using c1) k
  | price i p =>
    rw [st_price w]
    split
    · exact ⟨h, rfl, w⟩
    · split
      · exact ⟨h, rfl, w⟩
      · exact ⟨_, rfl, wfh_price w (by omega)⟩
  | thrice i =>
    rw [st_thrice]
    split
    · exact ⟨h, rfl, w⟩
    · split
      · exact ⟨h, rfl, w⟩
      · split
        · exact ⟨h, rfl, w⟩
        · rename_i c c1 c2
          exact wfh_guard w rfl fun k => wfh_thrice w (Nat.not_le.mp c) (by simpa using c1) (by simpa using c2) k
  | once i =>
    rw [st_once]
    split
    · exact ⟨h, rfl, w⟩
    · split
      · exact ⟨h, rfl, w⟩
      · rename_i c c1
        exact wfh_guard w rfl fun k => wfh_once w (by simpa using c1) k
  | misread i => rw [st_misread]; exact ⟨h, rfl, w⟩
  | true_ i => rw [st_true]; exact ⟨h, rfl, w⟩
  | right i => rw [st_right]; exact ⟨h, rfl, w⟩
  | ends i => rw [st_ends]; exact ⟨h, rfl, w⟩
  | cheapest t l => rw [st_cheapest]; exact ⟨h, rfl, w⟩
  | buy t l =>
    rw [st_buy]
    split
    · exact ⟨h, rfl, w⟩
    · split
      · exact ⟨h, rfl, w⟩
      · cases e : Kp366.cheapest h.desk l t with
        | none => exact ⟨h, rfl, w⟩
        | some s => exact wfh_guard w rfl fun k => wfh_buy w e k
  | promise i t =>
    rw [st_promise]
    split
    · exact ⟨h, rfl, w⟩
    · split
      · exact ⟨h, rfl, w⟩
      · split
        · exact ⟨h, rfl, w⟩
        · split
          · exact ⟨h, rfl, w⟩
          · split
            · exact ⟨h, rfl, w⟩
            · rename_i c c1 c2 c3 c4
              exact ⟨_, rfl, wfh_promise w (Nat.not_le.mp c) (by omega) (by omega) (by omega)⟩
  | unpromise k =>
    rw [st_unpromise]
    split
    · exact ⟨h, rfl, w⟩
    · exact ⟨_, rfl, wfh_unpromise w k⟩
  | promiseIs k => exact ⟨h, rfl, w⟩
  | tightest i => rw [st_tightest]; exact ⟨h, rfl, w⟩
  | hear i a b =>
    rw [st_hear]
    split
    · exact ⟨h, rfl, w⟩
    · split
      · exact ⟨h, rfl, w⟩
      · split
        · exact ⟨h, rfl, w⟩
        · split
          · exact ⟨h, rfl, w⟩
          · exact ⟨_, rfl, wfh_hear w i a b (by omega)⟩
  | ifHear i a b => rw [st_ifHear]; exact ⟨h, rfl, w⟩
  | entry k => exact ⟨h, rfl, w⟩
  | tally => exact ⟨h, rfl, w⟩
  | owed => exact ⟨h, rfl, w⟩
  | pay m =>
    rw [st_pay]
    split
    · exact ⟨h, rfl, w⟩
    · exact ⟨_, rfl, wfh_pay w (by omega)⟩
  | stakes i g => rw [st_stakes]; exact ⟨h, rfl, w⟩
end Sg

/-! What looks.py computes, as plain functions: leaves by one walk down, all sets with their keys, the first of the sorted ones. -/
namespace Sg
open Kp365 (nodeAt isLeaf isTrue isNode leaves)
open Kp367 (House)
/-! ### the leaves of some claims -/
def setAll (bs : List Bool) (ks : List Nat) : List Bool := ks.foldl (fun b k => b.set k true) bs
theorem setAll_len : ∀ (ks : List Nat) (bs : List Bool), (setAll bs ks).length = bs.length
  | [], _ => rfl
  | k :: r, bs => by
    show (setAll (bs.set k true) r).length = _
    rw [setAll_len r, List.length_set]
theorem setAll_snoc (bs : List Bool) (ks : List Nat) (k : Nat) : setAll bs (ks ++ [k]) = (setAll bs ks).set k true := by
  unfold setAll
  rw [List.foldl_append]
  rfl
theorem setAll_get : ∀ (ks : List Nat) (bs : List Bool) (j : Nat), (setAll bs ks).getD j false = true ↔ bs.getD j false = true ∨ (j ∈ ks ∧ j < bs.length)
  | [], bs, j => by
    show bs.getD j false = true ↔ _
    simp
  | k :: r, bs, j => by
    show (setAll (bs.set k true) r).getD j false = true ↔ _
    rw [setAll_get r, List.length_set]
    have e : (bs.set k true).getD j false = true ↔ bs.getD j false = true ∨ (j = k ∧ j < bs.length) := by
      rw [List.getD_eq_getElem?_getD, List.getD_eq_getElem?_getD, List.getElem?_set]
      by_cases h : k = j
      · subst h
        by_cases hl : k < bs.length
        · simp [hl]
        · simp [hl]
      · have h' : ¬ j = k := fun z => h z.symm
        simp [h, h']
    rw [e, List.mem_cons]
    constructor
    · rintro ((h | h) | h)
      · exact Or.inl h
      · exact Or.inr ⟨Or.inl h.1, h.2⟩
      · exact Or.inr ⟨Or.inr h.1, h.2⟩
    · rintro (h | ⟨h | h, hl⟩)
      · exact Or.inl (Or.inl h)
      · exact Or.inl (Or.inr ⟨h, hl⟩)
      · exact Or.inr ⟨h, hl⟩
/-- behind the walk over the nodes from the last down to m -/
structure Down (t : Kp365.Desk) (cs : List Nat) (m : Nat) (bs : List Bool) : Prop where
  len : bs.length = t.nodes.length
  under : ∀ x, bs.getD x false = true → ∀ j ∈ leaves t x, ∃ c ∈ cs, j ∈ leaves t c
  met : ∀ c ∈ cs, ∀ j ∈ leaves t c, ∃ x, bs.getD x false = true ∧ j ∈ leaves t x ∧ (x < m ∨ x = j)
def down0 (n : Nat) (cs : List Nat) : List Bool := (List.range n).map fun j => decide (j ∈ cs)
theorem down0_get {n : Nat} {cs : List Nat} {x : Nat} : (down0 n cs).getD x false = true ↔ x < n ∧ x ∈ cs := by
  unfold down0
  rw [List.getD_eq_getElem?_getD, List.getElem?_map]
  rcases Nat.lt_or_ge x n with h | h
  · rw [List.getElem?_range h]
    simp [h]
  · rw [List.getElem?_eq_none (by simpa using h)]
    simp
    omega
theorem Down.start {t : Kp365.Desk} {cs : List Nat} (hc : ∀ c ∈ cs, c < t.nodes.length) : Down t cs t.nodes.length (down0 t.nodes.length cs) := by
  refine ⟨by unfold down0; rw [List.length_map, List.length_range], fun x hx j hj => ?_, fun c hcs j hj => ⟨c, ?_, hj, Or.inl (hc c hcs)⟩⟩
  · exact ⟨x, (down0_get.mp hx).2, hj⟩
  · exact down0_get.mpr ⟨hc c hcs, hcs⟩
theorem Down.skip {t : Kp365.Desk} {cs : List Nat} {m : Nat} {bs : List Bool} (h : Down t cs (m + 1) bs) (hb : bs.getD m false = false) : Down t cs m bs := by
  refine ⟨h.len, h.under, fun c hc j hj => ?_⟩
  obtain ⟨x, h1, h2, h3⟩ := h.met c hc j hj
  refine ⟨x, h1, h2, ?_⟩
  rcases h3 with q | q
  · rcases Nat.lt_or_ge x m with z | z
    · exact Or.inl z
    · have e : x = m := by omega
      rw [e, hb] at h1
      cases h1
  · exact Or.inr q
theorem Down.step {t : Kp365.Desk} (w : WFT t) {cs : List Nat} {m : Nat} {bs : List Bool} (h : Down t cs (m + 1) bs) (hm : m < t.nodes.length) (hb : bs.getD m false = true) : Down t cs m (setAll bs (nodeAt t m).kids) := by
  have hkid := w.kids m
  have sub : ∀ k ∈ (nodeAt t m).kids, ∀ j ∈ leaves t k, j ∈ leaves t m := fun k hk j hj => by
    rw [leaves_eq w m]
    by_cases h0 : (nodeAt t m).kind = 0
    · exfalso
      rcases w.kind m with z | z
      · rw [z.2.1] at hk
        cases hk
      · omega
    · rw [if_neg h0]
      exact List.mem_flatMap.mpr ⟨k, hk, hj⟩
  refine ⟨by rw [setAll_len]; exact h.len, fun x hx j hj => ?_, fun c hc j hj => ?_⟩
  · rcases (setAll_get _ _ _).mp hx with q | q
    · exact h.under x q j hj
    · exact h.under m hb j (sub x q.1 j hj)
  · obtain ⟨x, h1, h2, h3⟩ := h.met c hc j hj
    rcases h3 with q | q
    · rcases Nat.lt_or_ge x m with z | z
      · exact ⟨x, (setAll_get _ _ _).mpr (Or.inl h1), h2, Or.inl z⟩
      · have e : x = m := by omega
        rw [e] at h1 h2
        have h2' := h2
        rw [leaves_eq w m] at h2'
        by_cases h0 : (nodeAt t m).kind = 0
        · rw [if_pos h0, List.mem_singleton] at h2'
          exact ⟨m, (setAll_get _ _ _).mpr (Or.inl h1), h2, Or.inr h2'.symm⟩
        · rw [if_neg h0] at h2'
          obtain ⟨k, hk, hjk⟩ := List.mem_flatMap.mp h2'
          have hlt := hkid k hk
          exact ⟨k, (setAll_get _ _ _).mpr (Or.inr ⟨hk, by rw [h.len]; omega⟩), hjk, Or.inl hlt⟩
    · exact ⟨x, (setAll_get _ _ _).mpr (Or.inl h1), h2, Or.inr q⟩
theorem Down.done {d : Kp366.Desk} (w : WFT d.tree) {cs : List Nat} {bs : List Bool} (h : Down d.tree cs 0 bs) :
    ((List.range d.tree.nodes.length).filter fun j => bs.getD j false && (nodeAt d.tree j).kind == 0) = Kp366.allLeaves d cs := by
  unfold Kp366.allLeaves
  refine List.filter_congr fun j hj => ?_
  rw [Bool.eq_iff_iff, Bool.and_eq_true, List.any_eq_true]
  constructor
  · rintro ⟨h1, h2⟩
    have h0 : (nodeAt d.tree j).kind = 0 := eq_of_beq h2
    have hl : leaves d.tree j = [j] := by rw [leaves_eq w j, if_pos h0]
    obtain ⟨c, hc, hjc⟩ := h.under j h1 j (by rw [hl]; simp)
    exact ⟨c, hc, by simpa using hjc⟩
  · rintro ⟨c, hc, hjc⟩
    have hjc : j ∈ leaves d.tree c := by simpa using hjc
    obtain ⟨x, h1, h2, h3⟩ := h.met c hc j hjc
    rcases h3 with q | q
    · exact absurd q (Nat.not_lt_zero _)
    · rw [q] at h1
      exact ⟨h1, by rw [(leaves_kind w c j hjc).1]; rfl⟩
/-! ### all sets, with their keys -/
def nums (ls : List Nat) : Nat → List Nat
  | 0 => [0]
  | i + 1 => if i ∈ ls then nums ls i ++ (nums ls i).map fun s => s + 2 ^ i else nums ls i
theorem nums_lt {ls : List Nat} : ∀ {i s : Nat}, s ∈ nums ls i → s < 2 ^ i
  | 0, s, h => by
    have : s = 0 := by simpa [nums] using h
    rw [this]; decide
  | i + 1, s, h => by
    unfold nums at h
    have e : 2 ^ (i + 1) = 2 ^ i + 2 ^ i := by rw [Nat.pow_succ]; omega
    by_cases c : i ∈ ls
    · rw [if_pos c] at h
      rcases List.mem_append.mp h with q | q
      · have := nums_lt q; omega
      · obtain ⟨x, hx, rfl⟩ := List.mem_map.mp q
        have := nums_lt hx; omega
    · rw [if_neg c] at h
      have := nums_lt h; omega
theorem nums_bit {ls : List Nat} : ∀ {i s : Nat}, s ∈ nums ls i → ∀ j, s.testBit j = true → j ∈ ls ∧ j < i
  | 0, s, h, j, hj => by
    have : s = 0 := by simpa [nums] using h
    rw [this, Nat.zero_testBit] at hj
    cases hj
  | i + 1, s, h, j, hj => by
    unfold nums at h
    by_cases c : i ∈ ls
    · rw [if_pos c] at h
      rcases List.mem_append.mp h with q | q
      · have := nums_bit q j hj; exact ⟨this.1, by omega⟩
      · obtain ⟨x, hx, rfl⟩ := List.mem_map.mp q
        have hb : x.testBit i = false := Nat.testBit_lt_two_pow (nums_lt hx)
        rw [bit_add hb] at hj
        by_cases e : j = i
        · rw [e]; exact ⟨c, by omega⟩
        · rw [if_neg e] at hj
          have := nums_bit hx j hj; exact ⟨this.1, by omega⟩
    · rw [if_neg c] at h
      have := nums_bit h j hj; exact ⟨this.1, by omega⟩
theorem nums_mem {ls : List Nat} : ∀ {i s : Nat}, (∀ j, s.testBit j = true → j ∈ ls ∧ j < i) → s ∈ nums ls i
  | 0, s, h => by
    have : s = 0 := Nat.eq_of_testBit_eq fun j => by
      rw [Nat.zero_testBit]
      cases e : s.testBit j with
      | false => rfl
      | true => exact absurd (h j e).2 (Nat.not_lt_zero _)
    rw [this]
    simp [nums]
  | i + 1, s, h => by
    unfold nums
    cases e : s.testBit i with
    | true =>
      rw [if_pos (h i e).1]
      refine List.mem_append.mpr (Or.inr (List.mem_map.mpr ⟨s - 2 ^ i, nums_mem (fun j hj => ?_), ?_⟩))
      · rw [bit_sub e] at hj
        by_cases q : j = i
        · rw [if_pos q] at hj; cases hj
        · rw [if_neg q] at hj
          have := h j hj
          exact ⟨this.1, by omega⟩
      · have := Nat.ge_two_pow_of_testBit e
        omega
    | false =>
      have r : s ∈ nums ls i := nums_mem fun j hj => by
        have := h j hj
        refine ⟨this.1, ?_⟩
        rcases Nat.lt_or_ge j i with z | z
        · exact z
        · have q : j = i := by omega
          rw [q, e] at hj
          cases hj
      split
      · exact List.mem_append.mpr (Or.inl r)
      · exact r
theorem nums_len {ls : List Nat} : ∀ i, (nums ls i).length = 2 ^ ((List.range i).filter fun j => decide (j ∈ ls)).length
  | 0 => rfl
  | i + 1 => by
    unfold nums
    rw [List.range_succ, List.filter_append]
    by_cases c : i ∈ ls
    · rw [if_pos c, List.length_append, List.length_map, nums_len i, List.length_append]
      have : ([i].filter fun j => decide (j ∈ ls)).length = 1 := by simp [c]
      rw [this, Nat.pow_succ]
      omega
    · rw [if_neg c, nums_len i]
      have : ([i].filter fun j => decide (j ∈ ls)) = [] := by simp [c]
      rw [this, List.append_nil]
theorem nums_sets {d : Kp366.Desk} {cs : List Nat} {s : Nat} : s ∈ nums (Kp366.allLeaves d cs) d.tree.nodes.length ↔ s ∈ sets d cs := by
  rw [sets_iff]
  constructor
  · exact fun h j hj => (nums_bit h j hj).1
  · exact fun h => nums_mem fun j hj => ⟨h j hj, (mem_allLeaves.mp (h j hj)).1⟩
theorem nums_len_all (d : Kp366.Desk) (cs : List Nat) {n : Nat} (hn : n ≤ d.tree.nodes.length) : (nums (Kp366.allLeaves d cs) n).length ≤ 2 ^ (Kp366.allLeaves d cs).length := by
  rw [nums_len]
  refine Nat.pow_le_pow_right (by decide) ?_
  have h1 : (List.range n).Sublist (List.range d.tree.nodes.length) := List.range_sublist.mpr hn
  refine Nat.le_trans (h1.filter fun j => decide (j ∈ Kp366.allLeaves d cs)).length_le (Nat.le_of_eq ?_)
  congr 1
  have h2 : Kp366.allLeaves d cs = (List.range d.tree.nodes.length).filter fun j => cs.any fun i => (leaves d.tree i).contains j := rfl
  conv => rhs; rw [h2]
  refine List.filter_congr fun j hj => ?_
  rw [h2, Bool.eq_iff_iff, decide_eq_true_eq, List.mem_filter]
  exact ⟨fun z => z.2, fun z => ⟨hj, z⟩⟩
/-! ### cost and size, one bit more -/
theorem cost_go (d : Kp366.Desk) {s i : Nat} (hb : s.testBit i = false) : ∀ n, (List.range n).foldl (fun (a j : Nat) => if (s + 2 ^ i).testBit j then a + d.price.getD j 0 else a) 0 = (List.range n).foldl (fun (a j : Nat) => if s.testBit j then a + d.price.getD j 0 else a) 0 + if i < n then d.price.getD i 0 else 0
  | 0 => by simp
  | n + 1 => by
    rw [List.range_succ, List.foldl_append, List.foldl_append, cost_go d hb n]
    show (if (s + 2 ^ i).testBit n then _ else _) = (if s.testBit n then _ else _) + _
    rw [bit_add hb]
    by_cases e : n = i
    · subst e
      rw [if_pos rfl, if_pos rfl, hb, if_neg (Nat.lt_irrefl _), if_pos (Nat.lt_succ_self _)]
      simp
    · rw [if_neg e]
      by_cases q : i < n
      · rw [if_pos q, if_pos (show i < n + 1 by omega)]
        split <;> omega
      · rw [if_neg q, if_neg (show ¬ i < n + 1 by omega)]
        split <;> omega
theorem cost_add (d : Kp366.Desk) {s i : Nat} (hb : s.testBit i = false) (hi : i < d.tree.nodes.length) : Kp366.costOf d (s + 2 ^ i) = Kp366.costOf d s + d.price.getD i 0 := by
  unfold Kp366.costOf
  rw [cost_go d hb, if_pos hi]
theorem size_go {s i : Nat} (hb : s.testBit i = false) : ∀ n, ((List.range n).filter fun j => (s + 2 ^ i).testBit j).length = ((List.range n).filter fun j => s.testBit j).length + if i < n then 1 else 0
  | 0 => by simp
  | n + 1 => by
    have f1 : ∀ p : Nat → Bool, ([n].filter p).length = if p n then 1 else 0 := fun p => by
      cases e : p n <;> simp [List.filter, e]
    rw [List.range_succ, List.filter_append, List.filter_append, List.length_append, List.length_append, size_go hb n, f1, f1, bit_add hb]
    by_cases e : n = i
    · subst e
      rw [if_pos rfl, if_pos rfl, hb, if_neg (Nat.lt_irrefl _), if_pos (Nat.lt_succ_self _)]
      simp
    · rw [if_neg e]
      by_cases q : i < n
      · rw [if_pos q, if_pos (show i < n + 1 by omega)]
        omega
      · rw [if_neg q, if_neg (show ¬ i < n + 1 by omega)]
        omega
theorem size_add (d : Kp366.Desk) {s i : Nat} (hb : s.testBit i = false) (hi : i < d.tree.nodes.length) : Kp366.size d (s + 2 ^ i) = Kp366.size d s + 1 := by
  unfold Kp366.size
  rw [size_go hb, if_pos hi]
theorem cost_zero (d : Kp366.Desk) : Kp366.costOf d 0 = 0 := by
  unfold Kp366.costOf
  generalize List.range d.tree.nodes.length = l
  have : ∀ (l : List Nat) (a : Nat), l.foldl (fun (a i : Nat) => if Nat.testBit 0 i then a + d.price.getD i 0 else a) a = a := by
    intro l
    induction l with
    | nil => intro a; rfl
    | cons x r ih =>
      intro a
      rw [List.foldl_cons, Nat.zero_testBit, if_neg (by decide)]
      exact ih a
  exact this l 0
theorem size_zero (d : Kp366.Desk) : Kp366.size d 0 = 0 := by
  unfold Kp366.size
  rw [List.filter_eq_nil_iff.mpr (fun j _ => by rw [Nat.zero_testBit]; decide)]
  rfl
theorem cost_le (d : Kp366.Desk) (hp : ∀ p ∈ d.price, p ≤ 100) (s : Nat) : Kp366.costOf d s ≤ 100 * d.tree.nodes.length := by
  unfold Kp366.costOf
  have : ∀ n, (List.range n).foldl (fun (a i : Nat) => if s.testBit i then a + d.price.getD i 0 else a) 0 ≤ 100 * n := by
    intro n
    induction n with
    | zero => exact Nat.le_refl _
    | succ n ih =>
      rw [List.range_succ, List.foldl_append]
      show (if s.testBit n then _ else _) ≤ _
      have := getD_le hp n
      split <;> omega
  exact this _
theorem size_le (d : Kp366.Desk) (s : Nat) : Kp366.size d s ≤ d.tree.nodes.length := by
  unfold Kp366.size
  refine Nat.le_trans (List.length_filter_le _ _) ?_
  rw [List.length_range]
  exact Nat.le_refl _
/-- a set's key -/
def key (d : Kp366.Desk) (s : Nat) : List Int := [(Kp366.costOf d s : Int), (Kp366.size d s : Int), (s : Int)]
/-- the first of the sorted ones that does is the best; if none does there is none -/
theorem first_best {d : Kp366.Desk} {cs : List Nat} {t : Nat} {ys : List Nat} (hy : ∀ s, s ∈ ys ↔ s ∈ sets d cs) (hs : ys.Pairwise fun x y => ¬ ahead d y x) {k s : Nat} (hk : ys[k]? = some s) (hr : reachI d cs t s = true) (hn : ∀ j x, j < k → ys[j]? = some x → reachI d cs t x = false) : Kp366.cheapest d cs t = some s := by
  refine cheapest_some ⟨(hy s).mp (List.mem_of_getElem? hk), hr, fun s' hs' hr' => ?_⟩
  obtain ⟨j, hj⟩ := List.mem_iff_getElem?.mp ((hy s').mpr hs')
  rcases Nat.lt_trichotomy j k with q | q | q
  · rw [hn j s' q hj] at hr'
    cases hr'
  · rw [q, hk] at hj
    cases hj
    exact ahead_irr
  · have h1 := (List.getElem?_eq_some_iff.mp hk)
    have h2 := (List.getElem?_eq_some_iff.mp hj)
    have := List.pairwise_iff_getElem.mp hs k j h1.1 h2.1 q
    rw [h1.2, h2.2] at this
    exact this
theorem none_best {d : Kp366.Desk} {cs : List Nat} {t : Nat} {ys : List Nat} (hy : ∀ s, s ∈ ys ↔ s ∈ sets d cs) (hn : ∀ x ∈ ys, reachI d cs t x = false) : Kp366.cheapest d cs t = none :=
  cheapest_none fun s hs => hn s ((hy s).mpr hs)
end Sg

/-! A call that may be asked: its number and its numbers. -/
namespace Sg
open Kp367Neutral (asked1 callOf natural)
inductive Told : Nat → List Nat → Kp367.Call → Prop
  | begin_ (a : Nat) : Told 0 ([a]) (.begin_ a)
  | leaf (a b : Nat) : Told 1 ([a, b]) (.leaf a b)
  | all_ (l : List Nat) : Told 2 (l) (.all_ l)
  | some_ (l : List Nat) : Told 3 (l) (.some_ l)
  | pop : Told 4 ([]) (.pop)
  | nodeIs (a : Nat) : Told 5 ([a]) (.nodeIs a)
  | flip (a : Nat) : Told 6 ([a]) (.flip a)
  | price (a b : Nat) : Told 7 ([a, b]) (.price a b)
  | thrice (a : Nat) : Told 8 ([a]) (.thrice a)
  | once (a : Nat) : Told 9 ([a]) (.once a)
  | misread (a : Nat) : Told 10 ([a]) (.misread a)
  | true_ (a : Nat) : Told 11 ([a]) (.true_ a)
  | right (a : Nat) : Told 12 ([a]) (.right a)
  | ends (a : Nat) : Told 13 ([a]) (.ends a)
  | cheapest (a : Nat) (l : List Nat) : Told 14 (a :: l) (.cheapest a l)
  | buy (a : Nat) (l : List Nat) : Told 15 (a :: l) (.buy a l)
  | promise (a b : Nat) : Told 16 ([a, b]) (.promise a b)
  | unpromise (a : Nat) : Told 17 ([a]) (.unpromise a)
  | promiseIs (a : Nat) : Told 18 ([a]) (.promiseIs a)
  | tightest (a : Nat) : Told 19 ([a]) (.tightest a)
  | hear (a b c : Nat) : Told 20 ([a, b, c]) (.hear a b c)
  | ifHear (a b c : Nat) : Told 21 ([a, b, c]) (.ifHear a b c)
  | entry (a : Nat) : Told 22 ([a]) (.entry a)
  | tally : Told 23 ([]) (.tally)
  | owed : Told 24 ([]) (.owed)
  | pay (a : Nat) : Told 25 ([a]) (.pay a)
  | stakes (a b : Nat) : Told 26 ([a, b]) (.stakes a b)
theorem natural_nat {z : Int} (h : natural z = true) : ∃ n : Nat, z = (n : Int) ∧ n < 4294967296 := by
  unfold natural at h
  rw [Bool.and_eq_true, decide_eq_true_eq, decide_eq_true_eq] at h
  exact ⟨z.toNat, by omega, by omega⟩
theorem natural_row : ∀ {l : List Int}, l.all natural = true → ∃ ns : List Nat, l = ns.map (fun (n : Nat) => (n : Int)) ∧ ∀ n ∈ ns, n < 4294967296
  | [], _ => ⟨[], rfl, fun n h => by simp at h⟩
  | z :: r, h => by
    rw [List.all_cons, Bool.and_eq_true] at h
    obtain ⟨n, rfl, hn⟩ := natural_nat h.1
    obtain ⟨ns, rfl, hns⟩ := natural_row h.2
    refine ⟨n :: ns, rfl, fun m hm => ?_⟩
    rcases List.mem_cons.mp hm with e | e
    · rw [e]; exact hn
    · exact hns m e
theorem toNat_row (ns : List Nat) : (ns.map fun (n : Nat) => (n : Int)).map Int.toNat = ns := by
  rw [List.map_map]
  conv => rhs; rw [← List.map_id ns]
  exact List.map_congr_left fun n _ => Int.toNat_natCast n
theorem lt_nil : ∀ z ∈ ([] : List Nat), z < 4294967296 := fun z h => by simp at h
theorem lt_cons {n : Nat} {r : List Nat} (h : n < 4294967296) (hr : ∀ z ∈ r, z < 4294967296) : ∀ z ∈ n :: r, z < 4294967296 := fun z hz => by
  rcases List.mem_cons.mp hz with e | e
  · rw [e]; exact h
  · exact hr z e
theorem asked1_told {c : List (List Int)} (h : asked1 c = true) : ∃ (q : Nat) (ns : List Nat) (x : Kp367.Call), c = [(q : Int) :: ns.map fun (n : Nat) => (n : Int)] ∧ Told q ns x ∧ callOf c = some x ∧ (∀ z ∈ ns, z < 4294967296) ∧ ns.length ≤ 7 := by
  unfold asked1 at h
  split at h
  · -- begin_
    obtain ⟨a, rfl, ha⟩ := natural_nat h
    exact ⟨0, [a], .begin_ a, rfl, .begin_ a, rfl, (lt_cons ha lt_nil), Nat.le_of_ble_eq_true rfl⟩
  · -- leaf
    rw [Bool.and_eq_true] at h
    obtain ⟨a, rfl, ha⟩ := natural_nat h.1
    have h0' := h.2
    obtain ⟨b, rfl, hb⟩ := natural_nat h0'
    exact ⟨1, [a, b], .leaf a b, rfl, .leaf a b, rfl, (lt_cons ha (lt_cons hb lt_nil)), Nat.le_of_ble_eq_true rfl⟩
  · -- all_
    rw [Bool.and_eq_true] at h
    obtain ⟨l, rfl, hl⟩ := natural_row h.1
    have hlen := of_decide_eq_true h.2
    rw [List.length_map] at hlen
    refine ⟨2, l, .all_ l, rfl, .all_ l, ?_, hl, by exact Nat.le_trans hlen (by decide)⟩
    show some (Kp367.Call.all_ ((l.map fun (n : Nat) => (n : Int)).map Int.toNat)) = _
    rw [toNat_row]
  · -- some_
    rw [Bool.and_eq_true] at h
    obtain ⟨l, rfl, hl⟩ := natural_row h.1
    have hlen := of_decide_eq_true h.2
    rw [List.length_map] at hlen
    refine ⟨3, l, .some_ l, rfl, .some_ l, ?_, hl, by exact Nat.le_trans hlen (by decide)⟩
    show some (Kp367.Call.some_ ((l.map fun (n : Nat) => (n : Int)).map Int.toNat)) = _
    rw [toNat_row]
  · -- pop
    exact ⟨4, [], .pop, rfl, .pop, rfl, lt_nil, Nat.le_of_ble_eq_true rfl⟩
  · -- nodeIs
    obtain ⟨a, rfl, ha⟩ := natural_nat h
    exact ⟨5, [a], .nodeIs a, rfl, .nodeIs a, rfl, (lt_cons ha lt_nil), Nat.le_of_ble_eq_true rfl⟩
  · -- flip
    obtain ⟨a, rfl, ha⟩ := natural_nat h
    exact ⟨6, [a], .flip a, rfl, .flip a, rfl, (lt_cons ha lt_nil), Nat.le_of_ble_eq_true rfl⟩
  · -- price
    rw [Bool.and_eq_true] at h
    obtain ⟨a, rfl, ha⟩ := natural_nat h.1
    have h0' := h.2
    obtain ⟨b, rfl, hb⟩ := natural_nat h0'
    exact ⟨7, [a, b], .price a b, rfl, .price a b, rfl, (lt_cons ha (lt_cons hb lt_nil)), Nat.le_of_ble_eq_true rfl⟩
  · -- thrice
    obtain ⟨a, rfl, ha⟩ := natural_nat h
    exact ⟨8, [a], .thrice a, rfl, .thrice a, rfl, (lt_cons ha lt_nil), Nat.le_of_ble_eq_true rfl⟩
  · -- once
    obtain ⟨a, rfl, ha⟩ := natural_nat h
    exact ⟨9, [a], .once a, rfl, .once a, rfl, (lt_cons ha lt_nil), Nat.le_of_ble_eq_true rfl⟩
  · -- misread
    obtain ⟨a, rfl, ha⟩ := natural_nat h
    exact ⟨10, [a], .misread a, rfl, .misread a, rfl, (lt_cons ha lt_nil), Nat.le_of_ble_eq_true rfl⟩
  · -- true_
    obtain ⟨a, rfl, ha⟩ := natural_nat h
    exact ⟨11, [a], .true_ a, rfl, .true_ a, rfl, (lt_cons ha lt_nil), Nat.le_of_ble_eq_true rfl⟩
  · -- right
    obtain ⟨a, rfl, ha⟩ := natural_nat h
    exact ⟨12, [a], .right a, rfl, .right a, rfl, (lt_cons ha lt_nil), Nat.le_of_ble_eq_true rfl⟩
  · -- ends
    obtain ⟨a, rfl, ha⟩ := natural_nat h
    exact ⟨13, [a], .ends a, rfl, .ends a, rfl, (lt_cons ha lt_nil), Nat.le_of_ble_eq_true rfl⟩
  · -- cheapest
    rw [Bool.and_eq_true] at h
    obtain ⟨a, rfl, ha⟩ := natural_nat h.1
    have h0' := h.2
    rw [Bool.and_eq_true] at h0'
    obtain ⟨l, rfl, hl⟩ := natural_row h0'.1
    have hlen := of_decide_eq_true h0'.2
    rw [List.length_map] at hlen
    refine ⟨14, a :: l, .cheapest a l, rfl, .cheapest a l, ?_, (lt_cons ha hl), by rw [List.length_cons]; omega⟩
    show some (Kp367.Call.cheapest (a : Int).toNat ((l.map fun (n : Nat) => (n : Int)).map Int.toNat)) = _
    rw [toNat_row]
    rfl
  · -- buy
    rw [Bool.and_eq_true] at h
    obtain ⟨a, rfl, ha⟩ := natural_nat h.1
    have h0' := h.2
    rw [Bool.and_eq_true] at h0'
    obtain ⟨l, rfl, hl⟩ := natural_row h0'.1
    have hlen := of_decide_eq_true h0'.2
    rw [List.length_map] at hlen
    refine ⟨15, a :: l, .buy a l, rfl, .buy a l, ?_, (lt_cons ha hl), by rw [List.length_cons]; omega⟩
    show some (Kp367.Call.buy (a : Int).toNat ((l.map fun (n : Nat) => (n : Int)).map Int.toNat)) = _
    rw [toNat_row]
    rfl
  · -- promise
    rw [Bool.and_eq_true] at h
    obtain ⟨a, rfl, ha⟩ := natural_nat h.1
    have h0' := h.2
    obtain ⟨b, rfl, hb⟩ := natural_nat h0'
    exact ⟨16, [a, b], .promise a b, rfl, .promise a b, rfl, (lt_cons ha (lt_cons hb lt_nil)), Nat.le_of_ble_eq_true rfl⟩
  · -- unpromise
    obtain ⟨a, rfl, ha⟩ := natural_nat h
    exact ⟨17, [a], .unpromise a, rfl, .unpromise a, rfl, (lt_cons ha lt_nil), Nat.le_of_ble_eq_true rfl⟩
  · -- promiseIs
    obtain ⟨a, rfl, ha⟩ := natural_nat h
    exact ⟨18, [a], .promiseIs a, rfl, .promiseIs a, rfl, (lt_cons ha lt_nil), Nat.le_of_ble_eq_true rfl⟩
  · -- tightest
    obtain ⟨a, rfl, ha⟩ := natural_nat h
    exact ⟨19, [a], .tightest a, rfl, .tightest a, rfl, (lt_cons ha lt_nil), Nat.le_of_ble_eq_true rfl⟩
  · -- hear
    rw [Bool.and_eq_true] at h
    obtain ⟨a, rfl, ha⟩ := natural_nat h.1
    have h0' := h.2
    rw [Bool.and_eq_true] at h0'
    obtain ⟨b, rfl, hb⟩ := natural_nat h0'.1
    have h1' := h0'.2
    obtain ⟨c, rfl, hc⟩ := natural_nat h1'
    exact ⟨20, [a, b, c], .hear a b c, rfl, .hear a b c, rfl, (lt_cons ha (lt_cons hb (lt_cons hc lt_nil))), Nat.le_of_ble_eq_true rfl⟩
  · -- ifHear
    rw [Bool.and_eq_true] at h
    obtain ⟨a, rfl, ha⟩ := natural_nat h.1
    have h0' := h.2
    rw [Bool.and_eq_true] at h0'
    obtain ⟨b, rfl, hb⟩ := natural_nat h0'.1
    have h1' := h0'.2
    obtain ⟨c, rfl, hc⟩ := natural_nat h1'
    exact ⟨21, [a, b, c], .ifHear a b c, rfl, .ifHear a b c, rfl, (lt_cons ha (lt_cons hb (lt_cons hc lt_nil))), Nat.le_of_ble_eq_true rfl⟩
  · -- entry
    obtain ⟨a, rfl, ha⟩ := natural_nat h
    exact ⟨22, [a], .entry a, rfl, .entry a, rfl, (lt_cons ha lt_nil), Nat.le_of_ble_eq_true rfl⟩
  · -- tally
    exact ⟨23, [], .tally, rfl, .tally, rfl, lt_nil, Nat.le_of_ble_eq_true rfl⟩
  · -- owed
    exact ⟨24, [], .owed, rfl, .owed, rfl, lt_nil, Nat.le_of_ble_eq_true rfl⟩
  · -- pay
    obtain ⟨a, rfl, ha⟩ := natural_nat h
    exact ⟨25, [a], .pay a, rfl, .pay a, rfl, (lt_cons ha lt_nil), Nat.le_of_ble_eq_true rfl⟩
  · -- stakes
    rw [Bool.and_eq_true] at h
    obtain ⟨a, rfl, ha⟩ := natural_nat h.1
    have h0' := h.2
    obtain ⟨b, rfl, hb⟩ := natural_nat h0'
    exact ⟨26, [a, b], .stakes a b, rfl, .stakes a b, rfl, (lt_cons ha (lt_cons hb lt_nil)), Nat.le_of_ble_eq_true rfl⟩
  · cases h
end Sg

namespace Sg
open PySem PySem.Spec PyProof.Rows L2
def top (i : Nat) : Stmt := PySem.Challenge.pw_strongones_s01_answers.main.body.getD i (.Pass ⟨0, 0, 0, 0⟩)
abbrev sNodeInit : Stmt := inClass (top 8) 0
abbrev sNewLeaf : Stmt := top 9
abbrev sNewBranch : Stmt := top 10
abbrev sCopyRead : Stmt := top 11
abbrev sCopiesReadBy : Stmt := top 12
abbrev sCopiesOf : Stmt := top 13
abbrev sAreNodes : Stmt := top 14
abbrev sIsChild : Stmt := top 15
abbrev sMayBeChildren : Stmt := top 16
abbrev sReadsNow : Stmt := top 17
abbrev sCostOfAll : Stmt := top 18
abbrev sMisreadOf : Stmt := top 19
abbrev sTruths : Stmt := top 20
abbrev sHeldOfLeaf : Stmt := top 21
abbrev sAllHeld : Stmt := top 22
abbrev sRightWins : Stmt := top 23
abbrev sRightOf : Stmt := top 24
abbrev sEndOf : Stmt := top 25
abbrev sFraction : Stmt := top 26
abbrev sHearingInit : Stmt := inClass (top 29) 0
abbrev sIsLuck : Stmt := top 30
abbrev sHoldHearing : Stmt := top 31
abbrev sWellHeld : Stmt := top 32
abbrev sCostOfHearings : Stmt := top 33
abbrev sWrongTogether : Stmt := top 34
abbrev sLeavesOf : Stmt := top 37
abbrev sSetsOf : Stmt := top 38
abbrev sReadsOf : Stmt := top 39
abbrev sCheapestSet : Stmt := top 40
abbrev sAreFair : Stmt := top 41
abbrev sLeastStakes : Stmt := top 42
abbrev sHouseInit : Stmt := inClass (top 65) 0
abbrev sBegin : Stmt := top 66
abbrev sIsKept : Stmt := top 67
abbrev sChange : Stmt := top 68
abbrev sPutNode : Stmt := top 69
abbrev sPutLeaf : Stmt := top 70
abbrev sPutBranch : Stmt := top 71
abbrev sPutAllOf : Stmt := top 72
abbrev sPutSomeOf : Stmt := top 73
abbrev sPopNode : Stmt := top 74
abbrev sTellNode : Stmt := top 75
abbrev sFlipLeaf : Stmt := top 76
abbrev sSetPrice : Stmt := top 77
abbrev sReadThrice : Stmt := top 78
abbrev sReadOnce : Stmt := top 79
abbrev sTellMisread : Stmt := top 80
abbrev sTellTruth : Stmt := top 81
abbrev sTellRight : Stmt := top 82
abbrev sTellEnd : Stmt := top 83
abbrev sRefusalOfClaims : Stmt := top 84
abbrev sTellCheapest : Stmt := top 85
abbrev sBuyLooks : Stmt := top 86
abbrev sPutPromise : Stmt := top 87
abbrev sTakeBackPromise : Stmt := top 88
abbrev sTellPromise : Stmt := top 89
abbrev sTellTightest : Stmt := top 90
abbrev sHear : Stmt := top 91
abbrev sTellHearingAhead : Stmt := top 92
abbrev sTellEntry : Stmt := top 93
abbrev sTellTally : Stmt := top 94
abbrev sTellOwed : Stmt := top 95
abbrev sPayIn : Stmt := top 96
abbrev sTellStakes : Stmt := top 97
abbrev sSplitCalls : Stmt := top 99
abbrev sAnswerTo : Stmt := top 100
abbrev sAnswers : Stmt := top 101
theorem scNodeInit : FnScope ["self", "kind", "so", "wrong", "children"] ["self", "kind", "so", "wrong", "children"] (defScope sNodeInit) := ⟨rfl, rfl, rfl, by decide +kernel, rfl, by decide +kernel, by decide +kernel⟩
theorem scNewLeaf : FnScope ["so", "wrong"] ["so", "wrong"] (defScope sNewLeaf) := ⟨rfl, rfl, rfl, by decide +kernel, rfl, by decide +kernel, by decide +kernel⟩
theorem scNewBranch : FnScope ["kind", "children"] ["kind", "children"] (defScope sNewBranch) := ⟨rfl, rfl, rfl, by decide +kernel, rfl, by decide +kernel, by decide +kernel⟩
theorem scCopyRead : FnScope ["node", "thrice", "fresh"] ["node", "thrice"] (defScope sCopyRead) := ⟨rfl, rfl, rfl, by decide +kernel, rfl, by decide +kernel, by decide +kernel⟩
theorem scCopiesReadBy : FnScope ["nodes", "reads", "node", "thrice"] ["nodes", "reads"] (defScope sCopiesReadBy) := ⟨rfl, rfl, rfl, by decide +kernel, rfl, by decide +kernel, by decide +kernel⟩
theorem scCopiesOf : FnScope ["nodes", "node"] ["nodes"] (defScope sCopiesOf) := ⟨rfl, rfl, rfl, by decide +kernel, rfl, by decide +kernel, by decide +kernel⟩
theorem scAreNodes : FnScope ["nodes", "row", "i"] ["nodes", "row"] (defScope sAreNodes) := ⟨rfl, rfl, rfl, by decide +kernel, rfl, by decide +kernel, by decide +kernel⟩
theorem scIsChild : FnScope ["nodes", "i", "node"] ["nodes", "i"] (defScope sIsChild) := ⟨rfl, rfl, rfl, by decide +kernel, rfl, by decide +kernel, by decide +kernel⟩
theorem scMayBeChildren : FnScope ["nodes", "row", "i"] ["nodes", "row"] (defScope sMayBeChildren) := ⟨rfl, rfl, rfl, by decide +kernel, rfl, by decide +kernel, by decide +kernel⟩
theorem scReadsNow : FnScope ["nodes", "node"] ["nodes"] (defScope sReadsNow) := ⟨rfl, rfl, rfl, by decide +kernel, rfl, by decide +kernel, by decide +kernel⟩
theorem scCostOfAll : FnScope ["nodes", "node"] ["nodes"] (defScope sCostOfAll) := ⟨rfl, rfl, rfl, by decide +kernel, rfl, by decide +kernel, by decide +kernel⟩
theorem scMisreadOf : FnScope ["leaf", "thrice", "wrong"] ["leaf", "thrice"] (defScope sMisreadOf) := ⟨rfl, rfl, rfl, by decide +kernel, rfl, by decide +kernel, by decide +kernel⟩
theorem scTruths : FnScope ["nodes", "found", "node", "below", "i"] ["nodes"] (defScope sTruths) := ⟨rfl, rfl, rfl, by decide +kernel, rfl, by decide +kernel, by decide +kernel⟩
theorem scHeldOfLeaf : FnScope ["leaf", "thrice"] ["leaf", "thrice"] (defScope sHeldOfLeaf) := ⟨rfl, rfl, rfl, by decide +kernel, rfl, by decide +kernel, by decide +kernel⟩
theorem scAllHeld : FnScope ["nodes", "reads", "found", "node", "thrice", "i"] ["nodes", "reads"] (defScope sAllHeld) := ⟨rfl, rfl, rfl, by decide +kernel, rfl, by decide +kernel, by decide +kernel⟩
theorem scRightWins : FnScope ["true", "held"] ["true", "held"] (defScope sRightWins) := ⟨rfl, rfl, rfl, by decide +kernel, rfl, by decide +kernel, by decide +kernel⟩
theorem scRightOf : FnScope ["nodes", "i"] ["nodes", "i"] (defScope sRightOf) := ⟨rfl, rfl, rfl, by decide +kernel, rfl, by decide +kernel, by decide +kernel⟩
theorem scEndOf : FnScope ["nodes", "i", "held", "at", "best", "child"] ["nodes", "i"] (defScope sEndOf) := ⟨rfl, rfl, rfl, by decide +kernel, rfl, by decide +kernel, by decide +kernel⟩
theorem scFraction : FnScope ["part", "whole", "common", "rest", "left"] ["part", "whole"] (defScope sFraction) := ⟨rfl, rfl, rfl, by decide +kernel, rfl, by decide +kernel, by decide +kernel⟩
theorem scHearingInit : FnScope ["self", "node", "leaf", "held", "cost", "wrong"] ["self", "node", "leaf", "held", "cost", "wrong"] (defScope sHearingInit) := ⟨rfl, rfl, rfl, by decide +kernel, rfl, by decide +kernel, by decide +kernel⟩
theorem scIsLuck : FnScope ["a", "b"] ["a", "b"] (defScope sIsLuck) := ⟨rfl, rfl, rfl, by decide +kernel, rfl, by decide +kernel, by decide +kernel⟩
theorem scHoldHearing : FnScope ["nodes", "i", "a", "b", "end", "leaf", "held", "cost"] ["nodes", "i", "a", "b"] (defScope sHoldHearing) := ⟨rfl, rfl, rfl, by decide +kernel, rfl, by decide +kernel, by decide +kernel⟩
theorem scWellHeld : FnScope ["nodes", "log", "true", "there", "hearing"] ["nodes", "log"] (defScope sWellHeld) := ⟨rfl, rfl, rfl, by decide +kernel, rfl, by decide +kernel, by decide +kernel⟩
theorem scCostOfHearings : FnScope ["log", "hearing"] ["log"] (defScope sCostOfHearings) := ⟨rfl, rfl, rfl, by decide +kernel, rfl, by decide +kernel, by decide +kernel⟩
theorem scWrongTogether : FnScope ["log", "hearing"] ["log"] (defScope sWrongTogether) := ⟨rfl, rfl, rfl, by decide +kernel, rfl, by decide +kernel, by decide +kernel⟩
theorem scLeavesOf : FnScope ["nodes", "claims", "below", "i", "child"] ["nodes", "claims"] (defScope sLeavesOf) := ⟨rfl, rfl, rfl, by decide +kernel, rfl, by decide +kernel, by decide +kernel⟩
theorem scSetsOf : FnScope ["nodes", "leaves", "found", "counts_for", "i", "node", "cost", "size", "number"] ["nodes", "leaves"] (defScope sSetsOf) := ⟨rfl, rfl, rfl, by decide +kernel, rfl, by decide +kernel, by decide +kernel⟩
theorem scReadsOf : FnScope ["number", "many", "reads", "rest"] ["number", "many"] (defScope sReadsOf) := ⟨rfl, rfl, rfl, by decide +kernel, rfl, by decide +kernel, by decide +kernel⟩
theorem scCheapestSet : FnScope ["nodes", "claims", "t", "true", "cost", "size", "number", "held", "i"] ["nodes", "claims", "t"] (defScope sCheapestSet) := ⟨rfl, rfl, rfl, by decide +kernel, rfl, by decide +kernel, by decide +kernel⟩
theorem scAreFair : FnScope ["right", "g", "a", "b", "wrong"] ["right", "g", "a", "b"] (defScope sAreFair) := ⟨rfl, rfl, rfl, by decide +kernel, rfl, by decide +kernel, by decide +kernel⟩
theorem scLeastStakes : FnScope ["right", "g", "a", "b"] ["right", "g"] (defScope sLeastStakes) := ⟨rfl, rfl, rfl, by decide +kernel, rfl, by decide +kernel, by decide +kernel⟩
theorem scHouseInit : FnScope ["self"] ["self"] (defScope sHouseInit) := ⟨rfl, rfl, rfl, by decide +kernel, rfl, by decide +kernel, by decide +kernel⟩
theorem scBegin : FnScope ["house", "args"] ["house", "args"] (defScope sBegin) := ⟨rfl, rfl, rfl, by decide +kernel, rfl, by decide +kernel, by decide +kernel⟩
theorem scIsKept : FnScope ["nodes", "i", "t"] ["nodes", "i", "t"] (defScope sIsKept) := ⟨rfl, rfl, rfl, by decide +kernel, rfl, by decide +kernel, by decide +kernel⟩
theorem scChange : FnScope ["house", "after", "answer", "i", "t"] ["house", "after", "answer"] (defScope sChange) := ⟨rfl, rfl, rfl, by decide +kernel, rfl, by decide +kernel, by decide +kernel⟩
theorem scPutNode : FnScope ["house", "node"] ["house", "node"] (defScope sPutNode) := ⟨rfl, rfl, rfl, by decide +kernel, rfl, by decide +kernel, by decide +kernel⟩
theorem scPutLeaf : FnScope ["house", "args"] ["house", "args"] (defScope sPutLeaf) := ⟨rfl, rfl, rfl, by decide +kernel, rfl, by decide +kernel, by decide +kernel⟩
theorem scPutBranch : FnScope ["house", "kind", "row"] ["house", "kind", "row"] (defScope sPutBranch) := ⟨rfl, rfl, rfl, by decide +kernel, rfl, by decide +kernel, by decide +kernel⟩
theorem scPutAllOf : FnScope ["house", "args"] ["house", "args"] (defScope sPutAllOf) := ⟨rfl, rfl, rfl, by decide +kernel, rfl, by decide +kernel, by decide +kernel⟩
theorem scPutSomeOf : FnScope ["house", "args"] ["house", "args"] (defScope sPutSomeOf) := ⟨rfl, rfl, rfl, by decide +kernel, rfl, by decide +kernel, by decide +kernel⟩
theorem scPopNode : FnScope ["house", "args", "after"] ["house", "args"] (defScope sPopNode) := ⟨rfl, rfl, rfl, by decide +kernel, rfl, by decide +kernel, by decide +kernel⟩
theorem scTellNode : FnScope ["house", "args", "node"] ["house", "args"] (defScope sTellNode) := ⟨rfl, rfl, rfl, by decide +kernel, rfl, by decide +kernel, by decide +kernel⟩
theorem scFlipLeaf : FnScope ["house", "args", "after", "node"] ["house", "args"] (defScope sFlipLeaf) := ⟨rfl, rfl, rfl, by decide +kernel, rfl, by decide +kernel, by decide +kernel⟩
theorem scSetPrice : FnScope ["house", "args", "node", "before"] ["house", "args"] (defScope sSetPrice) := ⟨rfl, rfl, rfl, by decide +kernel, rfl, by decide +kernel, by decide +kernel⟩
theorem scReadThrice : FnScope ["house", "args", "after", "node"] ["house", "args"] (defScope sReadThrice) := ⟨rfl, rfl, rfl, by decide +kernel, rfl, by decide +kernel, by decide +kernel⟩
theorem scReadOnce : FnScope ["house", "args", "after", "node"] ["house", "args"] (defScope sReadOnce) := ⟨rfl, rfl, rfl, by decide +kernel, rfl, by decide +kernel, by decide +kernel⟩
theorem scTellMisread : FnScope ["house", "args", "node"] ["house", "args"] (defScope sTellMisread) := ⟨rfl, rfl, rfl, by decide +kernel, rfl, by decide +kernel, by decide +kernel⟩
theorem scTellTruth : FnScope ["house", "args"] ["house", "args"] (defScope sTellTruth) := ⟨rfl, rfl, rfl, by decide +kernel, rfl, by decide +kernel, by decide +kernel⟩
theorem scTellRight : FnScope ["house", "args"] ["house", "args"] (defScope sTellRight) := ⟨rfl, rfl, rfl, by decide +kernel, rfl, by decide +kernel, by decide +kernel⟩
theorem scTellEnd : FnScope ["house", "args"] ["house", "args"] (defScope sTellEnd) := ⟨rfl, rfl, rfl, by decide +kernel, rfl, by decide +kernel, by decide +kernel⟩
theorem scRefusalOfClaims : FnScope ["nodes", "args"] ["nodes", "args"] (defScope sRefusalOfClaims) := ⟨rfl, rfl, rfl, by decide +kernel, rfl, by decide +kernel, by decide +kernel⟩
theorem scTellCheapest : FnScope ["house", "args", "refusal", "found"] ["house", "args"] (defScope sTellCheapest) := ⟨rfl, rfl, rfl, by decide +kernel, rfl, by decide +kernel, by decide +kernel⟩
theorem scBuyLooks : FnScope ["house", "args", "cheapest", "after"] ["house", "args"] (defScope sBuyLooks) := ⟨rfl, rfl, rfl, by decide +kernel, rfl, by decide +kernel, by decide +kernel⟩
theorem scPutPromise : FnScope ["house", "args", "promise"] ["house", "args"] (defScope sPutPromise) := ⟨rfl, rfl, rfl, by decide +kernel, rfl, by decide +kernel, by decide +kernel⟩
theorem scTakeBackPromise : FnScope ["house", "args"] ["house", "args"] (defScope sTakeBackPromise) := ⟨rfl, rfl, rfl, by decide +kernel, rfl, by decide +kernel, by decide +kernel⟩
theorem scTellPromise : FnScope ["house", "args"] ["house", "args"] (defScope sTellPromise) := ⟨rfl, rfl, rfl, by decide +kernel, rfl, by decide +kernel, by decide +kernel⟩
theorem scTellTightest : FnScope ["house", "args"] ["house", "args"] (defScope sTellTightest) := ⟨rfl, rfl, rfl, by decide +kernel, rfl, by decide +kernel, by decide +kernel⟩
theorem scHear : FnScope ["house", "args", "hearing"] ["house", "args"] (defScope sHear) := ⟨rfl, rfl, rfl, by decide +kernel, rfl, by decide +kernel, by decide +kernel⟩
theorem scTellHearingAhead : FnScope ["house", "args", "hearing"] ["house", "args"] (defScope sTellHearingAhead) := ⟨rfl, rfl, rfl, by decide +kernel, rfl, by decide +kernel, by decide +kernel⟩
theorem scTellEntry : FnScope ["house", "args", "hearing"] ["house", "args"] (defScope sTellEntry) := ⟨rfl, rfl, rfl, by decide +kernel, rfl, by decide +kernel, by decide +kernel⟩
theorem scTellTally : FnScope ["house", "args"] ["house", "args"] (defScope sTellTally) := ⟨rfl, rfl, rfl, by decide +kernel, rfl, by decide +kernel, by decide +kernel⟩
theorem scTellOwed : FnScope ["house", "args"] ["house", "args"] (defScope sTellOwed) := ⟨rfl, rfl, rfl, by decide +kernel, rfl, by decide +kernel, by decide +kernel⟩
theorem scPayIn : FnScope ["house", "args"] ["house", "args"] (defScope sPayIn) := ⟨rfl, rfl, rfl, by decide +kernel, rfl, by decide +kernel, by decide +kernel⟩
theorem scTellStakes : FnScope ["house", "args", "found"] ["house", "args"] (defScope sTellStakes) := ⟨rfl, rfl, rfl, by decide +kernel, rfl, by decide +kernel, by decide +kernel⟩
theorem scSplitCalls : FnScope ["calls", "found", "place", "number", "row_at", "args"] ["calls"] (defScope sSplitCalls) := ⟨rfl, rfl, rfl, by decide +kernel, rfl, by decide +kernel, by decide +kernel⟩
theorem scAnswerTo : FnScope ["house", "number", "args"] ["house", "number", "args"] (defScope sAnswerTo) := ⟨rfl, rfl, rfl, by decide +kernel, rfl, by decide +kernel, by decide +kernel⟩
theorem scAnswers : FnScope ["calls", "house", "told", "number", "args", "answer"] ["calls"] (defScope sAnswers) := ⟨rfl, rfl, rfl, by decide +kernel, rfl, by decide +kernel, by decide +kernel⟩
/-- what the top has written -/
structure Tx (K : PySem.W.Frag) (mg : Str → Option Value) where
  tLEAF : Tok
  gLEAF : mg "LEAF" = some (.int 0 tLEAF)
  tALL_OF : Tok
  gALL_OF : mg "ALL_OF" = some (.int 1 tALL_OF)
  tSOME_OF : Tok
  gSOME_OF : mg "SOME_OF" = some (.int 2 tSOME_OF)
  tMOST_NODES : Tok
  gMOST_NODES : mg "MOST_NODES" = some (.int 20 tMOST_NODES)
  tMOST_IN_ROW : Tok
  gMOST_IN_ROW : mg "MOST_IN_ROW" = some (.int 4 tMOST_IN_ROW)
  tWHOLE : Tok
  gWHOLE : mg "WHOLE" = some (.int 1000000 tWHOLE)
  tHUNDREDTH : Tok
  gHUNDREDTH : mg "HUNDREDTH" = some (.int 10000 tHUNDREDTH)
  tMOST_LUCK : Tok
  gMOST_LUCK : mg "MOST_LUCK" = some (.int 1000 tMOST_LUCK)
  tMOST_STAKE : Tok
  gMOST_STAKE : mg "MOST_STAKE" = some (.int 100 tMOST_STAKE)
  tNO_SUCH : Tok
  gNO_SUCH : mg "NO_SUCH" = some (.int (-2) tNO_SUCH)
  tNOTHING_THERE : Tok
  gNOTHING_THERE : mg "NOTHING_THERE" = some (.int (-6) tNOTHING_THERE)
  tNOT_BEGUN : Tok
  gNOT_BEGUN : mg "NOT_BEGUN" = some (.int (-11) tNOT_BEGUN)
  tSO_ALREADY : Tok
  gSO_ALREADY : mg "SO_ALREADY" = some (.int (-17) tSO_ALREADY)
  tTOO_LITTLE : Tok
  gTOO_LITTLE : mg "TOO_LITTLE" = some (.int (-19) tTOO_LITTLE)
  tNOT_AS_TOLD : Tok
  gNOT_AS_TOLD : mg "NOT_AS_TOLD" = some (.int (-22) tNOT_AS_TOLD)
  tFULL : Tok
  gFULL : mg "FULL" = some (.int (-28) tFULL)
  tNOT_KEPT : Tok
  gNOT_KEPT : mg "NOT_KEPT" = some (.int (-30) tNOT_KEPT)
  tNO_FIT : Tok
  gNO_FIT : mg "NO_FIT" = some (.int (-33) tNO_FIT)
  tMOST_AT_ONCE : Tok
  gMOST_AT_ONCE : mg "MOST_AT_ONCE" = some (.int 10000 tMOST_AT_ONCE)
  tMOST_IN_PURSE : Tok
  gMOST_IN_PURSE : mg "MOST_IN_PURSE" = some (.int 100000 tMOST_IN_PURSE)
  tMOST_HUNDREDTHS : Tok
  gMOST_HUNDREDTHS : mg "MOST_HUNDREDTHS" = some (.int 100 tMOST_HUNDREDTHS)
  tMOST_PRICE : Tok
  gMOST_PRICE : mg "MOST_PRICE" = some (.int 100 tMOST_PRICE)
  tMOST_LEAVES : Tok
  gMOST_LEAVES : mg "MOST_LEAVES" = some (.int 10 tMOST_LEAVES)
  tMOST_PROMISES : Tok
  gMOST_PROMISES : mg "MOST_PROMISES" = some (.int 4 tMOST_PROMISES)
  tMOST_HEARINGS : Tok
  gMOST_HEARINGS : mg "MOST_HEARINGS" = some (.int 20 tMOST_HEARINGS)
  tMOST_GAIN : Tok
  gMOST_GAIN : mg "MOST_GAIN" = some (.int 1000 tMOST_GAIN)
  tBEGIN : Tok
  gBEGIN : mg "BEGIN" = some (.int 0 tBEGIN)
  aPLAIN_NUMBERS : Addr
  gPLAIN_NUMBERS : mg "PLAIN_NUMBERS" = some (.ref aPLAIN_NUMBERS)
  aWITH_A_ROW : Addr
  gWITH_A_ROW : mg "WITH_A_ROW" = some (.ref aWITH_A_ROW)
  aABOUT_A_NODE : Addr
  gABOUT_A_NODE : mg "ABOUT_A_NODE" = some (.ref aABOUT_A_NODE)
  aANSWERED_BY : Addr
  gANSWERED_BY : mg "ANSWERED_BY" = some (.ref aANSWERED_BY)
  b_any : mg "any" = none
  b_all : mg "all" = none
  b_min : mg "min" = none
  b_max : mg "max" = none
  b_sum : mg "sum" = none
  b_len : mg "len" = none
  b_set : mg "set" = none
  b_list : mg "list" = none
  b_range : mg "range" = none
  b_enumerate : mg "enumerate" = none
  b_sorted : mg "sorted" = none
  b_zip : mg "zip" = none
  cNode : Addr
  gNode : mg "Node" = some (.ref cNode)
  clNode : Cls K cNode
  nNode_kind : NoAttr K cNode "kind"
  nNode_so : NoAttr K cNode "so"
  nNode_wrong : NoAttr K cNode "wrong"
  nNode_children : NoAttr K cNode "children"
  nNode_price : NoAttr K cNode "price"
  nNode_thrice : NoAttr K cNode "thrice"
  cHearing : Addr
  gHearing : mg "Hearing" = some (.ref cHearing)
  clHearing : Cls K cHearing
  nHearing_node : NoAttr K cHearing "node"
  nHearing_leaf : NoAttr K cHearing "leaf"
  nHearing_held : NoAttr K cHearing "held"
  nHearing_cost : NoAttr K cHearing "cost"
  nHearing_wrong : NoAttr K cHearing "wrong"
  cHouse : Addr
  gHouse : mg "House" = some (.ref cHouse)
  clHouse : Cls K cHouse
  nHouse_begun : NoAttr K cHouse "begun"
  nHouse_purse : NoAttr K cHouse "purse"
  nHouse_nodes : NoAttr K cHouse "nodes"
  nHouse_promises : NoAttr K cHouse "promises"
  nHouse_log : NoAttr K cHouse "log"
  fNodeInit : Addr
  dNodeInit : FuncData
  FNodeInit : Fun K "__init__" "Node.__init__" sNodeInit fNodeInit dNodeInit
  bNodeInit : Binds K dNodeInit ["self", "kind", "so", "wrong", "children"] []
  fNewLeaf : Addr
  dNewLeaf : FuncData
  FNewLeaf : Fun K "new_leaf" "new_leaf" sNewLeaf fNewLeaf dNewLeaf
  bNewLeaf : Binds K dNewLeaf ["so", "wrong"] []
  gNewLeaf : mg "new_leaf" = some (.ref fNewLeaf)
  fNewBranch : Addr
  dNewBranch : FuncData
  FNewBranch : Fun K "new_branch" "new_branch" sNewBranch fNewBranch dNewBranch
  bNewBranch : Binds K dNewBranch ["kind", "children"] []
  gNewBranch : mg "new_branch" = some (.ref fNewBranch)
  fCopyRead : Addr
  dCopyRead : FuncData
  FCopyRead : Fun K "copy_read" "copy_read" sCopyRead fCopyRead dCopyRead
  bCopyRead : Binds K dCopyRead ["node", "thrice"] []
  gCopyRead : mg "copy_read" = some (.ref fCopyRead)
  fCopiesReadBy : Addr
  dCopiesReadBy : FuncData
  FCopiesReadBy : Fun K "copies_read_by" "copies_read_by" sCopiesReadBy fCopiesReadBy dCopiesReadBy
  bCopiesReadBy : Binds K dCopiesReadBy ["nodes", "reads"] []
  gCopiesReadBy : mg "copies_read_by" = some (.ref fCopiesReadBy)
  fCopiesOf : Addr
  dCopiesOf : FuncData
  FCopiesOf : Fun K "copies_of" "copies_of" sCopiesOf fCopiesOf dCopiesOf
  bCopiesOf : Binds K dCopiesOf ["nodes"] []
  gCopiesOf : mg "copies_of" = some (.ref fCopiesOf)
  fAreNodes : Addr
  dAreNodes : FuncData
  FAreNodes : Fun K "are_nodes" "are_nodes" sAreNodes fAreNodes dAreNodes
  bAreNodes : Binds K dAreNodes ["nodes", "row"] []
  gAreNodes : mg "are_nodes" = some (.ref fAreNodes)
  fIsChild : Addr
  dIsChild : FuncData
  FIsChild : Fun K "is_child" "is_child" sIsChild fIsChild dIsChild
  bIsChild : Binds K dIsChild ["nodes", "i"] []
  gIsChild : mg "is_child" = some (.ref fIsChild)
  fMayBeChildren : Addr
  dMayBeChildren : FuncData
  FMayBeChildren : Fun K "may_be_children" "may_be_children" sMayBeChildren fMayBeChildren dMayBeChildren
  bMayBeChildren : Binds K dMayBeChildren ["nodes", "row"] []
  gMayBeChildren : mg "may_be_children" = some (.ref fMayBeChildren)
  fReadsNow : Addr
  dReadsNow : FuncData
  FReadsNow : Fun K "reads_now" "reads_now" sReadsNow fReadsNow dReadsNow
  bReadsNow : Binds K dReadsNow ["nodes"] []
  gReadsNow : mg "reads_now" = some (.ref fReadsNow)
  fCostOfAll : Addr
  dCostOfAll : FuncData
  FCostOfAll : Fun K "cost_of_all" "cost_of_all" sCostOfAll fCostOfAll dCostOfAll
  bCostOfAll : Binds K dCostOfAll ["nodes"] []
  gCostOfAll : mg "cost_of_all" = some (.ref fCostOfAll)
  fMisreadOf : Addr
  dMisreadOf : FuncData
  FMisreadOf : Fun K "misread_of" "misread_of" sMisreadOf fMisreadOf dMisreadOf
  bMisreadOf : Binds K dMisreadOf ["leaf", "thrice"] []
  gMisreadOf : mg "misread_of" = some (.ref fMisreadOf)
  fTruths : Addr
  dTruths : FuncData
  FTruths : Fun K "truths" "truths" sTruths fTruths dTruths
  bTruths : Binds K dTruths ["nodes"] []
  gTruths : mg "truths" = some (.ref fTruths)
  fHeldOfLeaf : Addr
  dHeldOfLeaf : FuncData
  FHeldOfLeaf : Fun K "held_of_leaf" "held_of_leaf" sHeldOfLeaf fHeldOfLeaf dHeldOfLeaf
  bHeldOfLeaf : Binds K dHeldOfLeaf ["leaf", "thrice"] []
  gHeldOfLeaf : mg "held_of_leaf" = some (.ref fHeldOfLeaf)
  fAllHeld : Addr
  dAllHeld : FuncData
  FAllHeld : Fun K "all_held" "all_held" sAllHeld fAllHeld dAllHeld
  bAllHeld : Binds K dAllHeld ["nodes", "reads"] []
  gAllHeld : mg "all_held" = some (.ref fAllHeld)
  fRightWins : Addr
  dRightWins : FuncData
  FRightWins : Fun K "right_wins" "right_wins" sRightWins fRightWins dRightWins
  bRightWins : Binds K dRightWins ["true", "held"] []
  gRightWins : mg "right_wins" = some (.ref fRightWins)
  fRightOf : Addr
  dRightOf : FuncData
  FRightOf : Fun K "right_of" "right_of" sRightOf fRightOf dRightOf
  bRightOf : Binds K dRightOf ["nodes", "i"] []
  gRightOf : mg "right_of" = some (.ref fRightOf)
  fEndOf : Addr
  dEndOf : FuncData
  FEndOf : Fun K "end_of" "end_of" sEndOf fEndOf dEndOf
  bEndOf : Binds K dEndOf ["nodes", "i"] []
  gEndOf : mg "end_of" = some (.ref fEndOf)
  fFraction : Addr
  dFraction : FuncData
  FFraction : Fun K "fraction" "fraction" sFraction fFraction dFraction
  bFraction : Binds K dFraction ["part", "whole"] []
  gFraction : mg "fraction" = some (.ref fFraction)
  fHearingInit : Addr
  dHearingInit : FuncData
  FHearingInit : Fun K "__init__" "Hearing.__init__" sHearingInit fHearingInit dHearingInit
  bHearingInit : Binds K dHearingInit ["self", "node", "leaf", "held", "cost", "wrong"] []
  fIsLuck : Addr
  dIsLuck : FuncData
  FIsLuck : Fun K "is_luck" "is_luck" sIsLuck fIsLuck dIsLuck
  bIsLuck : Binds K dIsLuck ["a", "b"] []
  gIsLuck : mg "is_luck" = some (.ref fIsLuck)
  fHoldHearing : Addr
  dHoldHearing : FuncData
  FHoldHearing : Fun K "hold_hearing" "hold_hearing" sHoldHearing fHoldHearing dHoldHearing
  bHoldHearing : Binds K dHoldHearing ["nodes", "i", "a", "b"] []
  gHoldHearing : mg "hold_hearing" = some (.ref fHoldHearing)
  fWellHeld : Addr
  dWellHeld : FuncData
  FWellHeld : Fun K "well_held" "well_held" sWellHeld fWellHeld dWellHeld
  bWellHeld : Binds K dWellHeld ["nodes", "log"] []
  gWellHeld : mg "well_held" = some (.ref fWellHeld)
  fCostOfHearings : Addr
  dCostOfHearings : FuncData
  FCostOfHearings : Fun K "cost_of_hearings" "cost_of_hearings" sCostOfHearings fCostOfHearings dCostOfHearings
  bCostOfHearings : Binds K dCostOfHearings ["log"] []
  gCostOfHearings : mg "cost_of_hearings" = some (.ref fCostOfHearings)
  fWrongTogether : Addr
  dWrongTogether : FuncData
  FWrongTogether : Fun K "wrong_together" "wrong_together" sWrongTogether fWrongTogether dWrongTogether
  bWrongTogether : Binds K dWrongTogether ["log"] []
  gWrongTogether : mg "wrong_together" = some (.ref fWrongTogether)
  fLeavesOf : Addr
  dLeavesOf : FuncData
  FLeavesOf : Fun K "leaves_of" "leaves_of" sLeavesOf fLeavesOf dLeavesOf
  bLeavesOf : Binds K dLeavesOf ["nodes", "claims"] []
  gLeavesOf : mg "leaves_of" = some (.ref fLeavesOf)
  fSetsOf : Addr
  dSetsOf : FuncData
  FSetsOf : Fun K "sets_of" "sets_of" sSetsOf fSetsOf dSetsOf
  bSetsOf : Binds K dSetsOf ["nodes", "leaves"] []
  gSetsOf : mg "sets_of" = some (.ref fSetsOf)
  fReadsOf : Addr
  dReadsOf : FuncData
  FReadsOf : Fun K "reads_of" "reads_of" sReadsOf fReadsOf dReadsOf
  bReadsOf : Binds K dReadsOf ["number", "many"] []
  gReadsOf : mg "reads_of" = some (.ref fReadsOf)
  fCheapestSet : Addr
  dCheapestSet : FuncData
  FCheapestSet : Fun K "cheapest_set" "cheapest_set" sCheapestSet fCheapestSet dCheapestSet
  bCheapestSet : Binds K dCheapestSet ["nodes", "claims", "t"] []
  gCheapestSet : mg "cheapest_set" = some (.ref fCheapestSet)
  fAreFair : Addr
  dAreFair : FuncData
  FAreFair : Fun K "are_fair" "are_fair" sAreFair fAreFair dAreFair
  bAreFair : Binds K dAreFair ["right", "g", "a", "b"] []
  gAreFair : mg "are_fair" = some (.ref fAreFair)
  fLeastStakes : Addr
  dLeastStakes : FuncData
  FLeastStakes : Fun K "least_stakes" "least_stakes" sLeastStakes fLeastStakes dLeastStakes
  bLeastStakes : Binds K dLeastStakes ["right", "g"] []
  gLeastStakes : mg "least_stakes" = some (.ref fLeastStakes)
  fHouseInit : Addr
  dHouseInit : FuncData
  FHouseInit : Fun K "__init__" "House.__init__" sHouseInit fHouseInit dHouseInit
  bHouseInit : Binds K dHouseInit ["self"] []
  fBegin : Addr
  dBegin : FuncData
  FBegin : Fun K "begin" "begin" sBegin fBegin dBegin
  bBegin : Binds K dBegin ["house", "args"] []
  gBegin : mg "begin" = some (.ref fBegin)
  fIsKept : Addr
  dIsKept : FuncData
  FIsKept : Fun K "is_kept" "is_kept" sIsKept fIsKept dIsKept
  bIsKept : Binds K dIsKept ["nodes", "i", "t"] []
  gIsKept : mg "is_kept" = some (.ref fIsKept)
  fChange : Addr
  dChange : FuncData
  FChange : Fun K "change" "change" sChange fChange dChange
  bChange : Binds K dChange ["house", "after", "answer"] []
  gChange : mg "change" = some (.ref fChange)
  fPutNode : Addr
  dPutNode : FuncData
  FPutNode : Fun K "put_node" "put_node" sPutNode fPutNode dPutNode
  bPutNode : Binds K dPutNode ["house", "node"] []
  gPutNode : mg "put_node" = some (.ref fPutNode)
  fPutLeaf : Addr
  dPutLeaf : FuncData
  FPutLeaf : Fun K "put_leaf" "put_leaf" sPutLeaf fPutLeaf dPutLeaf
  bPutLeaf : Binds K dPutLeaf ["house", "args"] []
  gPutLeaf : mg "put_leaf" = some (.ref fPutLeaf)
  fPutBranch : Addr
  dPutBranch : FuncData
  FPutBranch : Fun K "put_branch" "put_branch" sPutBranch fPutBranch dPutBranch
  bPutBranch : Binds K dPutBranch ["house", "kind", "row"] []
  gPutBranch : mg "put_branch" = some (.ref fPutBranch)
  fPutAllOf : Addr
  dPutAllOf : FuncData
  FPutAllOf : Fun K "put_all_of" "put_all_of" sPutAllOf fPutAllOf dPutAllOf
  bPutAllOf : Binds K dPutAllOf ["house", "args"] []
  gPutAllOf : mg "put_all_of" = some (.ref fPutAllOf)
  fPutSomeOf : Addr
  dPutSomeOf : FuncData
  FPutSomeOf : Fun K "put_some_of" "put_some_of" sPutSomeOf fPutSomeOf dPutSomeOf
  bPutSomeOf : Binds K dPutSomeOf ["house", "args"] []
  gPutSomeOf : mg "put_some_of" = some (.ref fPutSomeOf)
  fPopNode : Addr
  dPopNode : FuncData
  FPopNode : Fun K "pop_node" "pop_node" sPopNode fPopNode dPopNode
  bPopNode : Binds K dPopNode ["house", "args"] []
  gPopNode : mg "pop_node" = some (.ref fPopNode)
  fTellNode : Addr
  dTellNode : FuncData
  FTellNode : Fun K "tell_node" "tell_node" sTellNode fTellNode dTellNode
  bTellNode : Binds K dTellNode ["house", "args"] []
  gTellNode : mg "tell_node" = some (.ref fTellNode)
  fFlipLeaf : Addr
  dFlipLeaf : FuncData
  FFlipLeaf : Fun K "flip_leaf" "flip_leaf" sFlipLeaf fFlipLeaf dFlipLeaf
  bFlipLeaf : Binds K dFlipLeaf ["house", "args"] []
  gFlipLeaf : mg "flip_leaf" = some (.ref fFlipLeaf)
  fSetPrice : Addr
  dSetPrice : FuncData
  FSetPrice : Fun K "set_price" "set_price" sSetPrice fSetPrice dSetPrice
  bSetPrice : Binds K dSetPrice ["house", "args"] []
  gSetPrice : mg "set_price" = some (.ref fSetPrice)
  fReadThrice : Addr
  dReadThrice : FuncData
  FReadThrice : Fun K "read_thrice" "read_thrice" sReadThrice fReadThrice dReadThrice
  bReadThrice : Binds K dReadThrice ["house", "args"] []
  gReadThrice : mg "read_thrice" = some (.ref fReadThrice)
  fReadOnce : Addr
  dReadOnce : FuncData
  FReadOnce : Fun K "read_once" "read_once" sReadOnce fReadOnce dReadOnce
  bReadOnce : Binds K dReadOnce ["house", "args"] []
  gReadOnce : mg "read_once" = some (.ref fReadOnce)
  fTellMisread : Addr
  dTellMisread : FuncData
  FTellMisread : Fun K "tell_misread" "tell_misread" sTellMisread fTellMisread dTellMisread
  bTellMisread : Binds K dTellMisread ["house", "args"] []
  gTellMisread : mg "tell_misread" = some (.ref fTellMisread)
  fTellTruth : Addr
  dTellTruth : FuncData
  FTellTruth : Fun K "tell_truth" "tell_truth" sTellTruth fTellTruth dTellTruth
  bTellTruth : Binds K dTellTruth ["house", "args"] []
  gTellTruth : mg "tell_truth" = some (.ref fTellTruth)
  fTellRight : Addr
  dTellRight : FuncData
  FTellRight : Fun K "tell_right" "tell_right" sTellRight fTellRight dTellRight
  bTellRight : Binds K dTellRight ["house", "args"] []
  gTellRight : mg "tell_right" = some (.ref fTellRight)
  fTellEnd : Addr
  dTellEnd : FuncData
  FTellEnd : Fun K "tell_end" "tell_end" sTellEnd fTellEnd dTellEnd
  bTellEnd : Binds K dTellEnd ["house", "args"] []
  gTellEnd : mg "tell_end" = some (.ref fTellEnd)
  fRefusalOfClaims : Addr
  dRefusalOfClaims : FuncData
  FRefusalOfClaims : Fun K "refusal_of_claims" "refusal_of_claims" sRefusalOfClaims fRefusalOfClaims dRefusalOfClaims
  bRefusalOfClaims : Binds K dRefusalOfClaims ["nodes", "args"] []
  gRefusalOfClaims : mg "refusal_of_claims" = some (.ref fRefusalOfClaims)
  fTellCheapest : Addr
  dTellCheapest : FuncData
  FTellCheapest : Fun K "tell_cheapest" "tell_cheapest" sTellCheapest fTellCheapest dTellCheapest
  bTellCheapest : Binds K dTellCheapest ["house", "args"] []
  gTellCheapest : mg "tell_cheapest" = some (.ref fTellCheapest)
  fBuyLooks : Addr
  dBuyLooks : FuncData
  FBuyLooks : Fun K "buy_looks" "buy_looks" sBuyLooks fBuyLooks dBuyLooks
  bBuyLooks : Binds K dBuyLooks ["house", "args"] []
  gBuyLooks : mg "buy_looks" = some (.ref fBuyLooks)
  fPutPromise : Addr
  dPutPromise : FuncData
  FPutPromise : Fun K "put_promise" "put_promise" sPutPromise fPutPromise dPutPromise
  bPutPromise : Binds K dPutPromise ["house", "args"] []
  gPutPromise : mg "put_promise" = some (.ref fPutPromise)
  fTakeBackPromise : Addr
  dTakeBackPromise : FuncData
  FTakeBackPromise : Fun K "take_back_promise" "take_back_promise" sTakeBackPromise fTakeBackPromise dTakeBackPromise
  bTakeBackPromise : Binds K dTakeBackPromise ["house", "args"] []
  gTakeBackPromise : mg "take_back_promise" = some (.ref fTakeBackPromise)
  fTellPromise : Addr
  dTellPromise : FuncData
  FTellPromise : Fun K "tell_promise" "tell_promise" sTellPromise fTellPromise dTellPromise
  bTellPromise : Binds K dTellPromise ["house", "args"] []
  gTellPromise : mg "tell_promise" = some (.ref fTellPromise)
  fTellTightest : Addr
  dTellTightest : FuncData
  FTellTightest : Fun K "tell_tightest" "tell_tightest" sTellTightest fTellTightest dTellTightest
  bTellTightest : Binds K dTellTightest ["house", "args"] []
  gTellTightest : mg "tell_tightest" = some (.ref fTellTightest)
  fHear : Addr
  dHear : FuncData
  FHear : Fun K "hear" "hear" sHear fHear dHear
  bHear : Binds K dHear ["house", "args"] []
  gHear : mg "hear" = some (.ref fHear)
  fTellHearingAhead : Addr
  dTellHearingAhead : FuncData
  FTellHearingAhead : Fun K "tell_hearing_ahead" "tell_hearing_ahead" sTellHearingAhead fTellHearingAhead dTellHearingAhead
  bTellHearingAhead : Binds K dTellHearingAhead ["house", "args"] []
  gTellHearingAhead : mg "tell_hearing_ahead" = some (.ref fTellHearingAhead)
  fTellEntry : Addr
  dTellEntry : FuncData
  FTellEntry : Fun K "tell_entry" "tell_entry" sTellEntry fTellEntry dTellEntry
  bTellEntry : Binds K dTellEntry ["house", "args"] []
  gTellEntry : mg "tell_entry" = some (.ref fTellEntry)
  fTellTally : Addr
  dTellTally : FuncData
  FTellTally : Fun K "tell_tally" "tell_tally" sTellTally fTellTally dTellTally
  bTellTally : Binds K dTellTally ["house", "args"] []
  gTellTally : mg "tell_tally" = some (.ref fTellTally)
  fTellOwed : Addr
  dTellOwed : FuncData
  FTellOwed : Fun K "tell_owed" "tell_owed" sTellOwed fTellOwed dTellOwed
  bTellOwed : Binds K dTellOwed ["house", "args"] []
  gTellOwed : mg "tell_owed" = some (.ref fTellOwed)
  fPayIn : Addr
  dPayIn : FuncData
  FPayIn : Fun K "pay_in" "pay_in" sPayIn fPayIn dPayIn
  bPayIn : Binds K dPayIn ["house", "args"] []
  gPayIn : mg "pay_in" = some (.ref fPayIn)
  fTellStakes : Addr
  dTellStakes : FuncData
  FTellStakes : Fun K "tell_stakes" "tell_stakes" sTellStakes fTellStakes dTellStakes
  bTellStakes : Binds K dTellStakes ["house", "args"] []
  gTellStakes : mg "tell_stakes" = some (.ref fTellStakes)
  fSplitCalls : Addr
  dSplitCalls : FuncData
  FSplitCalls : Fun K "split_calls" "split_calls" sSplitCalls fSplitCalls dSplitCalls
  bSplitCalls : Binds K dSplitCalls ["calls"] []
  gSplitCalls : mg "split_calls" = some (.ref fSplitCalls)
  fAnswerTo : Addr
  dAnswerTo : FuncData
  FAnswerTo : Fun K "answer_to" "answer_to" sAnswerTo fAnswerTo dAnswerTo
  bAnswerTo : Binds K dAnswerTo ["house", "number", "args"] []
  gAnswerTo : mg "answer_to" = some (.ref fAnswerTo)
  fAnswers : Addr
  dAnswers : FuncData
  FAnswers : Fun K "answers" "answers" sAnswers fAnswers dAnswers
  bAnswers : Binds K dAnswers ["calls"] []
  gAnswers : mg "answers" = some (.ref fAnswers)
  sPLAIN_NUMBERS : ∀ H : Hp, SqT K H aPLAIN_NUMBERS (([1, 2, 0, 0, 0, 1, 1, 2, 1, 1, 1, 1, 1, 1, 1, 1, 2, 1, 1, 1, 3, 3, 1, 0, 0, 1, 2] : List Int).map V.int)
  sWITH_A_ROW : ∀ H : Hp, SqT K H aWITH_A_ROW (([2, 3, 14, 15] : List Int).map V.int)
  sABOUT_A_NODE : ∀ H : Hp, SqT K H aABOUT_A_NODE (([5, 6, 7, 8, 9, 10, 11, 12, 13, 16, 19, 20, 21, 26] : List Int).map V.int)
  sANSWERED_BY : ∀ H : Hp, SqT K H aANSWERED_BY [.ref fBegin, .ref fPutLeaf, .ref fPutAllOf, .ref fPutSomeOf, .ref fPopNode, .ref fTellNode, .ref fFlipLeaf, .ref fSetPrice, .ref fReadThrice, .ref fReadOnce, .ref fTellMisread, .ref fTellTruth, .ref fTellRight, .ref fTellEnd, .ref fTellCheapest, .ref fBuyLooks, .ref fPutPromise, .ref fTakeBackPromise, .ref fTellPromise, .ref fTellTightest, .ref fHear, .ref fTellHearingAhead, .ref fTellEntry, .ref fTellTally, .ref fTellOwed, .ref fPayIn, .ref fTellStakes]
  mkNode : Mk K cNode fNodeInit
  mkHearing : Mk K cHearing fHearingInit
  mkHouse : Mk K cHouse fHouseInit
end Sg

/-! Rules of the layer with the written part said by name; two that it lacks. -/
namespace Sg
open PySem PySem.Spec PyProof.Rows L2
section
variable {X : Cx}
theorem ix_listK (K : PySem.W.Frag) (h : X.K = K := by rfl) : IxR X (rIxL K) := h ▸ ix_list
theorem ix_tupK (K : PySem.W.Frag) (h : X.K = K := by rfl) : IxR X (rIxT K) := h ▸ ix_tup
theorem op_in_seqK (K : PySem.W.Frag) (h : X.K = K := by rfl) : OpR X (compareOp .In) (rIn K false) := h ▸ op_in_seq
theorem op_notIn_seqK (K : PySem.W.Frag) (h : X.K = K := by rfl) : OpR X (compareOp .NotIn) (rIn K true) := h ▸ op_notIn_seq
theorem call_len_seqK (K : PySem.W.Frag) (h : X.K = K := by rfl) : CallR X (.builtin "len") (fun xs H Q => ∃ p ys, xs = [.ref p] ∧ (SqL K H p ys ∨ SqT K H p ys) ∧ Q (.int ys.length) H) := h ▸ call_len_seq
theorem fldK (K : PySem.W.Frag) {e : Expr} {f : Str} {pos : Pos} {ta : TE} (he : PE X e ta) (hb : attributeBase e f X.env (eval e X.env) = eval e X.env) (h : X.K = K := by rfl) : PE X (.Attribute e f pos) (tFld K ta f) := h ▸ pe_fld he hb
theorem met_diffs : ∀ (ns : List Int), firstMet (fun i => ns.getD i 0) ns.length = diffs ns := by
  intro ns
  unfold firstMet diffs
  have same : ((List.range ns.length).map fun i => ns.getD i 0) = ns := by
    apply List.ext_getElem?
    intro i
    rw [List.getElem?_map]
    rcases Nat.lt_or_ge i ns.length with h | h
    · rw [List.getElem?_range h]
      simp [h]
    · rw [List.getElem?_eq_none (by simpa using h), List.getElem?_eq_none h]
      rfl
  rw [same]
  rfl
theorem ints_of : ∀ {ns : List Int} {us : List Value}, Vals (ns.map V.int) us → IntsAre us ns
  | [], _, .nil => .nil
  | n :: _, _, .cons r q => by
    obtain ⟨t, rfl⟩ := r
    exact .cons n t (ints_of q)
def tLenSetG (K : PySem.W.Frag) (ta : TE) : TE := fun σ H Q => ta σ H fun x H1 => ∃ (l : Addr) (ns : List Int), x = .ref l ∧ SqL K H1 l (ns.map V.int) ∧ ns.length ≤ 4000 ∧ Q (.int ((diffs ns).length : Nat)) H1
theorem pe_lenSetG {a : Expr} {ta : TE} {p p2 q pos : Pos} (gl : Gl X "len") (ml : X.mg "len" = none) (gs : Gl X "set") (ms : X.mg "set" = none) (ha : PE X a ta) (hc : X.calm = true := by rfl)
    (st : starEach [a] X.env = (false, eval a X.env) :: starEach [] X.env := by rfl) : PE X (.Call (.Name "len" p) [.Call (.Name "set" p2) [a] [] q] [] pos) (tLenSetG X.K ta) := by
  refine ⟨fun pins s σ H Q I h => Call_ (ld_blt I gl ml boot_len (callWith_builtin1 (args_cons (Call_ (ld_blt I gs ms boot_set (callWith_type1 (args_cons (thn (ha.run pins s σ H _ I h) fun v s1 z => args_nil ?_) st) st rfl))) rfl) rfl rfl))⟩
  obtain ⟨x, H1, I1, rx, l, ns, rfl, hq, hl, k⟩ := z
  cases rx
  obtain ⟨its, r, pl, _⟩ := I1.list hq
  have sz : its.toArray.size = ns.length := by
    rw [List.size_toArray, ← r.length, List.length_map]
  refine call_set_list (I1.ok.hd hc) pl.isList (by simpa using ints_of r) (by unfold scanBound; omega) fun h' tk hS hk => args_nil ?_
  rw [sz, met_diffs] at hS
  obtain ⟨ob, en, ep, tb, ho, hex, hd, _, _, _, hf, hn⟩ := hS
  have hle : (diffs ns).length ≤ ns.length := by
    rw [← met_diffs]
    exact firstMet_length_le _ _
  exact call_len_set ho hex hd hf (by rw [hn] <;> omega) ⟨.int (diffs ns).length, H1, (I1.kept fun b o e => hk b o (Heap.lt_size e) e).tok _, ⟨_, by rw [hn]⟩, k⟩
end
/-! ### a comprehension whose parts change nothing -/
theorem same_upd {H1 H4 : Hp} {D : Addr} {o : HO} (hD : H1 D = none) (s : Same H1 H4) : Same H1 (upd H4 D o) := fun b o' e => by
  rw [upd_ne (ne_of_none e hD)]
  exact s _ _ e
theorem Same.new {H : Hp} {p : Addr} {o : HO} (h : H p = none) : Same H (upd H p o) := same_upd h (Same.refl H)
theorem take_more {α : Type} {l : List α} {i : Nat} {x : α} (h : l[i]? = some x) : l.take (i + 1) = l.take i ++ [x] := by
  rw [List.take_add_one, h]
  rfl
/-- what is left to show of a comprehension over the list at a; D: where the new list grows -/
def Walked (K : PySem.W.Frag) (a : Addr) (g : TG) (tt : TT) (te : TE) (vs : List Nat) (σ : L2.St) (G : Hp) (D : Addr) (Z : Hp → Prop) : Prop := ∃ V' : Nat → Nat → Hp → Prop, (∃ n, V' 0 n (upd G D (.lst []))) ∧ ∀ j n F, V' j n F → ((Itl K a).stop j F ∧ Z F) ∨ ((Itl K a).go j F ∧ ∃ U : Hp → Prop, (∀ F', U F' → ∃ l, l < n ∧ V' (j + 1) l F') ∧
  ∀ x F', (Itl K a).yld j F x F' → g x (wipe σ vs) F' fun s2 F2 => wipe s2 vs = wipe σ vs ∧ tt s2 F2 fun c F3 => if c = true then te s2 F3 fun y F4 => ∃ so, F4 D = some (.lst so) ∧ so.length < sizeLine ∧ U (upd F4 D (.lst (so ++ [y]))) else U F3)
theorem lc_fm {K : PySem.W.Frag} {a : Addr} {xs : List V} {g : TG} {tt : TT} {te : TE} {vs : List Nat} {σ : L2.St} {H1 : Hp} {D : Addr} {Qd : Hp → Prop} (f : V → Option V) (hD : H1 D = none) (hz : xs.length ≤ 1000) (ha : SqL K H1 a xs)
    (hs : ∀ (i : Nat) x H (R1 : V → Hp → Prop) (R0 : Hp → Prop), xs[i]? = some x → Same H1 H → (∀ y, f x = some y → ∀ H4, Same H H4 → R1 y H4) → (f x = none → ∀ H4, Same H H4 → R0 H4) → g x (wipe σ vs) H fun σ2 H2 => wipe σ2 vs = wipe σ vs ∧ tt σ2 H2 fun b H3 => if b = true then te σ2 H3 R1 else R0 H3)
    (hd : ∀ H, Same H1 H → H D = some (.lst (xs.filterMap f)) → Qd H) :
    Walked K a g tt te vs σ H1 D Qd := by
  refine lc_list (K := K) (a := a) (xs := xs) (fun i H => Same H1 H ∧ H D = some (.lst ((xs.take i).filterMap f))) ⟨Same.new hD, upd_same⟩ (fun i H _ p => p.1.seq ha) ?_ (fun H p => ?_)
  · rintro i x H hi ⟨s1, hd1⟩
    refine hs i x H _ _ hi s1 (fun y e H4 s4 => ⟨_, s4 _ _ hd1, ?_, same_upd hD (s1.trans s4), ?_⟩) (fun e H4 s4 => ⟨s1.trans s4, ?_⟩)
    · have h1 := List.length_filterMap_le f (xs.take i)
      have h2 : (xs.take i).length ≤ xs.length := by rw [List.length_take]; omega
      exact Nat.lt_of_le_of_lt (Nat.le_trans h1 (Nat.le_trans h2 hz)) (by decide)
    · rw [upd_same, take_more hi, List.filterMap_append, List.filterMap_cons_some e]
      rfl
    · rw [s4 _ _ hd1, take_more hi, List.filterMap_append, List.filterMap_cons_none e]
      simp
  · rw [List.take_length] at p
    exact hd H p.1 p.2
/-- no test -/
theorem lc_map {K : PySem.W.Frag} {a : Addr} {xs : List V} {g : TG} {te : TE} {vs : List Nat} {σ : L2.St} {H1 : Hp} {D : Addr} {Qd : Hp → Prop} (f : V → V) (hD : H1 D = none) (hz : xs.length ≤ 1000) (ha : SqL K H1 a xs)
    (hs : ∀ (i : Nat) x H (R1 : V → Hp → Prop), xs[i]? = some x → Same H1 H → (∀ H4, Same H H4 → R1 (f x) H4) → g x (wipe σ vs) H fun σ2 H2 => wipe σ2 vs = wipe σ vs ∧ te σ2 H2 R1)
    (gm : ∀ x σ H Q Q', (∀ σ2 H2, Q σ2 H2 → Q' σ2 H2) → g x σ H Q → g x σ H Q')
    (hd : ∀ H, Same H1 H → H D = some (.lst (xs.map f)) → Qd H) :
    Walked K a g tYes te vs σ H1 D Qd := by
  refine lc_fm (fun x => some (f x)) hD hz ha (fun i x H R1 R0 hi s k1 _ => ?_) (fun H s e => hd H s ?_)
  · refine gm _ _ _ _ _ (fun σ2 H2 q => ⟨q.1, iteT (B := R0 H2) q.2⟩) (hs i x H R1 hi s (k1 _ rfl))
  · rw [e]
    exact congrArg (fun l => some (HO.lst l)) (congrFun List.filterMap_eq_map xs)
/-- the same, by places -/
theorem lc_fi {K : PySem.W.Frag} {a : Addr} {xs : List V} {g : TG} {tt : TT} {te : TE} {vs : List Nat} {σ : L2.St} {H1 : Hp} {D : Addr} {Qd : Hp → Prop} (f : Nat → Option V) (hD : H1 D = none) (hz : xs.length ≤ 1000) (ha : SqL K H1 a xs)
    (hs : ∀ (i : Nat) x H (R1 : V → Hp → Prop) (R0 : Hp → Prop), xs[i]? = some x → Same H1 H → (∀ y, f i = some y → ∀ H4, Same H H4 → R1 y H4) → (f i = none → ∀ H4, Same H H4 → R0 H4) → g x (wipe σ vs) H fun σ2 H2 => wipe σ2 vs = wipe σ vs ∧ tt σ2 H2 fun b H3 => if b = true then te σ2 H3 R1 else R0 H3)
    (hd : ∀ H, Same H1 H → H D = some (.lst ((List.range xs.length).filterMap f)) → Qd H) :
    Walked K a g tt te vs σ H1 D Qd := by
  refine lc_list (K := K) (a := a) (xs := xs) (fun i H => Same H1 H ∧ H D = some (.lst ((List.range i).filterMap f)) ∧ i ≤ xs.length) ⟨Same.new hD, upd_same, Nat.zero_le _⟩ (fun i H _ p => p.1.seq ha) ?_ (fun H p => hd H p.1 p.2.1)
  rintro i x H hi ⟨s1, hd1, hle⟩
  have hlt := (List.getElem?_eq_some_iff.mp hi).1
  refine hs i x H _ _ hi s1 (fun y e H4 s4 => ⟨_, s4 _ _ hd1, ?_, same_upd hD (s1.trans s4), ?_, hlt⟩) (fun e H4 s4 => ⟨s1.trans s4, ?_, hlt⟩)
  · have h1 := List.length_filterMap_le f (List.range i)
    rw [List.length_range] at h1
    exact Nat.lt_of_le_of_lt (Nat.le_trans h1 (Nat.le_trans hle hz)) (by decide)
  · rw [upd_same, List.range_succ, List.filterMap_append, List.filterMap_cons_some e]
    rfl
  · rw [s4 _ _ hd1, List.range_succ, List.filterMap_append, List.filterMap_cons_none e]
    simp
/-- by places, no test -/
theorem lc_mi {K : PySem.W.Frag} {a : Addr} {xs : List V} {g : TG} {te : TE} {vs : List Nat} {σ : L2.St} {H1 : Hp} {D : Addr} {Qd : Hp → Prop} (f : Nat → V) (hD : H1 D = none) (hz : xs.length ≤ 1000) (ha : SqL K H1 a xs)
    (hs : ∀ (i : Nat) x H (R1 : V → Hp → Prop), xs[i]? = some x → Same H1 H → (∀ H4, Same H H4 → R1 (f i) H4) → g x (wipe σ vs) H fun σ2 H2 => wipe σ2 vs = wipe σ vs ∧ te σ2 H2 R1)
    (gm : ∀ x σ H Q Q', (∀ σ2 H2, Q σ2 H2 → Q' σ2 H2) → g x σ H Q → g x σ H Q')
    (hd : ∀ H, Same H1 H → H D = some (.lst ((List.range xs.length).map f)) → Qd H) :
    Walked K a g tYes te vs σ H1 D Qd := by
  refine lc_fi (fun i => some (f i)) hD hz ha (fun i x H R1 R0 hi s k1 _ => ?_) (fun H s e => hd H s ?_)
  · exact gm _ _ _ _ _ (fun σ2 H2 q => ⟨q.1, iteT (B := R0 H2) q.2⟩) (hs i x H R1 hi s (k1 _ rfl))
  · rw [e]
    exact congrArg (fun l => some (HO.lst l)) (congrFun List.filterMap_eq_map _)
theorem gm_name {i : Nat} : ∀ x σ H Q Q', (∀ σ2 H2, Q σ2 H2 → Q' σ2 H2) → gName i x σ H Q → gName i x σ H Q' := fun _ _ _ _ _ h q => h _ _ q
end Sg

/-! sorted of tuples of ints, any number of them. -/
namespace Sg
open PySem PySem.Spec PyProof.Rows L2
/-- by rank -/
theorem swo_rank (r : Value → Int) : SrtO.Swo fun v u => decide (r v < r u) := by
  refine ⟨fun x y h => ?_, fun x y z h1 h2 => ?_⟩
  · have h := of_decide_eq_true h
    exact decide_eq_false (by omega)
  · have h1 := of_decide_eq_false h1
    have h2 := of_decide_eq_false h2
    exact decide_eq_false (by omega)
section
variable {prog : Program} {w : World} {A : Around} {E : Value → Shared → Prop} {s : Shared}
theorem tups_sortable {a : Addr} {vs : List Value} {d : Nat} {B : Int} (hd : 1 ≤ d) (h2 : 2 ≤ vs.length) (x : TS.TupsOk s.heap d B vs) (r : Value → Int) (hr : ∀ v, v ∈ vs → ∀ ns, TS.TupInts s.heap v ns → r v = TS.code B ns)
    (ha : ∀ o, s.heap.get? a = some o → o.cls ≠ .type "tuple") : SrtO.SortableO prog w A s a vs fun v u => decide (r v < r u) := by
  intro h' keep
  have kt : ∀ b o, s.heap.get? b = some o → o.cls = .type "tuple" → h'.get? b = some o := fun b o e c => keep b o (fun z => by subst z; exact ha o e c) e
  have x' : TS.TupsOk h' d B vs := x.keeps kt
  have hr' : ∀ v, v ∈ vs → ∀ ns, TS.TupInts h' v ns → r v = TS.code B ns := fun v hv ns hn => by
    obtain ⟨ms, hm, _⟩ := x v hv
    rw [hr v hv ms hm, ← (hm.keeps kt).ints, hn.ints]
  obtain ⟨fs, h1, hl, h3⟩ := TS.firsts_of hd vs x'
  refine ⟨_, fun Q E hq => PySem.W.kat_kind (T := .type "int") h1 (by omega) (fun f hm => ?_) (by rfl) hq, ?_⟩
  · obtain ⟨n, t, rfl⟩ := h3 f hm
    exact PySem.W.Looks.of_pure rfl
  · intro p q hp hq
    obtain ⟨ns, tp, lp, bp⟩ := x' _ hp
    obtain ⟨ms, tq, lq, bq⟩ := x' _ hq
    have ep := hr' _ hp _ tp
    have eq2 := hr' _ hq _ tq
    obtain ⟨a1, xs, e1, ⟨o, ho, hc, n, hdt⟩, i⟩ := tp
    obtain ⟨a2, ys, e2, ⟨o', ho', hc', n', hdt'⟩, i'⟩ := tq
    show wpAny (model prog w) A (keyLt' _ p.1 q.1) (fun b s' => s' = { s with heap := h' } ∧ b = decide (r p.1 < r q.1)) (fun _ _ => False) { s with heap := h' }
    rw [ep, eq2, e1, e2]
    refine PySem.W.kat_lt ho hdt ho' hdt' ?_
    have sz : decide (xs.size < ys.size) = false := by
      have l1 := i.length
      have l2 := i'.length
      rw [Array.length_toList] at l1 l2
      exact decide_eq_false (by omega)
    rw [sz]
    exact TS.lex_ints 0 i i' (by omega) bp bq ⟨rfl, rfl⟩
end
/-- sorted(xs), xs a list of tuples of 3 ints in [0, B): a new list of the same, ascending; k tells each one's ints -/
def rSorted3 (K : PySem.W.Frag) : List V → Hp → VK → Prop := fun vs H Q => ∃ (a : Addr) (ts : List Addr) (k : Addr → List Int) (B : Int), vs = [V.ref a] ∧ SqL K H a (ts.map V.ref) ∧ (∀ t ∈ ts, H t = some (.tup ((k t).map V.int)) ∧ (k t).length = 3 ∧ TS.Bd B (k t)) ∧
  ∀ (us : List Addr) (p : Addr), us.Perm ts → us.Pairwise (fun x y => TS.code B (k x) ≤ TS.code B (k y)) → H p = none → Q (.ref p) (upd H p (.lst (us.map V.ref)))
def adr : Value → Addr
  | .ref a => a
  | _ => 0
section
variable {X : Cx}
theorem refs_of : ∀ {ts : List Addr} {us : List Value}, Vals (ts.map V.ref) us → us = ts.map Value.ref
  | [], _, .nil => rfl
  | t :: ts, _, .cons r q => by
    obtain rfl := (show _ = Value.ref t from r)
    rw [refs_of q]
    rfl
theorem vals_refs : ∀ (ts : List Addr), Vals (ts.map V.ref) (ts.map Value.ref)
  | [] => .nil
  | t :: ts => .cons (show RelV (.ref t) (.ref t) from rfl) (vals_refs ts)
theorem cr_sorted3 : CallR X (.builtin "sorted") (rSorted3 X.K) := by
  intro pins s σ H vs us Q I r h
  obtain ⟨a, ts, k, B, rfl, hs, hx, q⟩ := h
  obtain ⟨its, rv, hl, hz⟩ := I.list hs
  obtain ⟨u, rfl, ru⟩ := vals1 r
  obtain rfl : u = Value.ref a := ru
  have e1 := refs_of rv
  subst e1
  have raw : ∀ t ∈ ts, TS.TupInts s.heap (.ref t) (k t) := fun t ht => by
    obtain ⟨_, its2, r2, o, ho, hc, n, hd⟩ := I.hok _ _ (hx t ht).1
    exact ⟨t, its2.toArray, rfl, ⟨o, ho, hc, n, hd⟩, by simpa using r2.ints⟩
  have ok : TS.TupsOk s.heap 3 B (ts.map Value.ref) := fun v hv => by
    obtain ⟨t, ht, rfl⟩ := List.mem_map.mp hv
    exact ⟨k t, raw t ht, (hx t ht).2.1, (hx t ht).2.2⟩
  refine SrtO.sorted_ord (ltv := fun v u => decide (TS.code B (k (adr v)) < TS.code B (k (adr u)))) (swo_rank fun v => TS.code B (k (adr v))) hl.isList (by rw [← rv.length]; exact hz) (fun h2 h₁ a ha kk => ?_) fun out hs hb => ?_
  · have kt : ∀ b o, s.heap.get? b = some o → o.cls = .type "tuple" → h₁.get? b = some o := fun b o e _ => (kk b o e).2
    refine tups_sortable (s := { s with heap := h₁ }) (d := 3) (B := B) (by decide) h2 (ok.keeps kt) (fun v => TS.code B (k (adr v))) (fun v hv ns hn => ?_) fun o e => ?_
    · obtain ⟨t, ht, rfl⟩ := List.mem_map.mp hv
      rw [← hn.ints, ((raw t ht).keeps kt).ints]
      rfl
    · have e' := e.symm.trans ha
      cases e'
      intro c
      exact absurd (Value.type.inj c) (by decide)
  · obtain ⟨n, hn⟩ := sortedAll_at s.heap (ts.map Value.ref) out.toArray
    have e3 : out = (out.map adr).map Value.ref := by
      rw [List.map_map]
      have : ∀ v ∈ out, (Value.ref ∘ adr) v = v := fun v hv => by
        obtain ⟨t, _, rfl⟩ := List.mem_map.mp (hb.perm.mem_iff.mp hv)
        rfl
      conv => lhs; rw [← List.map_id out]
      exact List.map_congr_left fun v hv => (this v hv).symm
    have hp : (out.map adr).Perm ts := by
      have := hb.perm.map adr
      rw [List.map_map] at this
      have e4 : ts.map (adr ∘ Value.ref) = ts := by
        conv => rhs; rw [← List.map_id ts]
        exact List.map_congr_left fun v _ => rfl
      rw [e4] at this
      exact this
    refine ⟨.ref (s.heap.objs.size + 1), upd H (s.heap.objs.size + 1) (.lst ((out.map adr).map V.ref)), I.laid (t' := s.toks) (fun b o e => sortedAll_old e) (Nat.le_succ _) ⟨?_, out, n, ?_, hn⟩, rfl, q _ _ hp ?_ (I.hok.fresh (Nat.le_succ _))⟩
    · rw [List.length_map, hp.length_eq]
      rw [List.length_map] at hz
      exact hz
    · conv => rhs; rw [e3]
      exact vals_refs _
    · rw [List.pairwise_map]
      refine List.Pairwise.imp (fun {u v} huv => ?_) hs
      have := of_decide_eq_false huv
      omega
end
end Sg

/-! More rules: a target of several names within a comprehension; a call of what a subscript gives; comprehensions over any walk. -/
namespace Sg
open PySem PySem.Spec PyProof.Rows L2
theorem hu65 {k : Nat} {A : Around} (r : Room k A) : A.units + 65 < cLine := by have := r.un; omega
section
variable {X : Cx}
theorem pg_tupK (K : PySem.W.Frag) {es : List Expr} {k : Nat} {t : TGs} {n : Nat} {pos : Pos} (hc : X.calm = true) (h : PGs X es t) (hK : X.K = K := by rfl)
    (hn : (assignEach es X.env).length = n := by rfl) (hst : (assignEach es X.env).findIdx? (·.1) = none := by rfl) : PG X (.Tuple es k pos) (gTup K n t) := hK ▸ pg_tup hc h hn hst
/-- of several defs that may be called: the promise goes with the address -/
structure Known (P : Program) (w : World) (K : PySem.W.Frag) (mg : Str → Option Value) (base : Heap) (k : Nat) (f : Addr) (sp : Sp) : Prop where
  ex : ∃ (fd : FuncData) (ps : List Str), FnOk P w K mg base CX0 k f fd ps sp ∧ PySem.W.keepIn K (.ref f) = true ∧ Binds K fd ps []
def tCallIx (S : Addr → Sp → Prop) (tf : TE) (t : TA) : TE := fun σ H Q => tf σ H fun v H1 => ∃ f sp, v = .ref f ∧ S f sp ∧ t σ H1 fun vs H2 => sp vs H2 Q E0
theorem pe_callIx {S : Addr → Sp → Prop} {k : Nat} {fe e : Expr} {es : List Expr} {pos : Pos} {tf : TE} {t : TA} (A : ∀ f sp, S f sp → Known X.prog X.w X.K X.mg X.base k f sp) (hr : Room k X.A) (hf : PE X fe tf) (ha : PA X (e :: es) t)
    (he : starEach (e :: es) X.env = (false, eval e X.env) :: starEach es X.env := by rfl) (hpl : (backTo pos (starEach es X.env)).any (·.1) = false := by rfl)
    (hc : eval (.Call fe (e :: es) [] pos) X.env = (do callWith pos (← eval fe X.env) [] (backTo pos (starEach (e :: es) X.env)) (backToKw pos (keywordEach [] X.env))) := by rfl) :
    PE X (.Call fe (e :: es) [] pos) (tCallIx S tf t) := by
  refine ⟨fun pins s σ H Q I h => ?_⟩
  refine Call_ (thn (hf.run pins s σ H _ I h) fun u s1 ⟨v, H1, I1, r1, f, sp, ev, hS, q1⟩ => ?_) hc
  subst ev
  cases r1
  obtain ⟨fd, ps, F, hk, hb⟩ := (A f sp hS).ex
  refine PySem.W.callWith_K (h₀ := X.base) I.ok.mod.kin hk (thn (ha.run pos pins s1 σ H1 _ I1 q1) fun us s2 ⟨vs, H2, I2, r, q⟩ => ⟨I2.kIn, ?_⟩) he hpl
  refine run_fn (dvs := []) (E := E0) F hr hb .nil pass0 I2 r ?_
  rw [List.append_nil]
  exact q
end
/-! ### comprehensions over any walk -/
/-- all but what stands at D -/
def SameBut (D : Addr) (H H' : Hp) : Prop := ∀ b o, b ≠ D → H b = some o → H' b = some o
section
variable {J : It} {n : Nat} {G : Hp → Prop} {Y : Nat → Hp → V → Hp → Prop}
/-- what is left to show of a comprehension -/
def WalkedJ (J : It) (g : TG) (tt : TT) (te : TE) (vs : List Nat) (σ : L2.St) (G0 : Hp) (D : Addr) (Z : Hp → Prop) : Prop := ∃ V' : Nat → Nat → Hp → Prop, (∃ n, V' 0 n (upd G0 D (.lst []))) ∧ ∀ j n F, V' j n F → (J.stop j F ∧ Z F) ∨ (J.go j F ∧ ∃ U : Hp → Prop, (∀ F', U F' → ∃ l, l < n ∧ V' (j + 1) l F') ∧
  ∀ x F', J.yld j F x F' → g x (wipe σ vs) F' fun s2 F2 => wipe s2 vs = wipe σ vs ∧ tt s2 F2 fun c F3 => if c = true then te s2 F3 fun y F4 => ∃ so, F4 D = some (.lst so) ∧ so.length < sizeLine ∧ U (upd F4 D (.lst (so ++ [y]))) else U F3)
/-- parts that change nothing -/
theorem lw_fi (w : Walk J n G Y) {g : TG} {tt : TT} {te : TE} {vs : List Nat} {σ : L2.St} {H1 : Hp} {D : Addr} {Qd : Hp → Prop} (f : Nat → Option V) (hD : H1 D = none) (hz : n ≤ 4000) (hG : ∀ H, Same H1 H → G H) (hY : ∀ i H x H', Y i H x H' → Same H H')
    (hs : ∀ (i : Nat) x H H' (R1 : V → Hp → Prop) (R0 : Hp → Prop), i < n → Same H1 H → Same H1 H' → Y i H x H' → (∀ y, f i = some y → ∀ H4, Same H' H4 → R1 y H4) → (f i = none → ∀ H4, Same H' H4 → R0 H4) → g x (wipe σ vs) H' fun σ2 H2 => wipe σ2 vs = wipe σ vs ∧ tt σ2 H2 fun b H3 => if b = true then te σ2 H3 R1 else R0 H3)
    (hd : ∀ H, Same H1 H → H D = some (.lst ((List.range n).filterMap f)) → Qd H) : WalkedJ J g tt te vs σ H1 D Qd := by
  refine lc_it w (fun i H => Same H1 H ∧ H D = some (.lst ((List.range i).filterMap f)) ∧ i ≤ n) ⟨Same.new hD, upd_same, Nat.zero_le _⟩ (fun i H _ p => hG H p.1) ?_ (fun H p => hd H p.1 p.2.1)
  rintro i x H H' hi ⟨s1, hd1, hle⟩ hy
  have sY := hY i H x H' hy
  have hd2 := sY _ _ hd1
  refine hs i x H H' _ _ hi s1 (s1.trans sY) hy (fun y e H4 s4 => ⟨_, s4 _ _ hd2, ?_, same_upd hD ((s1.trans sY).trans s4), ?_, hi⟩) (fun e H4 s4 => ⟨(s1.trans sY).trans s4, ?_, hi⟩)
  · have h1 := List.length_filterMap_le f (List.range i)
    rw [List.length_range] at h1
    exact Nat.lt_of_le_of_lt (Nat.le_trans h1 (Nat.le_trans hle hz)) (by decide)
  · rw [upd_same, List.range_succ, List.filterMap_append, List.filterMap_cons_some e]
    rfl
  · rw [s4 _ _ hd2, List.range_succ, List.filterMap_append, List.filterMap_cons_none e]
    simp
/-- no test -/
theorem lw_mi (w : Walk J n G Y) {g : TG} {te : TE} {vs : List Nat} {σ : L2.St} {H1 : Hp} {D : Addr} {Qd : Hp → Prop} (f : Nat → V) (hD : H1 D = none) (hz : n ≤ 4000) (hG : ∀ H, Same H1 H → G H) (hY : ∀ i H x H', Y i H x H' → Same H H')
    (hs : ∀ (i : Nat) x H H' (R1 : V → Hp → Prop), i < n → Same H1 H → Same H1 H' → Y i H x H' → (∀ H4, Same H' H4 → R1 (f i) H4) → g x (wipe σ vs) H' fun σ2 H2 => wipe σ2 vs = wipe σ vs ∧ te σ2 H2 R1)
    (gm : ∀ x σ H Q Q', (∀ σ2 H2, Q σ2 H2 → Q' σ2 H2) → g x σ H Q → g x σ H Q')
    (hd : ∀ H, Same H1 H → H D = some (.lst ((List.range n).map f)) → Qd H) : WalkedJ J g tYes te vs σ H1 D Qd := by
  refine lw_fi w (fun i => some (f i)) hD hz hG hY (fun i x H H' R1 R0 hi s s' y k1 _ => ?_) (fun H s e => hd H s ?_)
  · exact gm _ _ _ _ _ (fun σ2 H2 q => ⟨q.1, iteT (B := R0 H2) q.2⟩) (hs i x H H' R1 hi s s' y (k1 _ rfl))
  · rw [e]
    exact congrArg (fun l => some (HO.lst l)) (congrFun List.filterMap_eq_map _)
def NewInv (R : Nat → Addr → Hp → Prop) (H1 : Hp) (D : Addr) (n i : Nat) (H : Hp) : Prop := Same H1 H ∧ i ≤ n ∧ ∃ as : List Addr, H D = some (.lst (as.map V.ref)) ∧ as.length = i ∧ as.Nodup ∧ ∀ j a, as[j]? = some a → R j a H
/-- each item a new object; R i a H tells what stands at a, whatever stands at D -/
theorem lw_new (w : Walk J n G Y) {g : TG} {te : TE} {vs : List Nat} {σ : L2.St} {H1 : Hp} {D : Addr} {Qd : Hp → Prop} (R : Nat → Addr → Hp → Prop) (hD : H1 D = none) (hz : n ≤ 4000) (hG : ∀ H, Same H1 H → G H) (hY : ∀ i H x H', Y i H x H' → Same H H')
    (hR : ∀ i a H H', R i a H → SameBut D H H' → R i a H') (hRa : ∀ i a H, R i a H → ∃ o, H a = some o)
    (hs : ∀ (i : Nat) x H H' (R1 : V → Hp → Prop), i < n → Same H1 H → Same H1 H' → (∃ o, H' D = some o) → Y i H x H' → (∀ a H4, Same H' H4 → H' a = none → R i a H4 → R1 (.ref a) H4) → g x (wipe σ vs) H' fun σ2 H2 => wipe σ2 vs = wipe σ vs ∧ te σ2 H2 R1)
    (gm : ∀ x σ H Q Q', (∀ σ2 H2, Q σ2 H2 → Q' σ2 H2) → g x σ H Q → g x σ H Q')
    (hd : ∀ H (as : List Addr), Same H1 H → H D = some (.lst (as.map V.ref)) → as.length = n → as.Nodup → (∀ i a, as[i]? = some a → R i a H) → Qd H) : WalkedJ J g tYes te vs σ H1 D Qd := by
  refine lc_it w (NewInv R H1 D n) ⟨Same.new hD, Nat.zero_le _, [], upd_same, rfl, List.nodup_nil, fun j a e => by simp at e⟩ (fun i H _ p => hG H p.1) ?_ (fun H p => ?_)
  · rintro i x H H' hi ⟨s1, hle, as, hd1, hlen, hnd, hr⟩ hy
    have sY := hY i H x H' hy
    have hd2 := sY _ _ hd1
    refine gm _ _ _ _ _ (fun σ2 H2 q => ⟨q.1, iteT (B := NewInv R H1 D n (i + 1) H2) q.2⟩) (hs i x H H' (fun y H4 => ∃ acc, H4 D = some (.lst acc) ∧ acc.length < sizeLine ∧ NewInv R H1 D n (i + 1) (upd H4 D (.lst (acc ++ [y])))) hi s1 (s1.trans sY) ⟨_, hd2⟩ hy fun a H4 s4 na ra => ⟨_, s4 _ _ hd2, ?_, same_upd hD ((s1.trans sY).trans s4), hi, as ++ [a], ?_, ?_, ?_, fun j b hb => ?_⟩)
    · rw [List.length_map, hlen]
      exact Nat.lt_of_le_of_lt (Nat.le_trans hle hz) (by decide)
    · rw [upd_same, List.map_append]
      rfl
    · rw [List.length_append, hlen]
      rfl
    · refine List.nodup_append.mpr ⟨hnd, by simp, fun b hb c hc e => ?_⟩
      rw [List.mem_singleton] at hc
      subst hc
      subst e
      obtain ⟨j, hj⟩ := List.mem_iff_getElem?.mp hb
      obtain ⟨o, ho⟩ := hRa _ _ _ (hr j b hj)
      rw [sY _ _ ho] at na
      cases na
    · have up : SameBut D H4 (upd H4 D (.lst (as.map V.ref ++ [V.ref a]))) := fun b o hb e => by rw [upd_ne hb]; exact e
      rcases Nat.lt_or_ge j as.length with hlt | hge
      · rw [List.getElem?_append_left hlt] at hb
        exact hR _ _ _ _ (hR _ _ _ _ (hr j b hb) fun c o _ e => s4 _ _ (sY _ _ e)) up
      · rw [List.getElem?_append_right hge] at hb
        have hj0 : j - as.length = 0 := by
          have := (List.getElem?_eq_some_iff.mp hb).1
          simp at this
          omega
        rw [hj0] at hb
        cases hb
        have : j = i := by omega
        rw [this]
        exact hR _ _ _ _ ra up
  · obtain ⟨s1, _, as, h1, h2, h3, h4⟩ := p
    exact hd H as s1 h1 h2 h3 h4
end
theorem yat_same {xs : List V} : ∀ i H x H', YAt xs i H x H' → Same H H' := fun i H x H' y => by rw [y.1]; exact Same.refl _
theorem yfn_same {f : Nat → V} : ∀ i H x H', YFn f i H x H' → Same H H' := fun i H x H' y => by rw [y.1]; exact Same.refl _
theorem ypair_same {xs ys : Nat → Option V} : ∀ i H x H', YPair xs ys i H x H' → Same H H' := fun i H v H' y => by
  obtain ⟨T, x, y, _, hT, e, _, _⟩ := y
  rw [e]
  exact Same.new hT
/-- a target of two, three names that takes a tuple apart -/
theorem gm_tup2 {K : PySem.W.Frag} {i j : Nat} : ∀ x σ H Q Q', (∀ σ2 H2, Q σ2 H2 → Q' σ2 H2) → gTup K 2 (gCons (gName i) (gCons (gName j) gNil)) x σ H Q → gTup K 2 (gCons (gName i) (gCons (gName j) gNil)) x σ H Q' := by
  rintro x σ H Q Q' h ⟨a, xs, e1, e2, e3, v, r, e4, v2, r2, e5, e6, q⟩
  exact ⟨a, xs, e1, e2, e3, v, r, e4, v2, r2, e5, e6, h _ _ q⟩
theorem gm_tup3 {K : PySem.W.Frag} {i j l : Nat} : ∀ x σ H Q Q', (∀ σ2 H2, Q σ2 H2 → Q' σ2 H2) → gTup K 3 (gCons (gName i) (gCons (gName j) (gCons (gName l) gNil))) x σ H Q → gTup K 3 (gCons (gName i) (gCons (gName j) (gCons (gName l) gNil))) x σ H Q' := by
  rintro x σ H Q Q' h ⟨a, xs, e1, e2, e3, v, r, e4, v2, r2, e5, v3, r3, e6, e7, q⟩
  exact ⟨a, xs, e1, e2, e3, v, r, e4, v2, r2, e5, v3, r3, e6, e7, h _ _ q⟩
end Sg

namespace Sg
open PySem PySem.Spec PyProof.Rows L2
theorem lk_here {k : Str} {v : V} {r : List (Str × V)} : List.lookup k ((k, v) :: r) = some v := by
  have e : (k == k) = true := beq_self_eq_true k
  simp only [List.lookup, e]
theorem lk_past {k g : Str} {v : V} {r : List (Str × V)} (h : (k == g) = false) : List.lookup k ((g, v) :: r) = List.lookup k r := by
  simp only [List.lookup, h]
theorem put_here {f : Str} {v x : V} {r : List (Str × V)} : putF f v ((f, x) :: r) = (f, v) :: r := if_pos rfl
theorem put_past {f g : Str} {v x : V} {r : List (Str × V)} (h : ¬ g = f) : putF f v ((g, x) :: r) = (g, x) :: putF f v r := if_neg h
/-! ### a node's record -/
def nF (n : Kp365.Node) (p : Nat) (b : Bool) (c : Addr) : List (Str × V) :=
  [("kind", .int n.kind), ("so", .int n.so), ("wrong", .int n.wrong), ("children", .ref c), ("price", .int p), ("thrice", .bl b)]
section
variable {n : Kp365.Node} {p : Nat} {b : Bool} {c : Addr}
theorem nF_kind : (nF n p b c).lookup ("kind" : Str) = some (.int n.kind) := lk_here
theorem nF_so : (nF n p b c).lookup ("so" : Str) = some (.int n.so) := (lk_past (by decide +kernel)).trans lk_here
theorem nF_wrong : (nF n p b c).lookup ("wrong" : Str) = some (.int n.wrong) := (lk_past (by decide +kernel)).trans ((lk_past (by decide +kernel)).trans lk_here)
theorem nF_children : (nF n p b c).lookup ("children" : Str) = some (.ref c) := (lk_past (by decide +kernel)).trans ((lk_past (by decide +kernel)).trans ((lk_past (by decide +kernel)).trans lk_here))
theorem nF_price : (nF n p b c).lookup ("price" : Str) = some (.int p) := (lk_past (by decide +kernel)).trans ((lk_past (by decide +kernel)).trans ((lk_past (by decide +kernel)).trans ((lk_past (by decide +kernel)).trans lk_here)))
theorem nF_thrice : (nF n p b c).lookup ("thrice" : Str) = some (.bl b) := (lk_past (by decide +kernel)).trans ((lk_past (by decide +kernel)).trans ((lk_past (by decide +kernel)).trans ((lk_past (by decide +kernel)).trans ((lk_past (by decide +kernel)).trans lk_here))))
end
/-- a node stands at a -/
def NodeIs (C : Addr) (H : Hp) (a : Addr) (n : Kp365.Node) (p : Nat) (b : Bool) : Prop :=
  ∃ dx c, H a = some (.ins C dx (nF n p b c)) ∧ H c = some (.lst (n.kids.map fun (k : Nat) => V.int (k : Int)))
/-- the list of nodes stands at l -/
def TreeAt (C : Addr) (H : Hp) (l : Addr) (d : Kp366.Desk) : Prop :=
  ∃ as : List Addr, H l = some (.lst (as.map V.ref)) ∧ as.length = d.tree.nodes.length ∧
    ∀ j a, as[j]? = some a → NodeIs C H a (Kp365.nodeAt d.tree j) (d.price.getD j 0) (d.thrice.testBit j)
theorem NodeIs.same {C a : Addr} {H H' : Hp} {n : Kp365.Node} {p : Nat} {b : Bool} (h : NodeIs C H a n p b) (s : Same H H') : NodeIs C H' a n p b := by
  obtain ⟨dx, c, h1, h2⟩ := h
  exact ⟨dx, c, s _ _ h1, s _ _ h2⟩
theorem TreeAt.same {C l : Addr} {H H' : Hp} {d : Kp366.Desk} (h : TreeAt C H l d) (s : Same H H') : TreeAt C H' l d := by
  obtain ⟨as, h1, h2, h3⟩ := h
  exact ⟨as, s _ _ h1, h2, fun j a e => (h3 j a e).same s⟩
/-! ### promises: what is read off a tree -/
def spMisread (T : Addr) : Sp := fun vs H Q _ => ∃ (a : Addr) (n : Kp365.Node) (p : Nat) (b0 b : Bool), vs = [.ref a, .bl b] ∧ NodeIs T H a n p b0 ∧ n.wrong ≤ 100 ∧ Q (.int (misW n.wrong b)) H
def spHeldLeaf (T : Addr) : Sp := fun vs H Q _ => ∃ (a : Addr) (n : Kp365.Node) (p : Nat) (b0 b : Bool), vs = [.ref a, .bl b] ∧ NodeIs T H a n p b0 ∧ n.wrong ≤ 100 ∧ Q (.int (if n.so = 1 then MIL - misW n.wrong b else misW n.wrong b)) H
def spRightWins : Sp := fun vs H Q _ => ∃ (b : Bool) (z : Int), vs = [.bl b, .int z] ∧ Q (.int (if b then z else MIL - z)) H
section
variable {P : Program} {w : World} {K : PySem.W.Frag} {mg : Str → Option Value} {base : Heap}
theorem ok_MisreadOf (T : Tx K mg) : FnOk P w K mg base CX0 1 T.fMisreadOf T.dMisreadOf ["leaf", "thrice"] (spMisread T.cNode) := by
  refine T.FMisreadOf.ok scMisreadOf (fun vs H Q E h => ?_) (fun cdv A outer s H vs Q E hr h => ?_)
  · obtain ⟨a, n, p, b0, b, rfl, _⟩ := h
    rfl
  · obtain ⟨a, n, p, b0, b, rfl, ⟨dx, c, h1, h2⟩, hw, k⟩ := h
    refine ⟨_, (pss_cons (ps_set (i := 2) scMisreadOf.nd rfl (Or.inl rfl) (pe_fld (pv 0) rfl))
      (pss_cons (ps_if (pt_val (pv 1)) (pss_one (ps_ret (pe_op op_sub (pe_op op_mul (pe_op op_mul pe_int (pv 2)) (pv 2)) (pe_op op_mul (pe_op op_mul (pe_op op_mul pe_int (pv 2)) (pv 2)) (pv 2)))))
      pss_nil)
      (pss_one (ps_ret (pe_op op_mul (pe_glob (v := V.int (10000)) rfl T.gHUNDREDTH ⟨_, rfl⟩) (pv 2)))))), ?_⟩
    refine ⟨_, rfl, a, T.cNode, dx, _, _, rfl, h1, T.clNode, T.nNode_wrong, nF_wrong, ?_⟩
    refine ⟨_, rfl, _, rfl, ?_⟩
    have hw' : (n.wrong : Int) ≤ 100 := by omega
    have hw0 : (0 : Int) ≤ n.wrong := by omega
    cases b with
    | true =>
      refine iteT ?_
      have e1 : 300 * (n.wrong : Int) ≤ 30000 := by omega
      refine ⟨_, rfl, _, _, rfl, rfl, .inl ⟨by decide, by decide⟩, _, rfl, _, _, rfl, rfl, .inr ⟨by omega, by omega⟩, _, rfl, _, _, rfl, rfl, .inl ⟨by decide, by decide⟩, _, rfl, _, _, rfl, rfl, .inr ⟨by omega, by omega⟩, _, rfl, _, _, rfl, rfl, .inr ⟨by omega, by omega⟩, _, _, rfl, rfl, ?_⟩
      exact k
    | false =>
      refine iteF ?_
      refine ⟨_, rfl, _, _, rfl, rfl, .inl ⟨by decide, by decide⟩, ?_⟩
      exact k
theorem ok_HeldOfLeaf (T : Tx K mg) : FnOk P w K mg base CX0 2 T.fHeldOfLeaf T.dHeldOfLeaf ["leaf", "thrice"] (spHeldLeaf T.cNode) := by
  have GMisreadOf := ok_MisreadOf (P := P) (w := w) (base := base) T
  refine T.FHeldOfLeaf.ok scHeldOfLeaf (fun vs H Q E h => ?_) (fun cdv A outer s H vs Q E hr h => ?_)
  · obtain ⟨a, n, p, b0, b, rfl, _⟩ := h
    rfl
  · obtain ⟨a, n, p, b0, b, rfl, hN, hw, k⟩ := h
    obtain ⟨dx, c, h1, h2⟩ := id hN
    refine ⟨_, (pss_cons (ps_if (pt_cmpR op_eq (pe_fld (pv 0) rfl) pe_int (nomark _)) (pss_one (ps_ret (pe_op op_sub (pe_glob (v := V.int (1000000)) rfl T.gWHOLE ⟨_, rfl⟩) (pe_call GMisreadOf (hr.mono (by decide)) rfl T.gMisreadOf T.FMisreadOf.kp T.bMisreadOf .nil pass0 (pa_cons (pv 0) (pa_cons (pv 1) pa_nil))))))
      pss_nil)
      (pss_one (ps_ret (pe_call GMisreadOf (hr.mono (by decide)) rfl T.gMisreadOf T.FMisreadOf.kp T.bMisreadOf .nil pass0 (pa_cons (pv 0) (pa_cons (pv 1) pa_nil)))))), ?_⟩
    refine ⟨_, rfl, a, T.cNode, dx, _, _, rfl, h1, T.clNode, T.nNode_so, nF_so, rfl, _, rfl, ?_⟩
    refine ite2 (fun e => ?_) (fun e => ?_)
    · have e : n.so = 1 := by simp at e; omega
      rw [if_pos e] at k
      exact ⟨_, rfl, _, rfl, a, n, p, b0, b, rfl, hN, hw, _, _, rfl, rfl, k⟩
    · have e : ¬ n.so = 1 := fun q => e (by simp [q])
      rw [if_neg e] at k
      exact ⟨_, rfl, _, rfl, a, n, p, b0, b, rfl, hN, hw, k⟩
theorem ok_RightWins (T : Tx K mg) : FnOk P w K mg base CX0 1 T.fRightWins T.dRightWins ["true", "held"] (spRightWins) := by
  refine T.FRightWins.ok scRightWins (fun vs H Q E h => ?_) (fun cdv A outer s H vs Q E hr h => ?_)
  · obtain ⟨b, z, rfl, _⟩ := h
    rfl
  · obtain ⟨b, z, rfl, k⟩ := h
    refine ⟨_, (pss_cons (ps_if (pt_val (pv 0)) (pss_one (ps_ret (pv 1)))
      pss_nil)
      (pss_one (ps_ret (pe_op op_sub (pe_glob (v := V.int (1000000)) rfl T.gWHOLE ⟨_, rfl⟩) (pv 1))))), ?_⟩
    refine ⟨_, rfl, _, rfl, ?_⟩
    cases b with
    | true => exact iteT ⟨_, rfl, k⟩
    | false => exact iteF ⟨_, rfl, _, _, rfl, rfl, k⟩
end
end Sg

namespace Sg
open PySem PySem.Spec PyProof.Rows L2
open Kp365 (nodeAt isTrue)
/-- what's true, node by node -/
def trL (t : Kp365.Desk) (n : Nat) : List Bool := (List.range n).map fun j => isTrue t j
theorem trL_succ (t : Kp365.Desk) (n : Nat) : trL t (n + 1) = trL t n ++ [isTrue t n] := by
  unfold trL
  rw [List.range_succ, List.map_append]
  rfl
theorem trL_get {t : Kp365.Desk} {n k : Nat} (h : k < n) : (trL t n)[k]? = some (isTrue t k) := by
  unfold trL
  rw [List.getElem?_map, List.getElem?_range h]
  rfl
def hdL (d : Kp366.Desk) (s n : Nat) : List Int := (List.range n).map fun j => hI d s j
theorem hdL_succ (d : Kp366.Desk) (s n : Nat) : hdL d s (n + 1) = hdL d s n ++ [hI d s n] := by
  unfold hdL
  rw [List.range_succ, List.map_append]
  rfl
theorem hdL_get {d : Kp366.Desk} {s n k : Nat} (h : k < n) : (hdL d s n)[k]? = some (hI d s k) := by
  unfold hdL
  rw [List.getElem?_map, List.getElem?_range h]
  rfl
/-- the i-th of a list of refs -/
theorem ref_at {as : List Addr} {i : Nat} {y : V} (h : (as.map V.ref)[i]? = some y) : ∃ a, as[i]? = some a ∧ y = .ref a := by
  rw [List.getElem?_map] at h
  cases e : as[i]? with
  | none => rw [e] at h; cases h
  | some a => rw [e] at h; exact ⟨a, rfl, (Option.some.inj h).symm⟩
theorem nat_at {ks : List Nat} {i : Nat} {y : V} (h : (ks.map fun (k : Nat) => V.int (k : Int))[i]? = some y) : ∃ k, ks[i]? = some k ∧ y = .int (k : Int) := by
  rw [List.getElem?_map] at h
  cases e : ks[i]? with
  | none => rw [e] at h; cases h
  | some a => rw [e] at h; exact ⟨a, rfl, (Option.some.inj h).symm⟩
theorem dec1 (n : Nat) : decide (V.int (n : Int) = V.int 1) = (n == 1) := by
  rw [Bool.eq_iff_iff]
  simp
  omega
def spTruths (C : Addr) : Sp := fun vs H Q _ => ∃ (l : Addr) (d : Kp366.Desk), vs = [.ref l] ∧ TreeAt C H l d ∧ WFT d.tree ∧
  ∀ H' p, Same H H' → H p = none → H' p = some (.lst ((trL d.tree d.tree.nodes.length).map V.bl)) → Q (.ref p) H'
section
variable {P : Program} {w : World} {K : PySem.W.Frag} {mg : Str → Option Value} {base : Heap}
theorem ok_Truths (T : Tx K mg) : FnOk P w K mg base CX0 1 T.fTruths T.dTruths ["nodes"] (spTruths T.cNode) := by
  refine T.FTruths.ok scTruths (fun vs H Q E h => ?_) (fun cdv A outer s H vs Q E hr h => ?_)
  · obtain ⟨l, d, rfl, _⟩ := h
    rfl
  · obtain ⟨l, d, rfl, hT, wf, k⟩ := h
    refine ⟨_, (pss_cons (ps_set (i := 1) scTruths.nd rfl (Or.inr rfl) (pe_lst pa_nil))
      (pss_cons (ps_for PassesOwn.never rfl (pi_list (pv 0)) (pg_name (i := 2) scTruths.nd rfl (Or.inl rfl))
      (pss_cons (ps_setLc (i := 3) (own := [("i", 4)]) (g := gName 4) (tt := tYes) rfl scTruths.nd rfl rfl (sw_true rfl rfl rfl (by decide +kernel)) (pi_list (pe_fld (pv 2) rfl)) (blkOk_by (own := [("i", 4)]) (N := ["nodes", "found", "node", "below", "i"]) (sc := defScope sTruths) (by decide +kernel)) (fun _ _ _ _ _ => pg_name (i := 4) scTruths.nd rfl (Or.inl rfl)) (fun _ _ _ _ _ => pts_nil) (fun _ _ _ _ _ => (pe_ix (ix_listK K) (pv 1) (pv 4) (fun _ _ => rfl))))
      (pss_one (ps_if (pt_cmpR op_eq (pe_fld (pv 2) rfl) (pe_glob (v := V.int (0)) rfl T.gLEAF ⟨_, rfl⟩) (nomark _)) (pss_one (ps_expr (pe_bm PySem.F.plainAttrs_list PySem.F.slot_list_append PySem.F.type_list_append mt_append (pv 1) (pa_cons (pe_cmpR op_eq (pe_fld (pv 2) rfl) pe_int (nomark _)) pa_nil))))
      (pss_one (ps_if (pt_cmpR op_eq (pe_fld (pv 2) rfl) (pe_glob (v := V.int (1)) rfl T.gALL_OF ⟨_, rfl⟩) (nomark _)) (pss_one (ps_expr (pe_bm PySem.F.plainAttrs_list PySem.F.slot_list_append PySem.F.type_list_append mt_append (pv 1) (pa_cons (pe_callB (cr_all rfl) (by rfl) T.b_all (by decide +kernel) (pa_cons (pv 3) pa_nil)) pa_nil))))
      (pss_one (ps_expr (pe_bm PySem.F.plainAttrs_list PySem.F.slot_list_append PySem.F.type_list_append mt_append (pv 1) (pa_cons (pe_callB (cr_any rfl) (by rfl) T.b_any (by decide +kernel) (pa_cons (pv 3) pa_nil)) pa_nil))))))))))
      (pss_one (ps_ret (pv 1))))), ?_⟩
    obtain ⟨as, hl, hlen, hn⟩ := id hT
    have h20 := wf.len
    refine ⟨Nat.zero_le _, fun p hp => ?_⟩
    have s0 : Same H (upd H p (.lst [])) := Same.new hp
    refine ⟨_, rfl, l, rfl, ⟨_, SqL.of (s0 _ _ hl)⟩, for_list (K := K) (a := l) (xs := as.map V.ref) (fun i σ H' => ∃ v u : Option V, σ = [some (.ref l), some (.ref p), v, u, none] ∧ Same H H' ∧ H' p = some (.lst ((trL d.tree i).map V.bl)))
      ⟨none, none, rfl, s0, upd_same⟩ (fun i σ H' _ ⟨_, _, _, s5, _⟩ => SqL.of (s5 _ _ hl)) ?_ ?_⟩
    · rintro i y σ H' hi ⟨v, u, rfl, s5, hp5⟩
      obtain ⟨a, ha, rfl⟩ := ref_at hi
      have hil : i < d.tree.nodes.length := by
        rw [← hlen]
        exact (List.getElem?_eq_some_iff.mp ha).1
      obtain ⟨dx, c, h1, h2⟩ := (hn i a ha).same s5
      have hkid := wf.kids i
      -- below = [found[i] for i in node.children]
      refine ⟨_, rfl, a, T.cNode, dx, _, _, rfl, h1, T.clNode, T.nNode_children, nF_children, c, rfl, ⟨_, SqL.of h2⟩, fun D hD => ?_⟩
      refine lc_map (K := K) (a := c) (f := fun x => match x with | .int z => .bl (isTrue d.tree z.toNat) | _ => .non) hD ?_ (SqL.of h2) (fun m x H6 R hm s6 kR => ?_) gm_name (fun H6 s6 hD6 => ?_)
      · rw [List.length_map]
        exact Nat.le_trans (wf.klen i) (by decide)
      · obtain ⟨z, hz, rfl⟩ := nat_at hm
        have hzi := hkid z (List.mem_of_getElem? hz)
        refine ⟨rfl, _, rfl, _, rfl, p, _, _, _, rfl, rfl, SqL.of (s6 _ _ hp5), atI_nat (v := V.bl (isTrue d.tree z)) ?_, kR _ (Same.refl _)⟩
        rw [List.getElem?_map, trL_get hzi]
        rfl
      · have hB : H6 D = some (.lst (((nodeAt d.tree i).kids.map (isTrue d.tree)).map V.bl)) := by
          rw [hD6, List.map_map, List.map_map]
          rfl
        have h6 := s6 _ _ h1
        have hp6 := s6 _ _ hp5
        have hlt : ((trL d.tree i).map V.bl).length < sizeLine := by
          rw [List.length_map, trL, List.length_map, List.length_range]
          exact Nat.lt_of_le_of_lt (show i ≤ 20 by omega) (by decide)
        have fin : ∀ (H7 : Hp) (b : Bool), Same H' H7 → H7 p = some (.lst ((trL d.tree i).map V.bl)) → b = isTrue d.tree i → Same H (upd H7 p (.lst ((trL d.tree i).map V.bl ++ [V.bl b]))) ∧ (upd H7 p (.lst ((trL d.tree i).map V.bl ++ [V.bl b]))) p = some (HO.lst (List.map V.bl (trL d.tree (i + 1)))) := fun H7 b s7 hp7 e => by
          refine ⟨same_upd hp (s5.trans s7), ?_⟩
          rw [upd_same, trL_succ, List.map_append, e]
          rfl
        have hE := isTrue_eq wf i
        refine ⟨_, rfl, a, T.cNode, dx, _, _, rfl, h6, T.clNode, T.nNode_kind, nF_kind, rfl, _, rfl, ?_⟩
        refine ite2 (fun e => ?_) (fun e => ?_)
        · have e : (nodeAt d.tree i).kind = 0 := by simp at e; omega
          rw [if_pos e] at hE
          refine ⟨_, rfl, .inl ⟨rfl, _, SqL.of hp6⟩, _, rfl, a, T.cNode, dx, _, _, rfl, h6, T.clNode, T.nNode_so, nF_so, rfl, p, _, _, rfl, rfl, hp6, hlt, ?_⟩
          exact ⟨_, _, rfl, fin H6 _ s6 hp6 (by rw [hE]; exact dec1 _)⟩
        · have e : ¬ (nodeAt d.tree i).kind = 0 := fun q => e (by simp [q])
          rw [if_neg e] at hE
          refine ⟨_, rfl, a, T.cNode, dx, _, _, rfl, h6, T.clNode, T.nNode_kind, nF_kind, rfl, _, rfl, ?_⟩
          refine ite2 (fun e1 => ?_) (fun e1 => ?_)
          · have e1 : (nodeAt d.tree i).kind = 1 := by simp at e1; omega
            rw [if_pos e1] at hE
            refine ⟨_, rfl, .inl ⟨rfl, _, SqL.of hp6⟩, _, rfl, D, _, rfl, SqL.of hB, p, _, _, rfl, rfl, hp6, hlt, ?_⟩
            exact ⟨_, _, rfl, fin H6 _ s6 hp6 (by rw [hE]; simp)⟩
          · have e1 : ¬ (nodeAt d.tree i).kind = 1 := fun q => e1 (by simp [q])
            rw [if_neg e1] at hE
            refine ⟨_, rfl, .inl ⟨rfl, _, SqL.of hp6⟩, _, rfl, D, _, rfl, SqL.of hB, p, _, _, rfl, rfl, hp6, hlt, ?_⟩
            exact ⟨_, _, rfl, fin H6 _ s6 hp6 (by rw [hE]; simp)⟩
    · rintro σ H' ⟨v, u, rfl, s5, hp5⟩
      rw [List.length_map, hlen] at hp5
      exact ⟨_, rfl, k _ _ s5 hp hp5⟩
end
end Sg

namespace Sg
open PySem PySem.Spec PyProof.Rows L2
open Kp365 (nodeAt isTrue)
/-- of each node whether it's in the set s -/
def rdL (s n : Nat) : List V := (List.range n).map fun j => V.bl (s.testBit j)
theorem rdL_len (s n : Nat) : (rdL s n).length = n := by
  unfold rdL
  rw [List.length_map, List.length_range]
theorem rdL_get {s n k : Nat} (h : k < n) : (rdL s n)[k]? = some (.bl (s.testBit k)) := by
  unfold rdL
  rw [List.getElem?_map, List.getElem?_range h]
  rfl
theorem rdL_congr {s s' n : Nat} (h : ∀ j, j < n → s.testBit j = s'.testBit j) : rdL s n = rdL s' n := by
  unfold rdL
  exact List.map_congr_left fun j hj => by rw [h j (List.mem_range.mp hj)]
def spReadsNow (C : Addr) : Sp := fun vs H Q _ => ∃ (l : Addr) (d : Kp366.Desk), vs = [.ref l] ∧ TreeAt C H l d ∧ d.tree.nodes.length ≤ 20 ∧
  ∀ H' p, Same H H' → H p = none → H' p = some (.lst (rdL d.thrice d.tree.nodes.length)) → Q (.ref p) H'
def spAllHeld (C : Addr) : Sp := fun vs H Q _ => ∃ (l r : Addr) (d : Kp366.Desk) (s : Nat), vs = [.ref l, .ref r] ∧ TreeAt C H l d ∧ WFT d.tree ∧ H r = some (.lst (rdL s d.tree.nodes.length)) ∧
  ∀ H' p, Same H H' → H p = none → H' p = some (.lst ((hdL d s d.tree.nodes.length).map V.int)) → Q (.ref p) H'
section
variable {P : Program} {w : World} {K : PySem.W.Frag} {mg : Str → Option Value} {base : Heap}
theorem ok_ReadsNow (T : Tx K mg) : FnOk P w K mg base CX0 1 T.fReadsNow T.dReadsNow ["nodes"] (spReadsNow T.cNode) := by
  refine T.FReadsNow.ok scReadsNow (fun vs H Q E h => ?_) (fun cdv A outer s H vs Q E hr h => ?_)
  · obtain ⟨l, d, rfl, _⟩ := h
    rfl
  · obtain ⟨l, d, rfl, hT, h20, k⟩ := h
    refine ⟨_, (pss_one (ps_ret (pe_lc (own := [("node", 1)]) (g := gName 1) (tt := tYes) rfl scReadsNow.nd (pi_list (pv 0)) (blkOk_by (own := [("node", 1)]) (N := ["nodes", "node"]) (sc := defScope sReadsNow) (by decide +kernel)) (fun _ _ _ _ _ => pg_name (i := 1) scReadsNow.nd rfl (Or.inl rfl)) (fun _ _ _ _ _ => pts_nil) (fun _ _ _ _ _ => (fldK K (pv 1) rfl))))), ?_⟩
    obtain ⟨as, hl, hlen, hn⟩ := id hT
    refine ⟨_, rfl, l, rfl, ⟨_, SqL.of hl⟩, fun D hD => ?_⟩
    refine lc_mi (K := K) (a := l) (fun j => V.bl (d.thrice.testBit j)) hD (by rw [List.length_map, hlen]; omega) (SqL.of hl) (fun m x H6 R1 hm s6 k1 => ?_) gm_name (fun H6 s6 hD6 => ?_)
    · obtain ⟨a, ha, rfl⟩ := ref_at hm
      obtain ⟨dx, c, h1, h2⟩ := (hn m a ha).same s6
      exact ⟨rfl, _, rfl, a, T.cNode, dx, _, _, rfl, h1, T.clNode, T.nNode_thrice, nF_thrice, k1 _ (Same.refl _)⟩
    · rw [List.length_map, hlen] at hD6
      exact k _ _ s6 hD hD6
theorem ok_AllHeld (T : Tx K mg) : FnOk P w K mg base CX0 3 T.fAllHeld T.dAllHeld ["nodes", "reads"] (spAllHeld T.cNode) := by
  have GHeldOfLeaf := ok_HeldOfLeaf (P := P) (w := w) (base := base) T
  refine T.FAllHeld.ok scAllHeld (fun vs H Q E h => ?_) (fun cdv A outer s H vs Q E hr h => ?_)
  · obtain ⟨l, r, d, s, rfl, _⟩ := h
    rfl
  · obtain ⟨l, r, d, s0, rfl, hT, wf, hr0, k⟩ := h
    refine ⟨_, (pss_cons (ps_set (i := 2) scAllHeld.nd rfl (Or.inr rfl) (pe_lst pa_nil))
      (pss_cons (ps_for PassesOwn.never rfl (pi_zip (by rfl) T.b_zip (pa_cons (pv 0) (pa_cons (pv 1) pa_nil))) (pg_tup rfl (pgs_cons (pg_name (i := 3) scAllHeld.nd rfl (Or.inl rfl)) (pgs_cons (pg_name (i := 4) scAllHeld.nd rfl (Or.inl rfl)) pgs_nil)))
      (pss_one (ps_if (pt_cmpR op_eq (pe_fld (pv 3) rfl) (pe_glob (v := V.int (0)) rfl T.gLEAF ⟨_, rfl⟩) (nomark _)) (pss_one (ps_expr (pe_bm PySem.F.plainAttrs_list PySem.F.slot_list_append PySem.F.type_list_append mt_append (pv 2) (pa_cons (pe_call GHeldOfLeaf (hr.mono (by decide)) rfl T.gHeldOfLeaf T.FHeldOfLeaf.kp T.bHeldOfLeaf .nil pass0 (pa_cons (pv 3) (pa_cons (pv 4) pa_nil))) pa_nil))))
      (pss_one (ps_if (pt_cmpR op_eq (pe_fld (pv 3) rfl) (pe_glob (v := V.int (1)) rfl T.gALL_OF ⟨_, rfl⟩) (nomark _)) (pss_one (ps_expr (pe_bm PySem.F.plainAttrs_list PySem.F.slot_list_append PySem.F.type_list_append mt_append (pv 2) (pa_cons (pe_callB (cr_min rfl) (by rfl) T.b_min (by decide +kernel) (pa_cons (pe_lc (own := [("i", 5)]) (g := gName 5) (tt := tYes) rfl scAllHeld.nd (pi_list (pe_fld (pv 3) rfl)) (blkOk_by (own := [("i", 5)]) (N := ["nodes", "reads", "found", "node", "thrice", "i"]) (sc := defScope sAllHeld) (by decide +kernel)) (fun _ _ _ _ _ => pg_name (i := 5) scAllHeld.nd rfl (Or.inl rfl)) (fun _ _ _ _ _ => pts_nil) (fun _ _ _ _ _ => (pe_ix (ix_listK K) (pv 2) (pv 5) (fun _ _ => rfl)))) pa_nil)) pa_nil))))
      (pss_one (ps_expr (pe_bm PySem.F.plainAttrs_list PySem.F.slot_list_append PySem.F.type_list_append mt_append (pv 2) (pa_cons (pe_callB (cr_max rfl) (by rfl) T.b_max (by decide +kernel) (pa_cons (pe_lc (own := [("i", 5)]) (g := gName 5) (tt := tYes) rfl scAllHeld.nd (pi_list (pe_fld (pv 3) rfl)) (blkOk_by (own := [("i", 5)]) (N := ["nodes", "reads", "found", "node", "thrice", "i"]) (sc := defScope sAllHeld) (by decide +kernel)) (fun _ _ _ _ _ => pg_name (i := 5) scAllHeld.nd rfl (Or.inl rfl)) (fun _ _ _ _ _ => pts_nil) (fun _ _ _ _ _ => (pe_ix (ix_listK K) (pv 2) (pv 5) (fun _ _ => rfl)))) pa_nil)) pa_nil)))))))))
      (pss_one (ps_ret (pv 2))))), ?_⟩
    obtain ⟨as, hl, hlen, hn⟩ := id hT
    have h20 := wf.len
    refine ⟨Nat.zero_le _, fun p hp => ?_⟩
    have sn : Same H (upd H p (.lst [])) := Same.new hp
    refine ⟨_, rfl, _, rfl, l, r, as.map V.ref, rdL s0 d.tree.nodes.length, rfl, SqL.of (sn _ _ hl), SqL.of (sn _ _ hr0), for_it (walk_zip (n := d.tree.nodes.length) (by rw [List.length_map, rdL_len]; omega)) (fun i σ H' => ∃ v u : Option V, σ = [some (.ref l), some (.ref r), some (.ref p), v, u, none] ∧ Same H H' ∧ H' p = some (.lst ((hdL d s0 i).map V.int)))
      ⟨none, none, rfl, sn, upd_same⟩ (fun i σ H' _ ⟨_, _, _, s5, _⟩ => ⟨SqL.of (s5 _ _ hl), SqL.of (s5 _ _ hr0)⟩) ?_ ?_⟩
    · rintro i y σ H0 H' hi ⟨v, u, rfl, s5', hp5'⟩ ⟨Tp, x1, x2, rfl, hTp, rfl, g1, g2⟩
      have sT : Same H0 (upd H0 Tp (.tup [x1, x2])) := Same.new hTp
      have s5 := s5'.trans sT
      have hp5 := sT _ _ hp5'
      obtain ⟨a, ha, rfl⟩ := ref_at g1
      have g2 := (rdL_get (s := s0) hi).symm.trans g2
      cases g2
      refine ⟨Tp, _, rfl, SqT.of upd_same, rfl, _, _, rfl, _, _, rfl, rfl, ?_⟩
      generalize upd H0 Tp (.tup [V.ref a, .bl (s0.testBit i)]) = H' at s5 hp5 sT
      have hN := (hn i a ha).same s5
      obtain ⟨dx, c, h1, h2⟩ := id hN
      have hkid := wf.kids i
      have hlt : ((hdL d s0 i).map V.int).length < sizeLine := by
        rw [List.length_map, hdL, List.length_map, List.length_range]
        exact Nat.lt_of_le_of_lt (show i ≤ 20 by omega) (by decide)
      have fin : ∀ (H6 : Hp) (b : Int), Same H' H6 → b = hI d s0 i → ∃ v' u' : Option V, ([some (.ref l), some (.ref r), some (.ref p), some (.ref a), some (.bl (s0.testBit i)), none] : L2.St) = [some (.ref l), some (.ref r), some (.ref p), v', u', none] ∧ Same H (upd H6 p (.lst ((hdL d s0 i).map V.int ++ [V.int b]))) ∧ (upd H6 p (.lst ((hdL d s0 i).map V.int ++ [V.int b]))) p = some (HO.lst (List.map V.int (hdL d s0 (i + 1)))) := fun H6 b s6 e => by
        refine ⟨_, _, rfl, same_upd hp (s5.trans s6), ?_⟩
        rw [upd_same, hdL_succ, List.map_append, e]
        rfl
      have hE := hI_eq wf s0 i
      have hb : ∀ x ∈ (nodeAt d.tree i).kids.map (hI d s0), 0 ≤ x ∧ x ≤ MIL := fun x hx => by
        obtain ⟨c, _, rfl⟩ := List.mem_map.mp hx
        exact hI_bounds wf _ _
      have comp : ∀ (D : Addr) (H6 : Hp), H6 D = some (.lst (((nodeAt d.tree i).kids.map fun (k : Nat) => V.int (k : Int)).map fun x => match x with | .int z => .int (hI d s0 z.toNat) | _ => .non)) → H6 D = some (.lst (((nodeAt d.tree i).kids.map (hI d s0)).map V.int)) := fun D H6 e => by
        rw [e, List.map_map, List.map_map]
        rfl
      refine ⟨_, rfl, a, T.cNode, dx, _, _, rfl, h1, T.clNode, T.nNode_kind, nF_kind, rfl, _, rfl, ?_⟩
      refine ite2 (fun e => ?_) (fun e => ?_)
      · have e : (nodeAt d.tree i).kind = 0 := by simp at e; omega
        rw [if_pos e] at hE
        have hw : (nodeAt d.tree i).wrong ≤ 100 := by
          rcases wf.kind i with z | z
          · exact z.2.2.2
          · omega
        refine ⟨_, rfl, .inl ⟨rfl, _, SqL.of hp5⟩, _, rfl, _, rfl, a, _, _, _, _, rfl, hN, hw, p, _, _, rfl, rfl, hp5, hlt, ?_⟩
        exact fin _ _ (Same.refl _) hE.symm
      · have e : ¬ (nodeAt d.tree i).kind = 0 := fun q => e (by simp [q])
        rw [if_neg e] at hE
        have hne : 0 < ((nodeAt d.tree i).kids.map (hI d s0)).length := by
          rw [List.length_map]
          rcases wf.kind i with z | z
          · exact absurd z.1 e
          · exact List.length_pos_iff.mpr z.2.1
        refine ⟨_, rfl, a, T.cNode, dx, _, _, rfl, h1, T.clNode, T.nNode_kind, nF_kind, rfl, _, rfl, ?_⟩
        have item : ∀ (m : Nat) (x : V) (H6 : Hp) (R : V → Hp → Prop), ((nodeAt d.tree i).kids.map fun (k : Nat) => V.int (k : Int))[m]? = some x → Same H' H6 → (∀ H4, Same H6 H4 → R (match x with | .int z => .int (hI d s0 z.toNat) | _ => .non) H4) → ∃ z : Nat, x = .int (z : Int) ∧ z < i ∧ R (.int (hI d s0 z)) H6 := fun m x H6 R hm s6 kR => by
          obtain ⟨z, hz, rfl⟩ := nat_at hm
          exact ⟨z, rfl, hkid z (List.mem_of_getElem? hz), kR _ (Same.refl _)⟩
        refine ite2 (fun e1 => ?_) (fun e1 => ?_)
        · have e1 : (nodeAt d.tree i).kind = 1 := by simp at e1; omega
          rw [if_pos e1] at hE
          refine ⟨_, rfl, .inl ⟨rfl, _, SqL.of hp5⟩, _, rfl, a, T.cNode, dx, _, _, rfl, h1, T.clNode, T.nNode_children, nF_children, c, rfl, ⟨_, SqL.of h2⟩, fun D hD => ?_⟩
          refine lc_map (K := K) (a := c) (f := fun x => match x with | .int z => .int (hI d s0 z.toNat) | _ => .non) hD ?_ (SqL.of h2) (fun m x H6 R hm s6 kR => ?_) gm_name (fun H6 s6 hD6 => ?_)
          · rw [List.length_map]
            exact Nat.le_trans (wf.klen i) (by decide)
          · obtain ⟨z, rfl, hzi, hR⟩ := item m x H6 R hm s6 kR
            refine ⟨rfl, _, rfl, _, rfl, p, _, _, _, rfl, rfl, SqL.of (s6 _ _ hp5), atI_nat (v := V.int (hI d s0 z)) ?_, hR⟩
            rw [List.getElem?_map, hdL_get hzi]
            rfl
          · exact ⟨D, _, rfl, SqL.of (comp D H6 hD6), hne, fun m hm hle => ⟨p, _, _, rfl, rfl, s6 _ _ hp5, hlt, fin _ _ s6 (by rw [hE]; exact (minL_is hm hle fun x hx => (hb x hx).2).symm)⟩⟩
        · have e1 : ¬ (nodeAt d.tree i).kind = 1 := fun q => e1 (by simp [q])
          rw [if_neg e1] at hE
          refine ⟨_, rfl, .inl ⟨rfl, _, SqL.of hp5⟩, _, rfl, a, T.cNode, dx, _, _, rfl, h1, T.clNode, T.nNode_children, nF_children, c, rfl, ⟨_, SqL.of h2⟩, fun D hD => ?_⟩
          refine lc_map (K := K) (a := c) (f := fun x => match x with | .int z => .int (hI d s0 z.toNat) | _ => .non) hD ?_ (SqL.of h2) (fun m x H6 R hm s6 kR => ?_) gm_name (fun H6 s6 hD6 => ?_)
          · rw [List.length_map]
            exact Nat.le_trans (wf.klen i) (by decide)
          · obtain ⟨z, rfl, hzi, hR⟩ := item m x H6 R hm s6 kR
            refine ⟨rfl, _, rfl, _, rfl, p, _, _, _, rfl, rfl, SqL.of (s6 _ _ hp5), atI_nat (v := V.int (hI d s0 z)) ?_, hR⟩
            rw [List.getElem?_map, hdL_get hzi]
            rfl
          · exact ⟨D, _, rfl, SqL.of (comp D H6 hD6), hne, fun m hm hle => ⟨p, _, _, rfl, rfl, s6 _ _ hp5, hlt, fin _ _ s6 (by rw [hE]; exact (maxL_is hm hle fun x hx => (hb x hx).1).symm)⟩⟩
    · rintro σ H' ⟨v, u, rfl, s5, hp5⟩
      exact ⟨_, rfl, k _ _ s5 hp hp5⟩
def spRightOf (C : Addr) : Sp := fun vs H Q _ => ∃ (l : Addr) (d : Kp366.Desk) (i : Nat), vs = [.ref l, .int (i : Int)] ∧ TreeAt C H l d ∧ WFT d.tree ∧ i < d.tree.nodes.length ∧
  ∀ H', Same H H' → Q (.int (rI d d.thrice i)) H'
theorem ok_RightOf (T : Tx K mg) : FnOk P w K mg base CX0 4 T.fRightOf T.dRightOf ["nodes", "i"] (spRightOf T.cNode) := by
  have GAllHeld := ok_AllHeld (P := P) (w := w) (base := base) T
  have GReadsNow := ok_ReadsNow (P := P) (w := w) (base := base) T
  have GRightWins := ok_RightWins (P := P) (w := w) (base := base) T
  have GTruths := ok_Truths (P := P) (w := w) (base := base) T
  refine T.FRightOf.ok scRightOf (fun vs H Q E h => ?_) (fun cdv A outer s H vs Q E hr h => ?_)
  · obtain ⟨l, d, i, rfl, _⟩ := h
    rfl
  · obtain ⟨l, d, i, rfl, hT, wf, hi, k⟩ := h
    refine ⟨_, (pss_one (ps_ret (pe_call GRightWins (hr.mono (by decide)) rfl T.gRightWins T.FRightWins.kp T.bRightWins .nil pass0 (pa_cons (pe_ix ix_list (pe_call GTruths (hr.mono (by decide)) rfl T.gTruths T.FTruths.kp T.bTruths .nil pass0 (pa_cons (pv 0) pa_nil)) (pv 1) (fun _ _ => rfl)) (pa_cons (pe_ix ix_list (pe_call GAllHeld (hr.mono (by decide)) rfl T.gAllHeld T.FAllHeld.kp T.bAllHeld .nil pass0 (pa_cons (pv 0) (pa_cons (pe_call GReadsNow (hr.mono (by decide)) rfl T.gReadsNow T.FReadsNow.kp T.bReadsNow .nil pass0 (pa_cons (pv 0) pa_nil)) pa_nil))) (pv 1) (fun _ _ => rfl)) pa_nil))))), ?_⟩
    refine ⟨_, rfl, l, d, rfl, hT, wf, fun H2 q s2 hq h2 => ?_⟩
    refine ⟨_, rfl, q, _, _, _, rfl, rfl, SqL.of h2, atI_nat (v := V.bl (isTrue d.tree i)) (by rw [List.getElem?_map, trL_get hi]; rfl), ?_⟩
    refine ⟨_, rfl, _, rfl, l, d, rfl, hT.same s2, wf.len, fun H3 r s3 hr3 h3 => ?_⟩
    refine ⟨l, r, d, d.thrice, rfl, (hT.same s2).same s3, wf, h3, fun H1 p s1 hp h1 => ?_⟩
    refine ⟨_, rfl, p, _, _, _, rfl, rfl, SqL.of h1, atI_nat (v := V.int (hI d d.thrice i)) (by rw [List.getElem?_map, hdL_get hi]; rfl), ?_⟩
    exact ⟨_, _, rfl, k H1 ((s2.trans s3).trans s1)⟩
end
end Sg

namespace Sg
open PySem PySem.Spec PyProof.Rows L2
open Kp365 (nodeAt isTrue)
/-- a while by an invariant and a measure; the test is read in place -/
theorem while_at {c : TT} {tb : TS} {D : Ends} {σ : L2.St} {H : Hp} (Pv : L2.St → Hp → Prop) (mu : L2.St → Nat) (h0 : Pv σ H)
    (hs : ∀ σ H, Pv σ H → c σ H fun b H1 => if b = true then ∃ N : L2.St → Hp → Prop, (∀ σ' H', N σ' H' → ∃ m', m' < mu σ ∧ (m' = mu σ' ∧ Pv σ' H')) ∧ tb { D with nx := N, ct := N, bk := D.nx } σ H1 else D.nx σ H1) : tWhile c tb D σ H := by
  refine ⟨fun m σ H => m = mu σ ∧ Pv σ H, ⟨_, rfl, h0⟩, ?_⟩
  rintro m σ H ⟨rfl, p⟩
  exact hs σ H p
/-! ### fractions -/
def spFraction : Sp := fun vs H Q _ => ∃ (a b : Nat), vs = [.int (a : Int), .int (b : Int)] ∧ 0 < b ∧ b < 1073741824 ∧
  ∀ p, H p = none → Q (.ref p) (upd H p (.lst [.int (Kp340.fr a b).1, .int (Kp340.fr a b).2]))
theorem fmod_nat (c r : Nat) : (c : Int).fmod (r : Int) = ((c % r : Nat) : Int) := by
  rw [Int.fmod_eq_emod_of_nonneg _ (by omega)]
  rfl
/-- a name's number -/
def numAt (i : Nat) (σ : L2.St) : Nat := match σ[i]? with
  | some (some (.int z)) => z.toNat
  | _ => 0
section
variable {P : Program} {w : World} {K : PySem.W.Frag} {mg : Str → Option Value} {base : Heap}
theorem ok_Fraction (T : Tx K mg) : FnOk P w K mg base CX0 1 T.fFraction T.dFraction ["part", "whole"] spFraction := by
  refine T.FFraction.ok scFraction (fun vs H Q E h => ?_) (fun cdv A outer s H vs Q E hr h => ?_)
  · obtain ⟨a, b, rfl, _⟩ := h
    rfl
  · obtain ⟨a, b, rfl, hb, hb2, k⟩ := h
    refine ⟨_, (pss_cons (ps_set (i := 2) scFraction.nd rfl (Or.inl rfl) (pv 1))
      (pss_cons (ps_set (i := 3) scFraction.nd rfl (Or.inl rfl) (pv 0))
      (pss_cons (ps_while PassesOwn.never (pt_cmpR op_gt (pv 3) pe_int (nomark _)) (pss_cons (ps_set (i := 4) scFraction.nd rfl (Or.inl rfl) (pe_op op_modN (pv 2) (pv 3)))
      (pss_cons (ps_set (i := 2) scFraction.nd rfl (Or.inl rfl) (pv 3))
      (pss_one (ps_set (i := 3) scFraction.nd rfl (Or.inl rfl) (pv 4))))))
      (pss_one (ps_ret (pe_lst (pa_cons (pe_op op_fdivN (pv 0) (pv 2)) (pa_cons (pe_op op_fdivN (pv 1) (pv 2)) pa_nil)))))))), ?_⟩
    refine ⟨_, rfl, _, rfl, ?_⟩
    refine while_at (fun σ H' => ∃ (c r : Nat) (v : Option V), σ = [some (.int (a : Int)), some (.int (b : Int)), some (.int (c : Int)), some (.int (r : Int)), v] ∧ H' = H ∧ 0 < c ∧ Nat.gcd r c = Nat.gcd a b) (numAt 3)
      ⟨b, a, none, rfl, rfl, hb, rfl⟩ ?_
    rintro σ H' ⟨c, r, v, rfl, rfl, hc, hg⟩
    refine ⟨_, rfl, _, _, rfl, rfl, _, rfl, ?_⟩
    refine ite2 (fun e => ?_) (fun e => ?_)
    · have hr0 : 0 < r := by simp at e; omega
      refine ⟨_, fun _ _ z => z, ?_⟩
      refine ⟨_, rfl, _, rfl, _, _, rfl, rfl, (by omega), _, rfl, _, rfl, ?_⟩
      have hm := Nat.mod_lt c hr0
      refine ⟨c % r, ?_, ?_, r, c % r, some (.int ((c % r : Nat) : Int)), ?_, rfl, hr0, ?_⟩
      · show c % r < Int.toNat r
        omega
      · show c % r = Int.toNat ((c : Int).fmod (r : Int))
        rw [fmod_nat]
        omega
      · show ([some (.int (a : Int)), some (.int (b : Int)), some (.int (r : Int)), some (.int ((c : Int).fmod (r : Int))), some (.int ((c : Int).fmod (r : Int)))] : L2.St) = _
        rw [fmod_nat]
      · rw [← hg, Nat.gcd_rec r c]
    · have hr0 : r = 0 := by simp at e; omega
      subst hr0
      rw [Nat.gcd_zero_left] at hg
      have hbz : (0 : Int) < (b : Int) := by omega
      have hcb : c ≤ b := by
        rw [hg]
        exact Nat.gcd_le_right _ hb
      have e1 : (a : Int).fdiv (c : Int) = (Kp340.fr a b).1 := by
        rw [fr_eq hbz, Int.fdiv_eq_ediv_of_nonneg _ (by omega)]
        show _ = (a : Int) / ((Nat.gcd (a : Int).natAbs (b : Int).natAbs : Nat) : Int)
        rw [Int.natAbs_natCast, Int.natAbs_natCast, ← hg]
      have e2 : (b : Int).fdiv (c : Int) = (Kp340.fr a b).2 := by
        rw [fr_eq hbz, Int.fdiv_eq_ediv_of_nonneg _ (by omega)]
        show _ = (b : Int) / ((Nat.gcd (a : Int).natAbs (b : Int).natAbs : Nat) : Int)
        rw [Int.natAbs_natCast, Int.natAbs_natCast, ← hg]
      refine ⟨_, rfl, _, rfl, _, _, rfl, rfl, ⟨by omega, by omega⟩, _, rfl, _, rfl, _, _, rfl, rfl, ⟨by omega, by omega⟩, ?_⟩
      refine ⟨(by show 2 ≤ sizeLine; decide), fun p hp => ?_⟩
      show Q (.ref p) (upd H' p (.lst [.int ((a : Int).fdiv (c : Int)), .int ((b : Int).fdiv (c : Int))]))
      rw [e1, e2]
      exact k p hp
end
end Sg

namespace Sg
open PySem PySem.Spec PyProof.Rows L2
open Kp365 (nodeAt isTrue)
theorem head_filterMap {α : Type} (p : α → Bool) : ∀ (l : List α), (l.filterMap fun x => if p x then some x else none)[0]? = l.find? p
  | [] => rfl
  | x :: r => by
    by_cases h : p x = true
    · rw [List.filterMap_cons_some (by rw [if_pos h]), List.find?_cons_of_pos h]
      rfl
    · rw [List.filterMap_cons_none (by rw [if_neg h]), List.find?_cons_of_neg h]
      exact head_filterMap p r
theorem filterMap_map' {α β γ : Type} (f : β → Option γ) (g : α → β) (l : List α) : (l.map g).filterMap f = l.filterMap fun x => f (g x) := by
  rw [List.filterMap_map]
  rfl
/-- the picks of a list of numbers, as values -/
theorem picks_eq (q : Nat → Bool) : ∀ (l : List Nat), (l.map fun (k : Nat) => V.int (k : Int)).filterMap (fun x => match x with | .int z => if q z.toNat then some (V.int z) else none | _ => none) = (l.filterMap fun k => if q k then some k else none).map fun (k : Nat) => V.int (k : Int)
  | [] => rfl
  | x :: r => by
    rw [List.map_cons]
    by_cases h : q x = true
    · rw [List.filterMap_cons_some (by show (if q (Int.toNat (x : Int)) = true then some (V.int (x : Int)) else none) = some (V.int (x : Int)); rw [Int.toNat_natCast, if_pos h]), List.filterMap_cons_some (b := x) (by rw [if_pos h]), List.map_cons, picks_eq q r]
    · rw [List.filterMap_cons_none (by show (if q (Int.toNat (x : Int)) = true then some (V.int (x : Int)) else none) = none; rw [Int.toNat_natCast, if_neg h]), List.filterMap_cons_none (by rw [if_neg h]), picks_eq q r]
def spEndOf (C : Addr) : Sp := fun vs H Q _ => ∃ (l : Addr) (d : Kp366.Desk) (i : Nat), vs = [.ref l, .int (i : Int)] ∧ TreeAt C H l d ∧ WFT d.tree ∧ i < d.tree.nodes.length ∧
  ∀ H', Same H H' → Q (.int (Kp367.leafOf d i : Nat)) H'
section
variable {P : Program} {w : World} {K : PySem.W.Frag} {mg : Str → Option Value} {base : Heap}
theorem ok_EndOf (T : Tx K mg) : FnOk P w K mg base CX0 4 T.fEndOf T.dEndOf ["nodes", "i"] (spEndOf T.cNode) := by
  have GAllHeld := ok_AllHeld (P := P) (w := w) (base := base) T
  have GReadsNow := ok_ReadsNow (P := P) (w := w) (base := base) T
  refine T.FEndOf.ok scEndOf (fun vs H Q E h => ?_) (fun cdv A outer s H vs Q E hr h => ?_)
  · obtain ⟨l, d, i, rfl, _⟩ := h
    rfl
  · obtain ⟨l, d, i, rfl, hT, wf, hi, k⟩ := h
    refine ⟨_, (pss_cons (ps_set (i := 2) scEndOf.nd rfl (Or.inr rfl) (pe_call GAllHeld (hr.mono (by decide)) rfl T.gAllHeld T.FAllHeld.kp T.bAllHeld .nil pass0 (pa_cons (pv 0) (pa_cons (pe_call GReadsNow (hr.mono (by decide)) rfl T.gReadsNow T.FReadsNow.kp T.bReadsNow .nil pass0 (pa_cons (pv 0) pa_nil)) pa_nil))))
      (pss_cons (ps_set (i := 3) scEndOf.nd rfl (Or.inl rfl) (pv 1))
      (pss_cons (ps_while PassesOwn.never (pt_cmpR op_ne (pe_fld (pe_ix ix_list (pv 0) (pv 3) (fun _ _ => rfl)) rfl) (pe_glob (v := V.int (0)) rfl T.gLEAF ⟨_, rfl⟩) (nomark _)) (pss_cons (ps_set (i := 4) scEndOf.nd rfl (Or.inr rfl) (pe_ix ix_list (pv 2) (pv 3) (fun _ _ => rfl)))
      (pss_one (ps_set (i := 3) scEndOf.nd rfl (Or.inl rfl) (pe_ix ix_list (pe_lc (own := [("child", 5)]) (g := gName 5)  rfl scEndOf.nd (pi_list (pe_fld (pe_ix ix_list (pv 0) (pv 3) (fun _ _ => rfl)) rfl)) (blkOk_by (own := [("child", 5)]) (N := ["nodes", "i", "held", "at", "best", "child"]) (sc := defScope sEndOf) (by decide +kernel)) (fun _ _ _ _ _ => pg_name (i := 5) scEndOf.nd rfl (Or.inl rfl)) (fun _ _ _ _ _ => pts_one (pt_cmpR op_eq (pe_ix (ix_listK K) (pv 2) (pv 5) (fun _ _ => rfl)) (pv 4) (nomark _))) (fun _ _ _ _ _ => (pv 5))) pe_int (fun _ _ => rfl))))))
      (pss_one (ps_ret (pv 3)))))), ?_⟩
    refine ⟨_, rfl, _, rfl, l, d, rfl, hT, wf.len, fun H3 r s3 hr3 h3 => ?_⟩
    refine ⟨l, r, d, d.thrice, rfl, hT.same s3, wf, h3, fun H1 p s1' hp h1 => ?_⟩
    have s1 := s3.trans s1'
    refine ⟨_, rfl, ?_⟩
    refine while_at (fun σ H' => ∃ (j : Nat) (v : Option V), σ = [some (.ref l), some (.int (i : Int)), some (.ref p), some (.int (j : Int)), v, none] ∧ Same H1 H' ∧ j < d.tree.nodes.length ∧ Kp367.leafOf d j = Kp367.leafOf d i) (numAt 3)
      ⟨i, none, rfl, Same.refl _, hi, rfl⟩ ?_
    rintro σ H' ⟨j, v, rfl, s2, hj, ej⟩
    obtain ⟨as, hl, hlen, hn⟩ := hT.same (s1.trans s2)
    obtain ⟨a, ha⟩ : ∃ a, as[j]? = some a := ⟨_, List.getElem?_eq_getElem (by omega)⟩
    obtain ⟨dx, c, ha1, hc1⟩ := hn j a ha
    refine ⟨_, rfl, _, rfl, l, _, _, _, rfl, rfl, SqL.of hl, atI_nat (v := V.ref a) (by rw [List.getElem?_map, ha]; rfl), a, T.cNode, dx, _, _, rfl, ha1, T.clNode, T.nNode_kind, nF_kind, rfl, _, rfl, ?_⟩
    refine ite2 (fun e => ?_) (fun e => ?_)
    · have hk0 : (nodeAt d.tree j).kind ≠ 0 := fun q => by simp [q] at e
      refine ⟨_, fun _ _ z => z, ?_⟩
      refine ⟨_, rfl, _, rfl, p, _, _, _, rfl, rfl, SqL.of (s2 _ _ h1), atI_nat (v := V.int (hI d d.thrice j)) (by rw [List.getElem?_map, hdL_get hj]; rfl), ?_⟩
      refine ⟨_, rfl, _, rfl, l, _, _, _, rfl, rfl, SqL.of hl, atI_nat (v := V.ref a) (by rw [List.getElem?_map, ha]; rfl), a, T.cNode, dx, _, _, rfl, ha1, T.clNode, T.nNode_children, nF_children, c, rfl, ⟨_, SqL.of hc1⟩, fun D hD => ?_⟩
      refine lc_fm (K := K) (a := c) (f := fun x => match x with | .int z => if decide (hI d d.thrice z.toNat = hI d d.thrice j) then some (V.int z) else none | _ => none) hD ?_ (SqL.of hc1) (fun m x H6 R1 R0 hm s6 k1 k0 => ?_) (fun H6 s6 hD6 => ?_)
      · rw [List.length_map]
        exact Nat.le_trans (wf.klen j) (by decide)
      · obtain ⟨z, hz, rfl⟩ := nat_at hm
        have hzj := wf.kids j z (List.mem_of_getElem? hz)
        refine ⟨rfl, _, rfl, _, rfl, p, _, _, _, rfl, rfl, SqL.of (s6 _ _ (s2 _ _ h1)), atI_nat (v := V.int (hI d d.thrice z)) (by rw [List.getElem?_map, hdL_get (by omega)]; rfl), _, rfl, rfl, _, rfl, ?_⟩
        refine ite2 (fun e1 => ?_) (fun e1 => ?_)
        · have e1 : hI d d.thrice z = hI d d.thrice j := by simpa using e1
          exact ⟨_, rfl, k1 _ (by simp [e1]) _ (Same.refl _)⟩
        · have e1 : ¬ hI d d.thrice z = hI d d.thrice j := by simpa using e1
          exact k0 (by simp [e1]) _ (Same.refl _)
      · obtain ⟨kk, hkk⟩ := pick_isSome wf hk0
        have hlt := pick_lt wf hkk
        have hp6 : ((nodeAt d.tree j).kids.filterMap fun k => if decide (hI d d.thrice k = hI d d.thrice j) then some k else none)[0]? = some kk := by
          rw [head_filterMap, ← pick_eq wf j hk0]
          exact hkk
        rw [picks_eq (fun k => decide (hI d d.thrice k = hI d d.thrice j))] at hD6
        refine ⟨D, _, _, _, rfl, rfl, SqL.of hD6, atI_nat (j := 0) (v := V.int (kk : Int)) (by rw [List.getElem?_map, hp6]; rfl), ?_⟩
        refine ⟨kk, ?_, ?_, kk, _, rfl, s2.trans s6, ?_, ?_⟩
        · show kk < Int.toNat (j : Int)
          omega
        · show kk = Int.toNat (kk : Int)
          omega
        · omega
        · rw [← ej, leafOf_pick wf hkk]
    · have hk0 : (nodeAt d.tree j).kind = 0 := by simp at e; omega
      rw [leafOf_leaf hk0] at ej
      subst ej
      exact ⟨_, rfl, k _ (s1.trans s2)⟩
end
end Sg

namespace Sg
open PySem PySem.Spec PyProof.Rows L2
open Kp365 (nodeAt isTrue)
theorem filterMap_some_map {α β γ : Type} (f : α → Option β) (g : β → γ) (l : List α) : (l.filterMap fun x => (f x).map g) = (l.filterMap f).map g := by
  rw [List.map_filterMap]
def spCost (C : Addr) : Sp := fun vs H Q _ => ∃ (l : Addr) (d : Kp366.Desk), vs = [.ref l] ∧ TreeAt C H l d ∧ d.tree.nodes.length ≤ 20 ∧
  ∀ H', Same H H' → Q (.int (Kp366.costOf d d.thrice : Nat)) H'
def spIsChild (C : Addr) : Sp := fun vs H Q _ => ∃ (l : Addr) (d : Kp366.Desk) (i : Nat), vs = [.ref l, .int (i : Int)] ∧ TreeAt C H l d ∧ WFT d.tree ∧
  ∀ H', Same H H' → Q (.bl (d.tree.nodes.any fun n => n.kids.contains i)) H'
def spMayBe (K : PySem.W.Frag) (C : Addr) : Sp := fun vs H Q _ => ∃ (l r : Addr) (d : Kp366.Desk) (ks : List Nat), vs = [.ref l, .ref r] ∧ TreeAt C H l d ∧ WFT d.tree ∧ SqL K H r (ks.map fun (k : Nat) => V.int (k : Int)) ∧ ks.length ≤ 1000 ∧
  ∀ H', Same H H' → Q (.bl (Kp365.okKids d.tree ks)) H'
def spAreNodes (K : PySem.W.Frag) (C : Addr) : Sp := fun vs H Q _ => ∃ (l r : Addr) (d : Kp366.Desk) (ks : List Nat), vs = [.ref l, .ref r] ∧ TreeAt C H l d ∧ SqL K H r (ks.map fun (k : Nat) => V.int (k : Int)) ∧ ks.length ≤ 1000 ∧
  ∀ H', Same H H' → Q (.bl (Kp366.okClaims d ks)) H'
theorem by_places (f : Nat → Bool) (ks : List Nat) : (List.range ks.length).map (fun j => V.bl (f (ks.getD j 0))) = (ks.map f).map V.bl := by
  apply List.ext_getElem?
  intro i
  rw [List.getElem?_map, List.getElem?_map, List.getElem?_map]
  rcases Nat.lt_or_ge i ks.length with h | h
  · rw [List.getElem?_range h, List.getElem?_eq_getElem h]
    simp [h]
  · rw [List.getElem?_eq_none (by simpa using h), List.getElem?_eq_none h]
    rfl
theorem okKids_eq (d : Kp366.Desk) (ks : List Nat) : Kp365.okKids d.tree ks = (Kp366.okClaims d ks && !ks.any fun i => d.tree.nodes.any fun n => n.kids.contains i) := by
  unfold Kp365.okKids Kp366.okClaims Kp365.free
  have : ∀ (l : List Nat) (p q : Nat → Bool), (l.all fun i => p i && !q i) = (l.all p && !l.any q) := by
    intro l p q
    induction l with
    | nil => rfl
    | cons x r ih =>
      rw [List.all_cons, List.all_cons, List.any_cons, ih]
      cases p x <;> cases q x <;> cases r.all p <;> cases r.any q <;> rfl
  rw [this, Bool.and_assoc, Bool.and_assoc, Bool.and_assoc, Bool.and_assoc, Bool.and_assoc]
theorem inV_kids (i : Nat) : ∀ (l : List Nat), inV (.int (i : Int)) (l.map fun (k : Nat) => V.int (k : Int)) = l.contains i
  | [] => rfl
  | x :: r => by
    have ih := inV_kids i r
    unfold inV at ih ⊢
    rw [List.map_cons, List.any_cons, ih, List.contains_cons]
    congr 1
    show ((x : Int) == (i : Int)) = (i == x)
    rw [Bool.eq_iff_iff]
    simp
    omega
theorem flat_kids : ∀ (l : List Nat), (l.map fun (k : Nat) => V.int (k : Int)).all flatV = true
  | [] => rfl
  | _ :: r => by
    rw [List.map_cons, List.all_cons, flat_kids r]
    rfl
section
variable {P : Program} {w : World} {K : PySem.W.Frag} {mg : Str → Option Value} {base : Heap}
theorem ok_CostOfAll (T : Tx K mg) : FnOk P w K mg base CX0 1 T.fCostOfAll T.dCostOfAll ["nodes"] (spCost T.cNode) := by
  refine T.FCostOfAll.ok scCostOfAll (fun vs H Q E h => ?_) (fun cdv A outer s H vs Q E hr h => ?_)
  · obtain ⟨l, d, rfl, _⟩ := h
    rfl
  · obtain ⟨l, d, rfl, hT, h20, k⟩ := h
    refine ⟨_, (pss_one (ps_ret (pe_callB (cr_sum rfl) (by rfl) T.b_sum (by decide +kernel) (pa_cons (pe_lc (own := [("node", 1)]) (g := gName 1)  rfl scCostOfAll.nd (pi_list (pv 0)) (blkOk_by (own := [("node", 1)]) (N := ["nodes", "node"]) (sc := defScope sCostOfAll) (by decide +kernel)) (fun _ _ _ _ _ => pg_name (i := 1) scCostOfAll.nd rfl (Or.inl rfl)) (fun _ _ _ _ _ => pts_one (pt_val (fldK K (pv 1) rfl))) (fun _ _ _ _ _ => (fldK K (pv 1) rfl))) pa_nil)))), ?_⟩
    obtain ⟨as, hl, hlen, hn⟩ := id hT
    refine ⟨_, rfl, l, rfl, ⟨_, SqL.of hl⟩, fun D hD => ?_⟩
    refine lc_fi (K := K) (a := l) (fun j => if d.thrice.testBit j then some (V.int ((d.price.getD j 0 : Nat) : Int)) else none) hD (by rw [List.length_map, hlen]; omega) (SqL.of hl) (fun m x H6 R1 R0 hm s6 k1 k0 => ?_) (fun H6 s6 hD6 => ?_)
    · obtain ⟨a, ha, rfl⟩ := ref_at hm
      obtain ⟨dx, c, h1, h2⟩ := (hn m a ha).same s6
      refine ⟨rfl, _, rfl, a, T.cNode, dx, _, _, rfl, h1, T.clNode, T.nNode_thrice, nF_thrice, _, rfl, ?_⟩
      refine ite2 (fun e => ?_) (fun e => ?_)
      · exact ⟨_, rfl, a, T.cNode, dx, _, _, rfl, h1, T.clNode, T.nNode_price, nF_price, k1 _ (by rw [if_pos e]) _ (Same.refl _)⟩
      · exact k0 (by rw [if_neg e]) _ (Same.refl _)
    · rw [List.length_map, hlen] at hD6
      have e : (List.range d.tree.nodes.length).filterMap (fun j => if d.thrice.testBit j then some (V.int ((d.price.getD j 0 : Nat) : Int)) else none) = ((List.range d.tree.nodes.length).filterMap fun j => if d.thrice.testBit j then some ((d.price.getD j 0 : Nat) : Int) else none).map V.int := by
        rw [← filterMap_some_map]
        congr 1
        funext j
        split <;> rfl
      rw [e] at hD6
      refine ⟨D, _, rfl, SqL.of hD6, ?_⟩
      rw [← cost_sum]
      exact k _ s6
theorem ok_IsChild (T : Tx K mg) : FnOk P w K mg base CX0 1 T.fIsChild T.dIsChild ["nodes", "i"] (spIsChild T.cNode) := by
  refine T.FIsChild.ok scIsChild (fun vs H Q E h => ?_) (fun cdv A outer s H vs Q E hr h => ?_)
  · obtain ⟨l, d, i, rfl, _⟩ := h
    rfl
  · obtain ⟨l, d, i, rfl, hT, wf, k⟩ := h
    refine ⟨_, (pss_one (ps_ret (pe_callB (cr_any rfl) (by rfl) T.b_any (by decide +kernel) (pa_cons (pe_lc (own := [("node", 2)]) (g := gName 2) (tt := tYes) rfl scIsChild.nd (pi_list (pv 0)) (blkOk_by (own := [("node", 2)]) (N := ["nodes", "i", "node"]) (sc := defScope sIsChild) (by decide +kernel)) (fun _ _ _ _ _ => pg_name (i := 2) scIsChild.nd rfl (Or.inl rfl)) (fun _ _ _ _ _ => pts_nil) (fun _ _ _ _ _ => (pe_cmpR (op_in_seqK K) (pv 1) (fldK K (pv 2) rfl) (by with_unfolding_all rfl)))) pa_nil)))), ?_⟩
    obtain ⟨as, hl, hlen, hn⟩ := id hT
    have h20 := wf.len
    refine ⟨_, rfl, l, rfl, ⟨_, SqL.of hl⟩, fun D hD => ?_⟩
    refine lc_mi (K := K) (a := l) (fun j => V.bl ((nodeAt d.tree j).kids.contains i)) hD (by rw [List.length_map, hlen]; omega) (SqL.of hl) (fun m x H6 R1 hm s6 k1 => ?_) gm_name (fun H6 s6 hD6 => ?_)
    · obtain ⟨a, ha, rfl⟩ := ref_at hm
      obtain ⟨dx, c, h1, h2⟩ := (hn m a ha).same s6
      refine ⟨rfl, _, rfl, _, rfl, a, T.cNode, dx, _, _, rfl, h1, T.clNode, T.nNode_children, nF_children, c, _, rfl, .inl (SqL.of h2), rfl, flat_kids _, ?_⟩
      show R1 (V.bl (inV _ _)) H6
      rw [inV_kids]
      exact k1 _ (Same.refl _)
    · rw [List.length_map, hlen] at hD6
      refine ⟨D, (List.range d.tree.nodes.length).map fun j => (nodeAt d.tree j).kids.contains i, rfl, SqL.of (by rw [hD6, List.map_map]; rfl), ?_⟩
      rw [nodes_any d.tree fun n => n.kids.contains i]
      exact k _ s6
theorem ok_AreNodes (T : Tx K mg) : FnOk P w K mg base CX0 1 T.fAreNodes T.dAreNodes ["nodes", "row"] (spAreNodes K T.cNode) := by
  refine T.FAreNodes.ok scAreNodes (fun vs H Q E h => ?_) (fun cdv A outer s H vs Q E hr h => ?_)
  · obtain ⟨l, r, d, ks, rfl, _⟩ := h
    rfl
  · obtain ⟨l, r, d, ks, rfl, hT, hR, hlen, k⟩ := h
    refine ⟨_, (pss_cons (ps_if (PW.pt (pw_or (pt_cmpR op_lt (pe_callB call_len_seq (by rfl) T.b_len (by decide +kernel) (pa_cons (pv 1) pa_nil)) pe_int (nomark _)) (pw_or1 (pt_cmpR op_gt (pe_callB call_len_seq (by rfl) T.b_len (by decide +kernel) (pa_cons (pv 1) pa_nil)) (pe_glob (v := V.int (4)) rfl T.gMOST_IN_ROW ⟨_, rfl⟩) (nomark _))))) (pss_one (ps_ret pe_bl))
      pss_nil)
      (pss_cons (ps_if (pt_cmpR op_ne (pe_lenSetG rfl T.b_len rfl T.b_set (pv 1)) (pe_callB call_len_seq (by rfl) T.b_len (by decide +kernel) (pa_cons (pv 1) pa_nil)) (nomark _)) (pss_one (ps_ret pe_bl))
      pss_nil)
      (pss_one (ps_ret (pe_callB (cr_all rfl) (by rfl) T.b_all (by decide +kernel) (pa_cons (pe_lc (own := [("i", 2)]) (g := gName 2) (tt := tYes) rfl scAreNodes.nd (pi_list (pv 1)) (blkOk_by (own := [("i", 2)]) (N := ["nodes", "row", "i"]) (sc := defScope sAreNodes) (by decide +kernel)) (fun _ _ _ _ _ => pg_name (i := 2) scAreNodes.nd rfl (Or.inl rfl)) (fun _ _ _ _ _ => pts_nil) (fun _ _ _ _ _ => (pe_cmpR op_lt (pv 2) (pe_callB (call_len_seqK K) (by rfl) T.b_len (by decide +kernel) (pa_cons (pv 0) pa_nil)) (nomark _)))) pa_nil)))))), ?_⟩
    have kF : (Kp366.okClaims d ks = false) → ∀ H', Same H H' → Q (.bl false) H' := fun e H' s => e ▸ k H' s
    obtain ⟨as, hl, hlenA, hn⟩ := id hT
    have hmap : (ks.map fun (k : Nat) => V.int (k : Int)) = (ks.map fun (k : Nat) => (k : Int)).map V.int := by rw [List.map_map]; rfl
    refine ⟨_, rfl, r, _, rfl, .inl hR, _, _, rfl, rfl, _, rfl, ?_⟩
    rw [List.length_map]
    refine ite2 (fun e => ?_) (fun e => ?_)
    · have e : ks.length < 1 := by simp at e; omega
      refine iteT (kF ?_ H (Same.refl _))
      unfold Kp366.okClaims
      rw [decide_eq_false (by omega)]
      rfl
    refine ⟨_, rfl, r, _, rfl, .inl hR, _, _, rfl, rfl, _, rfl, ?_⟩
    rw [List.length_map]
    refine ite2 (fun e1 => ?_) (fun e1 => ?_)
    · have e1 : 4 < ks.length := by simp at e1; omega
      refine kF ?_ H (Same.refl _)
      unfold Kp366.okClaims
      rw [decide_eq_false (show ¬ ks.length ≤ 4 by omega)]
      simp
    have e : 1 ≤ ks.length := by simp at e; omega
    have e1 : ks.length ≤ 4 := by simp at e1; omega
    rw [hmap] at hR
    refine ⟨_, rfl, r, _, rfl, hR, by rw [List.length_map]; omega, _, rfl, r, _, rfl, .inl hR, rfl, _, rfl, ?_⟩
    rw [List.length_map, List.length_map]
    refine ite2 (fun e2 => ?_) (fun e2 => ?_)
    · have e2 : ¬ (diffs (ks.map fun (k : Nat) => (k : Int))).length = ks.length := fun q => by
        rw [q] at e2
        simp at e2
      rw [diffs_dups] at e2
      refine kF ?_ H (Same.refl _)
      unfold Kp366.okClaims
      simp [e2]
    have e2 : ks.eraseDups.length = ks.length := by
      rw [← diffs_dups]
      simp at e2
      omega
    rw [← hmap] at hR
    refine ⟨_, rfl, r, rfl, ⟨_, hR⟩, fun D hD => ?_⟩
    refine lc_mi (K := K) (a := r) (fun j => V.bl (Kp365.isNode d.tree (ks.getD j 0))) hD (by rw [List.length_map]; omega) hR (fun m x H6 R1 hm s6 k1 => ?_) gm_name (fun H6 s6 hD6 => ?_)
    · obtain ⟨z, hz, rfl⟩ := nat_at hm
      have hg : ks.getD m 0 = z := by rw [List.getD_eq_getElem?_getD, hz]; rfl
      rw [hg] at k1
      refine ⟨rfl, _, rfl, _, rfl, l, _, rfl, .inl (SqL.of (s6 _ _ hl)), _, _, rfl, rfl, ?_⟩
      have e3 : decide ((z : Int) < (((as.map V.ref).length : Nat) : Int)) = Kp365.isNode d.tree z := by
        unfold Kp365.isNode
        rw [List.length_map, hlenA]
        exact decide_eq_decide.mpr (by omega)
      show R1 (V.bl (decide ((z : Int) < (((as.map V.ref).length : Nat) : Int)))) H6
      rw [e3]
      exact k1 _ (Same.refl _)
    · rw [List.length_map, by_places (Kp365.isNode d.tree)] at hD6
      refine ⟨D, _, rfl, SqL.of hD6, ?_⟩
      have eK : (ks.map (Kp365.isNode d.tree)).all id = Kp366.okClaims d ks := by
        unfold Kp366.okClaims
        rw [decide_eq_true e, decide_eq_true e1, e2]
        simp
      rw [eK]
      exact k _ s6
theorem ok_MayBeChildren (T : Tx K mg) : FnOk P w K mg base CX0 2 T.fMayBeChildren T.dMayBeChildren ["nodes", "row"] (spMayBe K T.cNode) := by
  have GAreNodes := ok_AreNodes (P := P) (w := w) (base := base) T
  have GIsChild := ok_IsChild (P := P) (w := w) (base := base) T
  refine T.FMayBeChildren.ok scMayBeChildren (fun vs H Q E h => ?_) (fun cdv A outer s H vs Q E hr h => ?_)
  · obtain ⟨l, r, d, ks, rfl, _⟩ := h
    rfl
  · obtain ⟨l, r, d, ks, rfl, hT, wf, hR, hlen, k⟩ := h
    refine ⟨_, (pss_one (ps_ret (pe_and (pe_call GAreNodes (hr.mono (by decide)) rfl T.gAreNodes T.FAreNodes.kp T.bAreNodes .nil pass0 (pa_cons (pv 0) (pa_cons (pv 1) pa_nil))) (pe_one (pe_not (pe_callB (cr_any rfl) (by rfl) T.b_any (by decide +kernel) (pa_cons (pe_lc (own := [("i", 2)]) (g := gName 2) (tt := tYes) rfl scMayBeChildren.nd (pi_list (pv 1)) (blkOk_by (own := [("i", 2)]) (N := ["nodes", "row", "i"]) (sc := defScope sMayBeChildren) (by decide +kernel)) (fun _ _ _ _ _ => pg_name (i := 2) scMayBeChildren.nd rfl (Or.inl rfl)) (fun _ _ _ _ _ => pts_nil) (fun _ _ _ _ _ => (pe_call GIsChild (hr.mono (by decide)) rfl T.gIsChild T.FIsChild.kp T.bIsChild .nil pass0 (pa_cons (pv 0) (pa_cons (pv 2) pa_nil))))) pa_nil))))))), ?_⟩
    refine ⟨_, rfl, _, rfl, l, r, d, ks, rfl, hT, hR, hlen, fun H1 s1 => ⟨_, rfl, ?_⟩⟩
    have eK := okKids_eq d ks
    refine ite2 (fun e => ?_) (fun e => ?_)
    · rw [e, Bool.true_and] at eK
      refine ⟨_, rfl, r, rfl, ⟨_, s1.seq hR⟩, fun D hD => ?_⟩
      refine lc_mi (K := K) (a := r) (fun j => V.bl ((fun i => d.tree.nodes.any fun n => n.kids.contains i) (ks.getD j 0))) hD (by rw [List.length_map]; omega) (s1.seq hR) (fun m x H6 R1 hm s6 k1 => ?_) gm_name (fun H6 s6 hD6 => ?_)
      · obtain ⟨z, hz, rfl⟩ := nat_at hm
        have hg : ks.getD m 0 = z := by rw [List.getD_eq_getElem?_getD, hz]; rfl
        rw [hg] at k1
        exact ⟨rfl, _, rfl, _, rfl, l, d, z, rfl, (hT.same s1).same s6, wf, fun H7 s7 => k1 _ s7⟩
      · rw [List.length_map] at hD6
        have hD6 := hD6.trans (congrArg (fun l => some (HO.lst l)) (by_places (fun i => d.tree.nodes.any fun n => n.kids.contains i) ks))
        refine ⟨D, _, rfl, SqL.of hD6, _, rfl, ?_⟩
        have e2 : (!(ks.map fun i => d.tree.nodes.any fun n => n.kids.contains i).any id) = Kp365.okKids d.tree ks := by
          rw [eK, List.any_map]
          rfl
        rw [e2]
        exact k _ (s1.trans s6)
    · have e : Kp366.okClaims d ks = false := by simpa using e
      rw [e, Bool.false_and] at eK
      rw [eK] at k
      exact k _ s1
end
end Sg

namespace Sg
open PySem PySem.Spec PyProof.Rows L2
open Kp365 (nodeAt isTrue)
open PyFlat (put put1 putRows putRow okCall)
/-! ### slices -/
theorem cut_nat (xs : List V) (lo hi : Nat) (h : hi ≤ xs.length) : cutV xs (some (lo : Int)) (some (hi : Int)) = (xs.drop lo).take (hi - lo) := by
  unfold cutV
  rw [HT.sIx_nat, HT.sIx_nat, Nat.min_eq_left h]
  rcases Nat.lt_or_ge lo xs.length with h1 | h1
  · rw [Nat.min_eq_left (Nat.le_of_lt h1)]
  · rw [Nat.min_eq_right h1, List.drop_of_length_le h1, List.drop_of_length_le (Nat.le_refl _), List.take_nil, List.take_nil]
/-- a middle piece -/
theorem cut_mid (a b c : List Int) {lo hi : Int} (h1 : lo = (a.length : Int)) (h2 : hi = ((a.length + b.length : Nat) : Int)) : cutV ((a ++ (b ++ c)).map V.int) (some lo) (some hi) = b.map V.int := by
  subst h1 h2
  rw [cut_nat _ _ _ (by rw [List.length_map, List.length_append, List.length_append]; omega)]
  rw [show a.length + b.length - a.length = b.length by omega, ← List.map_drop, List.drop_left, ← List.map_take, List.take_left]
theorem at_mid (a : List Int) (x : Int) (c : List Int) {i : Int} (h : i = (a.length : Int)) : atI ((a ++ (x :: c)).map V.int) i = some (V.int x) := by
  subst h
  refine atI_nat ?_
  rw [List.getElem?_map, List.getElem?_append_right (Nat.le_refl _), Nat.sub_self]
  rfl
/-! ### the calls, one by one -/
/-- the tuples of the calls so far; f: where the list of them stands -/
def ToldAt (H0 H : Hp) (f : Addr) (ts : List Addr) (raw : List (List (List Int))) : Prop :=
  ts.length = raw.length ∧ ∀ (j : Nat) (t : Addr) (c : List (List Int)), ts[j]? = some t → raw[j]? = some c → H0 t = none ∧ ∃ ra p args, PyKp367.whole c = [p :: args] ∧ H0 ra = none ∧ ra ≠ f ∧ H t = some (.tup [.int p, .ref ra]) ∧ H ra = some (.lst (args.map V.int))
def spSplit (K : PySem.W.Frag) : Sp := fun vs H Q _ => ∃ (a : Addr) (raw : List (List (List Int))), vs = [.ref a] ∧ SqL K H a ((put raw).map V.int) ∧ (∀ c ∈ raw, okCall PyKp367.shape c) ∧ (put raw).length ≤ 540 ∧
  ∀ H' p ts, Same H H' → H p = none → H' p = some (.lst (ts.map V.ref)) → ToldAt H H' p ts raw → Q (.ref p) H'
theorem put_append : ∀ (a b : List (List (List Int))), put (a ++ b) = put a ++ put b
  | [], _ => rfl
  | c :: a, b => by
    show put1 c ++ put (a ++ b) = (put1 c ++ put a) ++ put b
    rw [put_append a b, List.append_assoc]
theorem raw_le : ∀ (raw : List (List (List Int))), (∀ c ∈ raw, okCall PyKp367.shape c) → raw.length ≤ (put raw).length
  | [], _ => Nat.le_refl _
  | c :: r, h => by
    obtain ⟨p, a, xs, rfl, _⟩ := h c (by simp)
    have ih := raw_le r fun c hc => h c (by simp [hc])
    show r.length + 1 ≤ (((p :: a) ++ putRows xs) ++ put r).length
    rw [List.length_append, List.length_append, List.length_cons]
    omega
section
variable {P : Program} {w : World} {K : PySem.W.Frag} {mg : Str → Option Value} {base : Heap}
theorem ok_SplitCalls (T : Tx K mg) : FnOk P w K mg base CX0 1 T.fSplitCalls T.dSplitCalls ["calls"] (spSplit K) := by
  refine T.FSplitCalls.ok scSplitCalls (fun vs H Q E h => ?_) (fun cdv A outer s H vs Q E hr h => ?_)
  · obtain ⟨a, raw, rfl, _⟩ := h
    rfl
  · obtain ⟨a, raw, rfl, hS, hok, hlen, k⟩ := h
    refine ⟨_, (pss_cons (ps_set (i := 1) scSplitCalls.nd rfl (Or.inl rfl) (pe_lst pa_nil))
      (pss_cons (ps_set (i := 2) scSplitCalls.nd rfl (Or.inl rfl) pe_int)
      (pss_cons (ps_while PassesOwn.never (pt_cmpR op_lt (pv 2) (pe_callB call_len_seq (by rfl) T.b_len (by decide +kernel) (pa_cons (pv 0) pa_nil)) (nomark _)) (pss_cons (ps_set (i := 3) scSplitCalls.nd rfl (Or.inl rfl) (pe_ix ix_list (pv 0) (pv 2) (fun _ _ => rfl)))
      (pss_cons (ps_set (i := 4) scSplitCalls.nd rfl (Or.inl rfl) (pe_op op_add (pe_op op_add (pv 2) pe_int) (pe_ix ix_tup (pe_glob (v := V.ref T.aPLAIN_NUMBERS) rfl T.gPLAIN_NUMBERS rfl) (pv 3) (fun _ _ => rfl))))
      (pss_cons (ps_set (i := 5) scSplitCalls.nd rfl (Or.inl rfl) (pe_slice sl_list (pv 0) (po_some (pe_op op_add (pv 2) pe_int)) (po_some (pv 4))))
      (pss_cons (ps_set (i := 2) scSplitCalls.nd rfl (Or.inl rfl) (pv 4))
      (pss_cons (ps_if (pt_cmpR op_in_seq (pv 3) (pe_glob (v := V.ref T.aWITH_A_ROW) rfl T.gWITH_A_ROW rfl) (by with_unfolding_all rfl)) (pss_cons (ps_set (i := 2) scSplitCalls.nd rfl (Or.inl rfl) (pe_op op_add (pe_op op_add (pv 4) pe_int) (pe_ix ix_list (pv 0) (pv 4) (fun _ _ => rfl))))
      (pss_one (ps_set (i := 5) scSplitCalls.nd rfl (Or.inl rfl) (pe_op op_cat (pv 5) (pe_slice sl_list (pv 0) (po_some (pe_op op_add (pv 4) pe_int)) (po_some (pv 2)))))))
      pss_nil)
      (pss_one (ps_expr (pe_bm PySem.F.plainAttrs_list PySem.F.slot_list_append PySem.F.type_list_append mt_append (pv 1) (pa_cons (pe_tup (pa_cons (pv 3) (pa_cons (pv 5) pa_nil))) pa_nil))))))))))
      (pss_one (ps_ret (pv 1)))))), ?_⟩
    refine ⟨Nat.zero_le _, fun f hf => ?_⟩
    have s0 : Same H (upd H f (.lst [])) := Same.new hf
    refine while_at (fun σ H' => ∃ (r1 r2 : List (List (List Int))) (ts : List Addr) (v3 v4 v5 : Option V), raw = r1 ++ r2 ∧ σ = [some (.ref a), some (.ref f), some (.int (((put r1).length : Nat) : Int)), v3, v4, v5] ∧ Same H H' ∧ H' f = some (.lst (ts.map V.ref)) ∧ ToldAt H H' f ts r1) (fun σ => (put raw).length - numAt 2 σ)
      ⟨[], raw, [], none, none, none, rfl, rfl, s0, upd_same, rfl, fun j t c e => by simp at e⟩ ?_
    rintro σ H' ⟨r1, r2, ts, v3, v4, v5, hraw, rfl, s1, hf1, hto⟩
    have hS1 := s1.seq hS
    refine ⟨_, rfl, _, rfl, a, _, rfl, .inl hS1, _, _, rfl, rfl, _, rfl, ?_⟩
    rw [List.length_map]
    refine ite2 (fun e => ?_) (fun e => ?_)
    · have e : (put r1).length < (put raw).length := by simp at e; omega
      match r2, hraw with
      | [], hraw => rw [List.append_nil] at hraw; subst hraw; omega
      | c :: r2, hraw =>
        obtain ⟨p, ar, xs, rfl, hsh⟩ := hok c (by rw [hraw]; simp)
        obtain ⟨q, rfl, hq, hpl, hrow⟩ := shape_lt hsh
        have hw := whole_eq hsh
        have hput : put raw = put r1 ++ ((q : Int) :: (ar ++ (putRows xs ++ put r2))) := by
          rw [hraw, put_append]
          show put r1 ++ (((q : Int) :: ar) ++ putRows xs ++ put r2) = _
          rw [List.append_assoc]
          rfl
        have hput2 : put raw = (put r1 ++ [(q : Int)]) ++ (ar ++ (putRows xs ++ put r2)) := by
          rw [hput, List.append_assoc]
          rfl
        refine ⟨_, fun _ _ z => z, ?_⟩
        -- number = calls[place]
        refine ⟨_, rfl, _, rfl, a, _, _, _, rfl, rfl, hS1, (by rw [hput]; exact at_mid _ _ _ rfl), ?_⟩
        -- row_at = place + 1 + PLAIN_NUMBERS[number]
        refine ⟨_, rfl, _, _, rfl, rfl, _, rfl, T.aPLAIN_NUMBERS, _, _, _, rfl, rfl, T.sPLAIN_NUMBERS _, atI_nat (v := V.int ((ar.length : Nat) : Int)) (by rw [List.getElem?_map]; exact congrArg (Option.map V.int) hpl), _, _, rfl, rfl, ?_⟩
        -- args = calls[place + 1:row_at]
        refine ⟨_, rfl, _, rfl, _, _, rfl, rfl, _, rfl, _, rfl, _, rfl, a, _, rfl, hS1, fun g hg => ?_⟩
        have hcut : cutV ((put raw).map V.int) (some ((((put r1).length : Nat) : Int) + 1)) (some ((((put r1).length : Nat) : Int) + 1 + ((ar.length : Nat) : Int))) = ar.map V.int := by
          rw [hput2]
          refine cut_mid _ _ _ ?_ ?_
          · rw [List.length_append]; simp
          · rw [List.length_append]; simp
        rw [hcut]
        have fg : f ≠ g := ne_of_none hf1 hg
        have done : ∀ (H2 : Hp) (g2 t : Addr), Same H' H2 → H' g2 = none → H2 g2 = some (.lst ((ar ++ xs.flatten).map V.int)) → H2 t = none →
            Same H (upd (upd H2 t (.tup [.int (q : Int), .ref g2])) f (.lst (ts.map V.ref ++ [V.ref t]))) ∧ (upd (upd H2 t (.tup [.int (q : Int), .ref g2])) f (.lst (ts.map V.ref ++ [V.ref t]))) f = some (.lst ((ts ++ [t]).map V.ref)) ∧
            ToldAt H (upd (upd H2 t (.tup [.int (q : Int), .ref g2])) f (.lst (ts.map V.ref ++ [V.ref t]))) f (ts ++ [t]) (r1 ++ [((q : Int) :: ar) :: xs]) := by
          intro H2 g2 t s2 n2 hg2 ht
          have hf2 := s2 _ _ hf1
          have ft : f ≠ t := ne_of_none hf2 ht
          have fg2 : f ≠ g2 := ne_of_none hf1 n2
          have gt : g2 ≠ t := ne_of_none hg2 ht
          have sA : Same H2 (upd H2 t (.tup [.int (q : Int), .ref g2])) := Same.new ht
          refine ⟨same_upd hf ((s1.trans s2).trans sA), ?_, ?_, ?_⟩
          · rw [upd_same, List.map_append]
            rfl
          · rw [List.length_append, List.length_append, hto.1]
            rfl
          · intro j u c hj hc
            rcases Nat.lt_or_ge j ts.length with hlt | hge
            · rw [List.getElem?_append_left hlt] at hj
              rw [List.getElem?_append_left (by rw [← hto.1]; exact hlt)] at hc
              obtain ⟨z1, ra, p, args, z2, z3, z4, z5, z6⟩ := hto.2 j u c hj hc
              refine ⟨z1, ra, p, args, z2, z3, z4, ?_, ?_⟩
              · have hu := s2 _ _ z5
                rw [upd_ne (ne_of hu hf2 (by intro z; cases z)), upd_ne (ne_of_none hu ht)]
                exact hu
              · have hu := s2 _ _ z6
                rw [upd_ne z4, upd_ne (ne_of_none hu ht)]
                exact hu
            · rw [List.getElem?_append_right hge] at hj
              rw [List.getElem?_append_right (by rw [← hto.1]; exact hge)] at hc
              have hj0 : j - ts.length = 0 := by
                have := (List.getElem?_eq_some_iff.mp hj).1
                simp at this
                omega
              rw [← hto.1, hj0] at hc
              rw [hj0] at hj
              cases hj
              cases hc
              refine ⟨(s1.trans s2).free ht, g2, _, _, hw, s1.free n2, fg2.symm, ?_, ?_⟩
              · rw [upd_ne ft.symm, upd_same]
              · rw [upd_ne fg2.symm, upd_ne gt]
                exact hg2
        have tslen : (ts.map V.ref).length < sizeLine := by
          rw [List.length_map, hto.1]
          have h1 : r1.length ≤ (put r1).length := raw_le r1 fun c hc => hok c (by rw [hraw]; simp [hc])
          exact Nat.lt_of_le_of_lt (show r1.length ≤ 540 by omega) (by decide)
        have sg : Same H' (upd H' g (.lst (ar.map V.int))) := Same.new hg
        have inV1 : inV (.int (q : Int)) (([2, 3, 14, 15] : List Int).map V.int) = decide (q = 2 ∨ q = 3 ∨ q = 14 ∨ q = 15) := by
          have key : ∀ q : Fin 27, inV (.int (q.1 : Int)) (([2, 3, 14, 15] : List Int).map V.int) = decide (q.1 = 2 ∨ q.1 = 3 ∨ q.1 = 14 ∨ q.1 = 15) := by decide +kernel
          exact key ⟨q, hq⟩
        -- place = row_at; if number in WITH_A_ROW
        refine ⟨_, rfl, _, rfl, T.aWITH_A_ROW, _, rfl, .inr (T.sWITH_A_ROW _), rfl, by decide +kernel, _, rfl, ?_⟩
        show if (inV (.int (q : Int)) (([2, 3, 14, 15] : List Int).map V.int)) = true then _ else _
        rw [inV1]
        have hpl1 : put (r1 ++ [((q : Int) :: ar) :: xs]) = put r1 ++ ((q : Int) :: ar ++ putRows xs) := by
          rw [put_append]
          show put r1 ++ (((q : Int) :: ar ++ putRows xs) ++ []) = _
          rw [List.append_nil]
        have hlt : ∀ x : Nat, x = (put (r1 ++ [((q : Int) :: ar) :: xs])).length → (put raw).length - x < (put raw).length - (put r1).length := by
          intro x hx
          rw [hpl1, List.length_append, List.length_append, List.length_cons] at hx
          omega
        refine ite2 (fun e1 => ?_) (fun e1 => ?_)
        · have hx1 : xs.length = 1 := by
            rcases hrow with z | z
            · exact z.1
            · exact absurd (of_decide_eq_true e1) z.2
          obtain ⟨r, rfl⟩ : ∃ r, xs = [r] := by
            match xs, hx1 with
            | [r], _ => exact ⟨r, rfl⟩
          have hput3 : put raw = (put r1 ++ [(q : Int)] ++ ar) ++ ((r.length : Int) :: (r ++ put r2)) := by
            rw [hput2, List.append_assoc (put r1 ++ [(q : Int)])]
            show _ ++ (ar ++ (((r.length : Int) :: r ++ []) ++ put r2)) = _
            rw [List.append_nil]
            rfl
          have hput4 : put raw = (put r1 ++ [(q : Int)] ++ ar ++ [(r.length : Int)]) ++ (r ++ put r2) := by
            rw [hput3, List.append_assoc (put r1 ++ [(q : Int)] ++ ar)]
            rfl
          have hS2 := sg.seq hS1
          refine ⟨_, rfl, _, _, rfl, rfl, _, rfl, _, rfl, a, _, _, _, rfl, rfl, hS2, (by rw [hput3]; exact at_mid _ _ _ (by rw [List.length_append, List.length_append]; simp)), _, _, rfl, rfl, ?_⟩
          refine ⟨_, rfl, _, rfl, _, rfl, _, _, rfl, rfl, _, rfl, _, rfl, _, rfl, a, _, rfl, hS2, fun g3 hg3 => ?_⟩
          have hcut2 : cutV ((put raw).map V.int) (some ((((put r1).length : Nat) : Int) + 1 + ((ar.length : Nat) : Int) + 1)) (some ((((put r1).length : Nat) : Int) + 1 + ((ar.length : Nat) : Int) + 1 + ((r.length : Nat) : Int))) = r.map V.int := by
            rw [hput4]
            refine cut_mid _ _ _ ?_ ?_
            · simp
              omega
            · simp
              omega
          rw [hcut2]
          have gg3 : g ≠ g3 := fun z => by
            rw [← z, upd_same] at hg3
            cases hg3
          have n3 : H' g3 = none := by
            rw [upd_ne gg3.symm] at hg3
            exact hg3
          have sg3 : Same (upd H' g (.lst (ar.map V.int))) (upd (upd H' g (.lst (ar.map V.int))) g3 (.lst (r.map V.int))) := Same.new hg3
          have hsz : ar.length + r.length ≤ 540 := by
            have := congrArg List.length hput4
            simp at this
            omega
          refine ⟨g, g3, _, _, rfl, rfl, sg3 _ _ upd_same, upd_same, ?_, fun g4 hg4 => ?_⟩
          · rw [List.length_map, List.length_map]
            exact Nat.le_of_lt (Nat.lt_of_le_of_lt hsz (by decide))
          have s4 : Same H' (upd (upd (upd H' g (.lst (ar.map V.int))) g3 (.lst (r.map V.int))) g4 (.lst (ar.map V.int ++ r.map V.int))) := (sg.trans sg3).trans (Same.new hg4)
          refine ⟨_, rfl, .inl ⟨rfl, _, SqL.of (s4 _ _ hf1)⟩, _, rfl, _, rfl, (by show 2 ≤ sizeLine; decide), fun t ht => ?_⟩
          refine ⟨f, _, _, rfl, rfl, ?_, tslen, ?_⟩
          · rw [upd_ne (ne_of_none (s4 _ _ hf1) ht)]
            exact s4 _ _ hf1
          obtain ⟨d1, d2, d3⟩ := done _ g4 t s4 ((sg.trans sg3).free hg4) (by rw [upd_same]; simp) ht
          refine ⟨_, ?_, rfl, r1 ++ [((q : Int) :: ar) :: [r]], r2, ts ++ [t], some (.int (q : Int)), some (.int ((((put r1).length : Nat) : Int) + 1 + ((ar.length : Nat) : Int))), some (.ref g4), by rw [hraw, List.append_assoc]; rfl, ?_, d1, d2, d3⟩
          · refine hlt _ ?_
            show Int.toNat ((((put r1).length : Nat) : Int) + 1 + ((ar.length : Nat) : Int) + 1 + ((r.length : Nat) : Int)) = _
            rw [hpl1]
            simp [putRows, putRow]
            omega
          · have e2 : (((put r1).length : Nat) : Int) + 1 + ((ar.length : Nat) : Int) + 1 + ((r.length : Nat) : Int) = (((put (r1 ++ [((q : Int) :: ar) :: [r]])).length : Nat) : Int) := by
              rw [hpl1]
              simp [putRows, putRow]
              omega
            rw [← e2]
            rfl
        · have hx0 : xs = [] := by
            rcases hrow with z | z
            · exact absurd (decide_eq_true z.2) e1
            · exact List.length_eq_zero_iff.mp z.1
          subst hx0
          refine ⟨_, rfl, .inl ⟨rfl, _, SqL.of (sg _ _ hf1)⟩, _, rfl, _, rfl, (by show 2 ≤ sizeLine; decide), fun t ht => ?_⟩
          refine ⟨f, _, _, rfl, rfl, ?_, tslen, ?_⟩
          · rw [upd_ne (ne_of_none (sg _ _ hf1) ht)]
            exact sg _ _ hf1
          obtain ⟨d1, d2, d3⟩ := done _ g t sg hg (by rw [upd_same]; simp) ht
          refine ⟨_, ?_, rfl, r1 ++ [((q : Int) :: ar) :: []], r2, ts ++ [t], some (.int (q : Int)), some (.int ((((put r1).length : Nat) : Int) + 1 + ((ar.length : Nat) : Int))), some (.ref g), by rw [hraw, List.append_assoc]; rfl, ?_, d1, d2, d3⟩
          · refine hlt _ ?_
            show Int.toNat ((((put r1).length : Nat) : Int) + 1 + ((ar.length : Nat) : Int)) = _
            rw [hpl1]
            simp [putRows]
            omega
          · have e2 : (((put r1).length : Nat) : Int) + 1 + ((ar.length : Nat) : Int) = (((put (r1 ++ [((q : Int) :: ar) :: []])).length : Nat) : Int) := by
              rw [hpl1]
              simp [putRows]
              omega
            rw [← e2]
            rfl
    · have e : ¬ (put r1).length < (put raw).length := by simp at e; omega
      match r2, hraw with
      | [], hraw =>
        rw [List.append_nil] at hraw
        subst hraw
        exact ⟨_, rfl, k _ _ _ s1 hf hf1 hto⟩
      | c :: r2, hraw =>
        exfalso
        obtain ⟨p, ar, xs, rfl, hsh⟩ := hok c (by rw [hraw]; simp)
        rw [hraw, put_append, List.length_append] at e
        have : 0 < (put (((p :: ar) :: xs) :: r2)).length := by
          show 0 < ((p :: ar ++ putRows xs) ++ put r2).length
          rw [List.length_append, List.length_append, List.length_cons]
          omega
        omega
end
end Sg

namespace Sg
open PySem PySem.Spec PyProof.Rows L2
open Kp365 (nodeAt isTrue)
theorem few_up {f : Str} {v : V} : ∀ {fs : List (Str × V)} {n : Nat}, fs.length < n → (putF f v fs).length < n + 1
  | [], n, h => by
    show 1 < n + 1
    exact Nat.succ_lt_succ h
  | (g, x) :: r, n, h => by
    by_cases e : g = f
    · subst e
      rw [put_here]
      exact Nat.lt_succ_of_lt h
    · rw [put_past e]
      show (putF f v r).length + 1 < n + 1
      match n, h with
      | n + 1, h => exact Nat.succ_lt_succ (few_up (Nat.lt_of_succ_lt_succ h))
theorem put_end {f : Str} {v : V} : ∀ {fs : List (Str × V)}, f ∉ fs.map (·.1) → putF f v fs = fs ++ [(f, v)]
  | [], _ => rfl
  | (g, x) :: r, h => by
    rw [put_past fun e => h (by rw [← e]; simp), put_end fun q => h (by simp only [List.map_cons]; exact List.mem_cons_of_mem _ q)]
    rfl
theorem nF_new (n : Kp365.Node) (c : Addr) : putF "thrice" (.bl false) (putF "price" (.int 1) (putF "children" (.ref c) (putF "wrong" (.int n.wrong) (putF "so" (.int n.so) (putF "kind" (.int n.kind) []))))) = nF n 1 false c := by
  rw [put_end (f := "kind") (by decide +kernel), put_end (f := "so") (by show _ ∉ (["kind"] : List Str); decide +kernel), put_end (f := "wrong") (by show _ ∉ (["kind", "so"] : List Str); decide +kernel), put_end (f := "children") (by show _ ∉ (["kind", "so", "wrong"] : List Str); decide +kernel),
    put_end (f := "price") (by show _ ∉ (["kind", "so", "wrong", "children"] : List Str); decide +kernel), put_end (f := "thrice") (by show _ ∉ (["kind", "so", "wrong", "children", "price"] : List Str); decide +kernel)]
  rfl
def spNodeInit (C : Addr) : Sp := fun vs H Q _ => ∃ (p dx c : Addr) (n : Kp365.Node), vs = [.ref p, .int n.kind, .int n.so, .int n.wrong, .ref c] ∧ H p = some (.ins C dx []) ∧
  ∀ H' : Hp, H' p = some (.ins C dx (nF n 1 false c)) → (∀ b o, H b = some o → b ≠ p → H' b = some o) → Q .non H'
/-- a node that has just been made at a: neither it nor its list of children stood in H -/
def NodeNew (C : Addr) (H H' : Hp) (a : Addr) (n : Kp365.Node) : Prop :=
  H a = none ∧ ∃ dx c, H c = none ∧ H' a = some (.ins C dx (nF n 1 false c)) ∧ H' c = some (.lst (n.kids.map fun (k : Nat) => V.int (k : Int)))
def spNewLeaf (C : Addr) : Sp := fun vs H Q _ => ∃ so wr : Nat, vs = [.int (so : Int), .int (wr : Int)] ∧
  ∀ H' a, Same H H' → NodeNew C H H' a ⟨0, so, wr, []⟩ → Q (.ref a) H'
def spNewBranch (K : PySem.W.Frag) (C : Addr) : Sp := fun vs H Q _ => ∃ (kd : Nat) (r : Addr) (ks : List Nat), vs = [.int (kd : Int), .ref r] ∧ SqL K H r (ks.map fun (k : Nat) => V.int (k : Int)) ∧
  ∀ H' a, Same H H' → NodeNew C H H' a ⟨kd, 0, 0, ks⟩ → Q (.ref a) H'
section
variable {P : Program} {w : World} {K : PySem.W.Frag} {mg : Str → Option Value} {base : Heap}
theorem ok_NodeInit (T : Tx K mg) : FnOk P w K mg base CX0 1 T.fNodeInit T.dNodeInit ["self", "kind", "so", "wrong", "children"] (spNodeInit T.cNode) := by
  refine T.FNodeInit.ok scNodeInit (fun vs H Q E h => ?_) (fun cdv A outer s H vs Q E hr h => ?_)
  · obtain ⟨p, dx, c, n, rfl, _⟩ := h
    rfl
  · obtain ⟨p, dx, c, n, rfl, hp, k⟩ := h
    refine ⟨_, (pss_cons (ps_fld (pv 0) (pv 1) rfl)
      (pss_cons (ps_fld (pv 0) (pv 2) rfl)
      (pss_cons (ps_fld (pv 0) (pv 3) rfl)
      (pss_cons (ps_fld (pv 0) (pv 4) rfl)
      (pss_cons (ps_fld (pv 0) pe_int rfl)
      (pss_one (ps_fld (pv 0) pe_bl rfl))))))), ?_⟩
    refine ⟨_, rfl, _, rfl, p, T.cNode, dx, [], rfl, hp, T.clNode, T.nNode_kind, (by show 0 < 1000; decide), ?_⟩
    refine ⟨_, rfl, _, rfl, p, T.cNode, dx, _, rfl, upd_same, T.clNode, T.nNode_so, few_up (n := 999) (by show 0 < 999; decide), ?_⟩
    refine ⟨_, rfl, _, rfl, p, T.cNode, dx, _, rfl, upd_same, T.clNode, T.nNode_wrong, few_up (n := 999) (few_up (n := 998) (by show 0 < 998; decide)), ?_⟩
    refine ⟨_, rfl, _, rfl, p, T.cNode, dx, _, rfl, upd_same, T.clNode, T.nNode_children, few_up (n := 999) (few_up (n := 998) (few_up (n := 997) (by show 0 < 997; decide))), ?_⟩
    refine ⟨_, rfl, p, T.cNode, dx, _, rfl, upd_same, T.clNode, T.nNode_price, few_up (n := 999) (few_up (n := 998) (few_up (n := 997) (few_up (n := 996) (by show 0 < 996; decide)))), ?_⟩
    refine ⟨_, rfl, p, T.cNode, dx, _, rfl, upd_same, T.clNode, T.nNode_thrice, few_up (n := 999) (few_up (n := 998) (few_up (n := 997) (few_up (n := 996) (few_up (n := 995) (by show 0 < 995; decide))))), ?_⟩
    refine k _ (upd_same.trans (congrArg (fun q => some (HO.ins T.cNode dx q)) (nF_new n c))) fun b o e hb => ?_
    rw [upd_ne hb, upd_ne hb, upd_ne hb, upd_ne hb, upd_ne hb, upd_ne hb]
    exact e
theorem ok_NewLeaf (T : Tx K mg) : FnOk P w K mg base CX0 3 T.fNewLeaf T.dNewLeaf ["so", "wrong"] (spNewLeaf T.cNode) := by
  have GNodeInit := ok_NodeInit (P := P) (w := w) (base := base) T
  refine T.FNewLeaf.ok scNewLeaf (fun vs H Q E h => ?_) (fun cdv A outer s H vs Q E hr h => ?_)
  · obtain ⟨so, wr, rfl, _⟩ := h
    rfl
  · obtain ⟨so, wr, rfl, k⟩ := h
    refine ⟨_, (pss_one (ps_ret (pe_make T.mkNode GNodeInit (hr.mono (by decide)) rfl T.gNode T.bNodeInit .nil pass0 (pa_cons (pe_glob (v := V.int (0)) rfl T.gLEAF ⟨_, rfl⟩) (pa_cons (pv 0) (pa_cons (pv 1) (pa_cons (pe_lst pa_nil) pa_nil))))))), ?_⟩
    refine ⟨_, rfl, _, rfl, Nat.zero_le _, fun c hc => ?_⟩
    intro x dx nx nd ne
    have sc : Same H (upd H c (.lst [])) := Same.new hc
    have hcx : (upd H c (.lst [])) c = some (.lst []) := upd_same
    have cx : c ≠ x := ne_of_none hcx nx
    have cd : c ≠ dx := ne_of_none hcx nd
    refine ⟨x, dx, c, ⟨0, so, wr, []⟩, rfl, upd_same, fun H' h1 h2 => ⟨rfl, ?_⟩⟩
    have sH : Same (upd H c (.lst [])) H' := fun b o e => by
      have bx := ne_of_none e nx
      refine h2 b o ?_ bx
      rw [upd_ne bx, upd_ne (ne_of_none e nd)]
      exact e
    exact k _ _ (sc.trans sH) ⟨sc.free nx, dx, c, hc, h1, sH _ _ hcx⟩
theorem ok_NewBranch (T : Tx K mg) : FnOk P w K mg base CX0 3 T.fNewBranch T.dNewBranch ["kind", "children"] (spNewBranch K T.cNode) := by
  have GNodeInit := ok_NodeInit (P := P) (w := w) (base := base) T
  refine T.FNewBranch.ok scNewBranch (fun vs H Q E h => ?_) (fun cdv A outer s H vs Q E hr h => ?_)
  · obtain ⟨kd, r, ks, rfl, _⟩ := h
    rfl
  · obtain ⟨kd, r, ks, rfl, hR, k⟩ := h
    refine ⟨_, (pss_one (ps_ret (pe_make T.mkNode GNodeInit (hr.mono (by decide)) rfl T.gNode T.bNodeInit .nil pass0 (pa_cons (pv 0) (pa_cons pe_int (pa_cons pe_int (pa_cons (pe_callTy call_list_of (by rfl) T.b_list (by decide +kernel) (pa_cons (pv 1) pa_nil)) pa_nil))))))), ?_⟩
    refine ⟨_, rfl, _, rfl, r, _, rfl, .inl hR, fun c hc => ?_⟩
    intro x dx nx nd ne
    have sc : Same H (upd H c (.lst (ks.map fun (k : Nat) => V.int (k : Int)))) := Same.new hc
    have hcx : (upd H c (.lst (ks.map fun (k : Nat) => V.int (k : Int)))) c = some (.lst (ks.map fun (k : Nat) => V.int (k : Int))) := upd_same
    refine ⟨x, dx, c, ⟨kd, 0, 0, ks⟩, rfl, upd_same, fun H' h1 h2 => ⟨rfl, ?_⟩⟩
    have sH : Same (upd H c (.lst (ks.map fun (k : Nat) => V.int (k : Int)))) H' := fun b o e => by
      have bx := ne_of_none e nx
      refine h2 b o ?_ bx
      rw [upd_ne bx, upd_ne (ne_of_none e nd)]
      exact e
    exact k _ _ (sc.trans sH) ⟨sc.free nx, dx, c, hc, h1, sH _ _ hcx⟩
end
end Sg

namespace Sg
open PySem PySem.Spec PyProof.Rows L2
open Kp365 (nodeAt isTrue)
theorem nF_putPrice (n : Kp365.Node) (p q : Nat) (b : Bool) (c : Addr) : putF "price" (.int (q : Int)) (nF n p b c) = nF n q b c := by
  unfold nF
  rw [put_past (by decide +kernel), put_past (by decide +kernel), put_past (by decide +kernel), put_past (by decide +kernel), put_here]
theorem nF_putThrice (n : Kp365.Node) (p : Nat) (b b' : Bool) (c : Addr) : putF "thrice" (.bl b') (nF n p b c) = nF n p b' c := by
  unfold nF
  rw [put_past (by decide +kernel), put_past (by decide +kernel), put_past (by decide +kernel), put_past (by decide +kernel), put_past (by decide +kernel), put_here]
theorem nF_putSo (n : Kp365.Node) (p : Nat) (b : Bool) (c : Addr) (so : Nat) : putF "so" (.int (so : Int)) (nF n p b c) = nF { n with so := so } p b c := by
  unfold nF
  rw [put_past (by decide +kernel), put_here]
theorem nF_few (n : Kp365.Node) (p : Nat) (b : Bool) (c : Addr) : (nF n p b c).length < 1000 := by
  show 6 < 1000
  decide
/-- a node made behind H0, not at D; nor are its children there -/
def NodeMade (C : Addr) (H0 H : Hp) (D a : Addr) (n : Kp365.Node) (p : Nat) (b : Bool) : Prop :=
  H0 a = none ∧ a ≠ D ∧ ∃ dx c, H0 c = none ∧ c ≠ D ∧ H a = some (.ins C dx (nF n p b c)) ∧ H c = some (.lst (n.kids.map fun (k : Nat) => V.int (k : Int)))
/-- a whole tree made behind H0 -/
def TreeMade (C : Addr) (H0 H : Hp) (p : Addr) (d : Kp366.Desk) : Prop :=
  H0 p = none ∧ ∃ as : List Addr, H p = some (.lst (as.map V.ref)) ∧ as.length = d.tree.nodes.length ∧ as.Nodup ∧
    ∀ j a, as[j]? = some a → NodeMade C H0 H p a (nodeAt d.tree j) (d.price.getD j 0) (d.thrice.testBit j)
theorem TreeMade.at {C p : Addr} {H0 H : Hp} {d : Kp366.Desk} (h : TreeMade C H0 H p d) : TreeAt C H p d := by
  obtain ⟨_, as, h1, h2, _, h3⟩ := h
  refine ⟨as, h1, h2, fun j a e => ?_⟩
  obtain ⟨_, _, dx, c, _, _, q1, q2⟩ := h3 j a e
  exact ⟨dx, c, q1, q2⟩
theorem TreeMade.same {C p : Addr} {H0 H H' : Hp} {d : Kp366.Desk} (h : TreeMade C H0 H p d) (s : Same H H') : TreeMade C H0 H' p d := by
  obtain ⟨h0, as, h1, h2, hn, h3⟩ := h
  refine ⟨h0, as, s _ _ h1, h2, hn, fun j a e => ?_⟩
  obtain ⟨z1, z2, dx, c, z3, z4, q1, q2⟩ := h3 j a e
  exact ⟨z1, z2, dx, c, z3, z4, s _ _ q1, s _ _ q2⟩
def spCopyRead (C : Addr) : Sp := fun vs H Q _ => ∃ (a0 : Addr) (n : Kp365.Node) (p : Nat) (b0 b : Bool), vs = [.ref a0, .bl b] ∧ NodeIs C H a0 n p b0 ∧
  ∀ H' a, Same H H' → H a = none → (∃ dx c, H c = none ∧ H' a = some (.ins C dx (nF n p b c)) ∧ H' c = some (.lst (n.kids.map fun (k : Nat) => V.int (k : Int)))) → Q (.ref a) H'
def spCopiesBy (C : Addr) : Sp := fun vs H Q _ => ∃ (l r : Addr) (d : Kp366.Desk) (s : Nat), vs = [.ref l, .ref r] ∧ TreeAt C H l d ∧ d.tree.nodes.length ≤ 20 ∧ H r = some (.lst (rdL s d.tree.nodes.length)) ∧
  ∀ H' p, Same H H' → TreeMade C H H' p { d with thrice := s } → Q (.ref p) H'
def spCopies (C : Addr) : Sp := fun vs H Q _ => ∃ (l : Addr) (d : Kp366.Desk), vs = [.ref l] ∧ TreeAt C H l d ∧ d.tree.nodes.length ≤ 20 ∧
  ∀ H' p, Same H H' → TreeMade C H H' p d → Q (.ref p) H'
theorem NodeMade.but {C : Addr} {H0 H H' : Hp} {D a : Addr} {n : Kp365.Node} {p : Nat} {b : Bool} (h : NodeMade C H0 H D a n p b) (s : SameBut D H H') : NodeMade C H0 H' D a n p b := by
  obtain ⟨z1, z2, dx, c, z3, z4, q1, q2⟩ := h
  exact ⟨z1, z2, dx, c, z3, z4, s _ _ z2 q1, s _ _ z4 q2⟩
section
variable {P : Program} {w : World} {K : PySem.W.Frag} {mg : Str → Option Value} {base : Heap}
theorem ok_CopyRead (T : Tx K mg) : FnOk P w K mg base CX0 3 T.fCopyRead T.dCopyRead ["node", "thrice"] (spCopyRead T.cNode) := by
  have GNodeInit := ok_NodeInit (P := P) (w := w) (base := base) T
  refine T.FCopyRead.ok scCopyRead (fun vs H Q E h => ?_) (fun cdv A outer s H vs Q E hr h => ?_)
  · obtain ⟨a0, n, p, b0, b, rfl, _⟩ := h
    rfl
  · obtain ⟨a0, n, p, b0, b, rfl, ⟨dx0, c0, h1, h2⟩, k⟩ := h
    refine ⟨_, (pss_cons (ps_set (i := 2) scCopyRead.nd rfl (Or.inl rfl) (pe_make T.mkNode GNodeInit (hr.mono (by decide)) rfl T.gNode T.bNodeInit .nil pass0 (pa_cons (pe_fld (pv 0) rfl) (pa_cons (pe_fld (pv 0) rfl) (pa_cons (pe_fld (pv 0) rfl) (pa_cons (pe_callTy call_list_of (by rfl) T.b_list (by decide +kernel) (pa_cons (pe_fld (pv 0) rfl) pa_nil)) pa_nil))))))
      (pss_cons (ps_fld (pv 2) (pe_fld (pv 0) rfl) rfl)
      (pss_cons (ps_fld (pv 2) (pv 1) rfl)
      (pss_one (ps_ret (pv 2)))))), ?_⟩
    refine ⟨_, rfl, a0, T.cNode, dx0, _, _, rfl, h1, T.clNode, T.nNode_kind, nF_kind, ?_⟩
    refine ⟨_, rfl, a0, T.cNode, dx0, _, _, rfl, h1, T.clNode, T.nNode_so, nF_so, ?_⟩
    refine ⟨_, rfl, a0, T.cNode, dx0, _, _, rfl, h1, T.clNode, T.nNode_wrong, nF_wrong, ?_⟩
    refine ⟨_, rfl, a0, T.cNode, dx0, _, _, rfl, h1, T.clNode, T.nNode_children, nF_children, c0, _, rfl, .inl (SqL.of h2), fun c hc => ?_⟩
    intro x dx nx nd ne
    have sc : Same H (upd H c (.lst (n.kids.map fun (k : Nat) => V.int (k : Int)))) := Same.new hc
    have hcx : (upd H c (.lst (n.kids.map fun (k : Nat) => V.int (k : Int)))) c = some (.lst (n.kids.map fun (k : Nat) => V.int (k : Int))) := upd_same
    generalize upd H c (.lst (n.kids.map fun (k : Nat) => V.int (k : Int))) = H1 at sc hcx nx nd ⊢
    refine ⟨x, dx, c, n, rfl, upd_same, fun H' e1 e2 => ⟨rfl, ?_⟩⟩
    have sH : Same H1 H' := fun b o e => by
      have bx := ne_of_none e nx
      refine e2 b o ?_ bx
      rw [upd_ne bx, upd_ne (ne_of_none e nd)]
      exact e
    have s2 := sc.trans sH
    have xn : H x = none := sc.free nx
    refine ⟨_, rfl, a0, T.cNode, dx0, _, _, rfl, s2 _ _ h1, T.clNode, T.nNode_price, nF_price, _, rfl, x, T.cNode, dx, _, rfl, e1, T.clNode, T.nNode_price, nF_few _ _ _ _, ?_⟩
    rw [nF_putPrice]
    refine ⟨_, rfl, _, rfl, x, T.cNode, dx, _, rfl, upd_same, T.clNode, T.nNode_thrice, nF_few _ _ _ _, ?_⟩
    rw [nF_putThrice]
    refine ⟨_, rfl, k _ x (same_upd xn (same_upd xn s2)) xn ⟨dx, c, hc, upd_same, ?_⟩⟩
    have cx : c ≠ x := ne_of_none hcx nx
    rw [upd_ne cx, upd_ne cx]
    exact sH _ _ hcx
theorem ok_CopiesReadBy (T : Tx K mg) : FnOk P w K mg base CX0 4 T.fCopiesReadBy T.dCopiesReadBy ["nodes", "reads"] (spCopiesBy T.cNode) := by
  have GCopyRead := ok_CopyRead (P := P) (w := w) (base := base) T
  refine T.FCopiesReadBy.ok scCopiesReadBy (fun vs H Q E h => ?_) (fun cdv A outer s H vs Q E hr h => ?_)
  · obtain ⟨l, r, d, s, rfl, _⟩ := h
    rfl
  · obtain ⟨l, r, d, s0, rfl, hT, h20, hr0, k⟩ := h
    refine ⟨_, (pss_one (ps_ret (pe_lc (own := [("node", 2), ("thrice", 3)]) (g := (gTup K 2 (gCons (gName 2) (gCons (gName 3) gNil)))) (tt := tYes) rfl scCopiesReadBy.nd (pi_zip (by rfl) T.b_zip (pa_cons (pv 0) (pa_cons (pv 1) pa_nil))) (blkOk_by (own := [("node", 2), ("thrice", 3)]) (N := ["nodes", "reads", "node", "thrice"]) (sc := defScope sCopiesReadBy) (by decide +kernel)) (fun _ _ _ _ _ => pg_tupK K rfl (pgs_cons (pg_name (i := 2) scCopiesReadBy.nd rfl (Or.inl rfl)) (pgs_cons (pg_name (i := 3) scCopiesReadBy.nd rfl (Or.inl rfl)) pgs_nil))) (fun _ _ _ _ _ => pts_nil) (fun _ _ _ _ _ => (pe_call GCopyRead (hr.mono (by decide)) rfl T.gCopyRead T.FCopyRead.kp T.bCopyRead .nil pass0 (pa_cons (pv 2) (pa_cons (pv 3) pa_nil))))))), ?_⟩
    obtain ⟨as, hl, hlen, hn⟩ := id hT
    refine ⟨_, rfl, _, rfl, l, r, as.map V.ref, rdL s0 d.tree.nodes.length, rfl, SqL.of hl, SqL.of hr0, fun D hD => ?_⟩
    refine lw_new (walk_zip (n := d.tree.nodes.length) (by rw [List.length_map, rdL_len]; omega)) (fun i a H' => NodeMade T.cNode H H' D a (nodeAt d.tree i) (d.price.getD i 0) (s0.testBit i)) hD (by omega) (fun H' s => ⟨SqL.of (s _ _ hl), SqL.of (s _ _ hr0)⟩) ypair_same (fun i a H1 H2 => NodeMade.but) (fun i a H1 h => ?_) ?_ gm_tup2 ?_
    · obtain ⟨_, _, dx, c, _, _, q, _⟩ := h
      exact ⟨_, q⟩
    · rintro i y H0 H' R1 hi s1 s1' ⟨oD, hD'⟩ ⟨Tp, x1, x2, rfl, hTp, rfl, g1, g2⟩ kR
      obtain ⟨a, ha, rfl⟩ := ref_at g1
      have g2 := (rdL_get (s := s0) hi).symm.trans g2
      cases g2
      refine ⟨Tp, _, rfl, SqT.of upd_same, rfl, _, _, rfl, _, _, rfl, rfl, rfl, ?_⟩
      refine ⟨_, rfl, _, rfl, a, _, _, _, _, rfl, (hn i a ha).same s1', fun H4 x s4 xn ⟨dx, c, cn, q1, q2⟩ => kR x H4 s4 xn ⟨s1'.free xn, (ne_of_none hD' xn).symm, dx, c, s1'.free cn, (ne_of_none hD' cn).symm, q1, q2⟩⟩
    · intro H' as' s1 hD1 hl1 hnd hr1
      exact k _ _ s1 ⟨hD, as', hD1, hl1, hnd, hr1⟩
theorem ok_CopiesOf (T : Tx K mg) : FnOk P w K mg base CX0 4 T.fCopiesOf T.dCopiesOf ["nodes"] (spCopies T.cNode) := by
  have GCopyRead := ok_CopyRead (P := P) (w := w) (base := base) T
  refine T.FCopiesOf.ok scCopiesOf (fun vs H Q E h => ?_) (fun cdv A outer s H vs Q E hr h => ?_)
  · obtain ⟨l, d, rfl, _⟩ := h
    rfl
  · obtain ⟨l, d, rfl, hT, h20, k⟩ := h
    refine ⟨_, (pss_one (ps_ret (pe_lc (own := [("node", 1)]) (g := gName 1) (tt := tYes) rfl scCopiesOf.nd (pi_list (pv 0)) (blkOk_by (own := [("node", 1)]) (N := ["nodes", "node"]) (sc := defScope sCopiesOf) (by decide +kernel)) (fun _ _ _ _ _ => pg_name (i := 1) scCopiesOf.nd rfl (Or.inl rfl)) (fun _ _ _ _ _ => pts_nil) (fun _ _ _ _ _ => (pe_call GCopyRead (hr.mono (by decide)) rfl T.gCopyRead T.FCopyRead.kp T.bCopyRead .nil pass0 (pa_cons (pv 1) (pa_cons (fldK K (pv 1) rfl) pa_nil))))))), ?_⟩
    obtain ⟨as, hl, hlen, hn⟩ := id hT
    refine ⟨_, rfl, l, rfl, ⟨_, SqL.of hl⟩, fun D hD => ?_⟩
    refine lw_new (walk_list (xs := as.map V.ref)) (fun i a H' => NodeMade T.cNode H H' D a (nodeAt d.tree i) (d.price.getD i 0) (d.thrice.testBit i)) hD (by rw [List.length_map]; omega) (fun H' s => SqL.of (s _ _ hl)) yat_same (fun i a H1 H2 => NodeMade.but) (fun i a H1 h => ?_) ?_ gm_name ?_
    · obtain ⟨_, _, dx, c, _, _, q, _⟩ := h
      exact ⟨_, q⟩
    · rintro i y H0 H' R1 hi s1 s1' ⟨oD, hD'⟩ ⟨rfl, g1⟩ kR
      obtain ⟨a, ha, rfl⟩ := ref_at g1
      have hN := (hn i a ha).same s1'
      obtain ⟨dx0, c0, h1, h2⟩ := id hN
      refine ⟨rfl, ?_⟩
      refine ⟨_, rfl, _, rfl, a, T.cNode, dx0, _, _, rfl, h1, T.clNode, T.nNode_thrice, nF_thrice, a, _, _, _, _, rfl, hN, fun H4 x s4 xn ⟨dx, c, cn, q1, q2⟩ => kR x H4 s4 xn ⟨s1'.free xn, (ne_of_none hD' xn).symm, dx, c, s1'.free cn, (ne_of_none hD' cn).symm, q1, q2⟩⟩
    · intro H' as' s1 hD1 hl1 hnd hr1
      exact k _ _ s1 ⟨hD, as', hD1, by rw [hl1, List.length_map, hlen], hnd, hr1⟩
end
end Sg

namespace Sg
open PySem PySem.Spec PyProof.Rows L2
open Kp365 (nodeAt isTrue)
open Kp367 (House Heard)
/-! ### hearings -/
/-- how often it goes wrong, in millionths -/
def zOf (x : Heard) : Int := x.wrong.1 * (MIL / x.wrong.2)
theorem zOf_ml {x : Heard} {z : Int} (h : x.wrong = ml z) : zOf x = z := by
  unfold zOf
  rw [h]
  have h1 := fr_num (a := z) mil_pos
  have h2 := fr_den (a := z) mil_pos
  have h3 := fr_den_pos (a := z) mil_pos
  have e : MIL / (Kp340.fr z MIL).2 = gc z MIL := Int.ediv_eq_of_eq_mul_right (by omega) h2.symm
  show (Kp340.fr z MIL).1 * (MIL / (Kp340.fr z MIL).2) = z
  rw [e, h1]
theorem WFH.zs {h : House} (w : WFH h) {x : Heard} (hx : x ∈ h.log) : x.wrong = ml (zOf x) ∧ 0 ≤ zOf x ∧ zOf x ≤ MIL := by
  obtain ⟨z, h1, h2, h3⟩ := w.logw x hx
  rw [zOf_ml h1]
  exact ⟨h1, h2, h3⟩
def oneZero (b : Bool) : Int := if b then 1 else 0
def rF (x : Heard) : List (Str × V) := [("node", .int (x.node : Int)), ("leaf", .int (x.leaf : Int)), ("held", .int (oneZero x.held)), ("cost", .int (x.cost : Int)), ("wrong", .int (zOf x))]
section
variable {x : Heard}
theorem rF_node : (rF x).lookup ("node" : Str) = some (.int (x.node : Int)) := lk_here
theorem rF_leaf : (rF x).lookup ("leaf" : Str) = some (.int (x.leaf : Int)) := (lk_past (by decide +kernel)).trans lk_here
theorem rF_held : (rF x).lookup ("held" : Str) = some (.int (oneZero x.held)) := (lk_past (by decide +kernel)).trans ((lk_past (by decide +kernel)).trans lk_here)
theorem rF_cost : (rF x).lookup ("cost" : Str) = some (.int (x.cost : Int)) := (lk_past (by decide +kernel)).trans ((lk_past (by decide +kernel)).trans ((lk_past (by decide +kernel)).trans lk_here))
theorem rF_wrong : (rF x).lookup ("wrong" : Str) = some (.int (zOf x)) := (lk_past (by decide +kernel)).trans ((lk_past (by decide +kernel)).trans ((lk_past (by decide +kernel)).trans ((lk_past (by decide +kernel)).trans lk_here)))
end
theorem rF_new (x : Heard) : putF "wrong" (.int (zOf x)) (putF "cost" (.int (x.cost : Int)) (putF "held" (.int (oneZero x.held)) (putF "leaf" (.int (x.leaf : Int)) (putF "node" (.int (x.node : Int)) [])))) = rF x := by
  rw [put_end (f := "node") (by decide +kernel), put_end (f := "leaf") (by show _ ∉ (["node"] : List Str); decide +kernel), put_end (f := "held") (by show _ ∉ (["node", "leaf"] : List Str); decide +kernel),
    put_end (f := "cost") (by show _ ∉ (["node", "leaf", "held"] : List Str); decide +kernel), put_end (f := "wrong") (by show _ ∉ (["node", "leaf", "held", "cost"] : List Str); decide +kernel)]
  rfl
def HeardIs (C : Addr) (H : Hp) (a : Addr) (x : Heard) : Prop := ∃ dx, H a = some (.ins C dx (rF x))
def LogAt (C : Addr) (H : Hp) (g : Addr) (log : List Heard) : Prop := ∃ gs : List Addr, H g = some (.lst (gs.map V.ref)) ∧ gs.length = log.length ∧ ∀ (j : Nat) a x, gs[j]? = some a → log[j]? = some x → HeardIs C H a x
theorem HeardIs.same {C a : Addr} {H H' : Hp} {x : Heard} (h : HeardIs C H a x) (s : Same H H') : HeardIs C H' a x := by
  obtain ⟨dx, h1⟩ := h
  exact ⟨dx, s _ _ h1⟩
theorem LogAt.same {C g : Addr} {H H' : Hp} {log : List Heard} (h : LogAt C H g log) (s : Same H H') : LogAt C H' g log := by
  obtain ⟨gs, h1, h2, h3⟩ := h
  exact ⟨gs, s _ _ h1, h2, fun j a x e1 e2 => (h3 j a x e1 e2).same s⟩
def spHearingInit (C : Addr) : Sp := fun vs H Q _ => ∃ (p dx : Addr) (x : Heard), vs = [.ref p, .int (x.node : Int), .int (x.leaf : Int), .int (oneZero x.held), .int (x.cost : Int), .int (zOf x)] ∧ H p = some (.ins C dx []) ∧
  ∀ H' : Hp, H' p = some (.ins C dx (rF x)) → (∀ b o, H b = some o → b ≠ p → H' b = some o) → Q .non H'
def spIsLuck : Sp := fun vs H Q _ => ∃ (a b : Nat), vs = [.int (a : Int), .int (b : Int)] ∧ Q (.bl (!decide (badLuck a b))) H
def spHold (C D : Addr) : Sp := fun vs H Q _ => ∃ (l : Addr) (h : House) (i a b : Nat), vs = [.ref l, .int (i : Int), .int (a : Int), .int (b : Int)] ∧ TreeAt C H l h.desk ∧ WFH h ∧ i < cnt h ∧ ¬ badLuck a b ∧
  ∀ H' p, Same H H' → H p = none → HeardIs D H' p (heardI h i a b) → Q (.ref p) H'
def spWellHeld (C D : Addr) : Sp := fun vs H Q _ => ∃ (l g : Addr) (h : House), vs = [.ref l, .ref g] ∧ TreeAt C H l h.desk ∧ LogAt D H g h.log ∧ WFH h ∧
  ∀ H', Same H H' → Q (.int (((h.log.filter (Kp367.rightAt h)).length : Nat) : Int)) H'
def spCostH (D : Addr) : Sp := fun vs H Q _ => ∃ (g : Addr) (log : List Heard), vs = [.ref g] ∧ LogAt D H g log ∧ log.length ≤ 20 ∧
  ∀ H', Same H H' → Q (.int (((log.map fun x => x.cost).sum : Nat) : Int)) H'
def spWrongT (D : Addr) : Sp := fun vs H Q _ => ∃ (g : Addr) (log : List Heard), vs = [.ref g] ∧ LogAt D H g log ∧ log.length ≤ 20 ∧
  ∀ H', Same H H' → Q (.int (log.map zOf).sum) H'
/-! ### lists by places -/
theorem getD_some {α : Type} {l : List α} {i : Nat} {x d : α} (h : l[i]? = some x) : l.getD i d = x := by
  rw [List.getD_eq_getElem?_getD, h]
  rfl
theorem map_places {α β : Type} (f : α → β) (l : List α) (d : α) : (List.range l.length).map (fun i => f (l.getD i d)) = l.map f := by
  apply List.ext_getElem?
  intro i
  rw [List.getElem?_map, List.getElem?_map]
  rcases Nat.lt_or_ge i l.length with h | h
  · rw [List.getElem?_range h, List.getElem?_eq_getElem h]
    simp [h]
  · rw [List.getElem?_eq_none (by simpa using h), List.getElem?_eq_none h]
    rfl
theorem filter_places {α : Type} (p : α → Bool) (l : List α) (d : α) : ((List.range l.length).filter fun i => p (l.getD i d)).length = (l.filter p).length := by
  have e := map_places id l d
  rw [List.map_id] at e
  conv => rhs; rw [← e]
  rw [List.filter_map, List.length_map]
  rfl
theorem filterMap_if {α β : Type} (p : α → Bool) (g : α → β) (l : List α) : (l.filterMap fun i => if p i then some (g i) else none) = (l.filter p).map g := by
  induction l with
  | nil => rfl
  | cons x r ih =>
    by_cases h : p x = true
    · rw [List.filterMap_cons_some (b := g x) (by rw [if_pos h]), List.filter_cons_of_pos h, List.map_cons, ih]
    · rw [List.filterMap_cons_none (by rw [if_neg h]), List.filter_cons_of_neg h, ih]
theorem sum_cast (l : List Nat) : ((l.sum : Nat) : Int) = (l.map fun (x : Nat) => (x : Int)).sum := by
  induction l with
  | nil => rfl
  | cons x r ih =>
    rw [List.sum_cons, List.map_cons, List.sum_cons, ← ih]
    omega
def noHeard : Heard := ⟨0, 0, false, 0, (0, 1)⟩
section
variable {P : Program} {w : World} {K : PySem.W.Frag} {mg : Str → Option Value} {base : Heap}
theorem ok_HearingInit (T : Tx K mg) : FnOk P w K mg base CX0 1 T.fHearingInit T.dHearingInit ["self", "node", "leaf", "held", "cost", "wrong"] (spHearingInit T.cHearing) := by
  refine T.FHearingInit.ok scHearingInit (fun vs H Q E h => ?_) (fun cdv A outer s H vs Q E hr h => ?_)
  · obtain ⟨p, dx, x, rfl, _⟩ := h
    rfl
  · obtain ⟨p, dx, x, rfl, hp, k⟩ := h
    refine ⟨_, (pss_cons (ps_fld (pv 0) (pv 1) rfl)
      (pss_cons (ps_fld (pv 0) (pv 2) rfl)
      (pss_cons (ps_fld (pv 0) (pv 3) rfl)
      (pss_cons (ps_fld (pv 0) (pv 4) rfl)
      (pss_one (ps_fld (pv 0) (pv 5) rfl)))))), ?_⟩
    refine ⟨_, rfl, _, rfl, p, T.cHearing, dx, [], rfl, hp, T.clHearing, T.nHearing_node, (by show 0 < 1000; decide), ?_⟩
    refine ⟨_, rfl, _, rfl, p, T.cHearing, dx, _, rfl, upd_same, T.clHearing, T.nHearing_leaf, few_up (n := 999) (by show 0 < 999; decide), ?_⟩
    refine ⟨_, rfl, _, rfl, p, T.cHearing, dx, _, rfl, upd_same, T.clHearing, T.nHearing_held, few_up (n := 999) (few_up (n := 998) (by show 0 < 998; decide)), ?_⟩
    refine ⟨_, rfl, _, rfl, p, T.cHearing, dx, _, rfl, upd_same, T.clHearing, T.nHearing_cost, few_up (n := 999) (few_up (n := 998) (few_up (n := 997) (by show 0 < 997; decide))), ?_⟩
    refine ⟨_, rfl, _, rfl, p, T.cHearing, dx, _, rfl, upd_same, T.clHearing, T.nHearing_wrong, few_up (n := 999) (few_up (n := 998) (few_up (n := 997) (few_up (n := 996) (by show 0 < 996; decide)))), ?_⟩
    refine k _ (upd_same.trans (congrArg (fun q => some (HO.ins T.cHearing dx q)) (rF_new x))) fun b o e hb => ?_
    rw [upd_ne hb, upd_ne hb, upd_ne hb, upd_ne hb, upd_ne hb]
    exact e
theorem ok_IsLuck (T : Tx K mg) : FnOk P w K mg base CX0 1 T.fIsLuck T.dIsLuck ["a", "b"] (spIsLuck) := by
  refine T.FIsLuck.ok scIsLuck (fun vs H Q E h => ?_) (fun cdv A outer s H vs Q E hr h => ?_)
  · obtain ⟨a, b, rfl, _⟩ := h
    rfl
  · obtain ⟨a, b, rfl, k⟩ := h
    refine ⟨_, (pss_one (ps_ret (pe_and (pe_cmpR op_ge (pv 1) pe_int (nomark _)) (pe_and (pe_cmpR op_le (pv 1) (pe_glob (v := V.int (1000)) rfl T.gMOST_LUCK ⟨_, rfl⟩) (nomark _)) (pe_one (pe_cmpR op_lt (pv 0) (pv 1) (nomark _))))))), ?_⟩
    refine ⟨_, rfl, _, _, rfl, rfl, _, rfl, ?_⟩
    refine ite2 (fun e => ?_) (fun e => ?_)
    · have e : 1 ≤ b := by simp at e; omega
      refine ⟨_, rfl, _, _, rfl, rfl, _, rfl, ?_⟩
      refine ite2 (fun e1 => ?_) (fun e1 => ?_)
      · have e1 : b ≤ 1000 := by simp at e1; omega
        refine ⟨_, rfl, _, rfl, _, _, rfl, rfl, ?_⟩
        have e2 : (!decide (badLuck a b)) = decide ((a : Int) < (b : Int)) := by
          by_cases q : a < b
          · rw [decide_eq_false (show ¬ badLuck a b by unfold badLuck; omega), decide_eq_true (by omega)]
            rfl
          · rw [decide_eq_true (show badLuck a b by unfold badLuck; omega), decide_eq_false (by omega)]
            rfl
        rw [e2] at k
        exact k
      · have e2 : (!decide (badLuck a b)) = false := by
          rw [decide_eq_true (show badLuck a b by unfold badLuck; simp at e1; omega)]
          rfl
        rw [e2] at k
        exact k
    · have e2 : (!decide (badLuck a b)) = false := by
        rw [decide_eq_true (show badLuck a b by unfold badLuck; simp at e; omega)]
        rfl
      rw [e2] at k
      exact k
theorem ok_HoldHearing (T : Tx K mg) : FnOk P w K mg base CX0 5 T.fHoldHearing T.dHoldHearing ["nodes", "i", "a", "b"] (spHold T.cNode T.cHearing) := by
  have GEndOf := ok_EndOf (P := P) (w := w) (base := base) T
  have GHearingInit := ok_HearingInit (P := P) (w := w) (base := base) T
  have GMisreadOf := ok_MisreadOf (P := P) (w := w) (base := base) T
  have GRightOf := ok_RightOf (P := P) (w := w) (base := base) T
  refine T.FHoldHearing.ok scHoldHearing (fun vs H Q E h => ?_) (fun cdv A outer s H vs Q E hr h => ?_)
  · obtain ⟨l, h, i, a, b, rfl, _⟩ := h
    rfl
  · obtain ⟨l, h, i, a, b, rfl, hT, wf, hi, hb, k⟩ := h
    refine ⟨_, (pss_cons (ps_set (i := 4) scHoldHearing.nd rfl (Or.inl rfl) (pe_call GEndOf (hr.mono (by decide)) rfl T.gEndOf T.FEndOf.kp T.bEndOf .nil pass0 (pa_cons (pv 0) (pa_cons (pv 1) pa_nil))))
      (pss_cons (ps_set (i := 5) scHoldHearing.nd rfl (Or.inl rfl) (pe_ix ix_list (pv 0) (pv 4) (fun _ _ => rfl)))
      (pss_cons (ps_set (i := 6) scHoldHearing.nd rfl (Or.inl rfl) (pe_fld (pv 5) rfl))
      (pss_cons (ps_if (pt_cmpR op_lt (pe_op op_mul (pv 2) (pe_glob (v := V.int (1000000)) rfl T.gWHOLE ⟨_, rfl⟩)) (pe_op op_mul (pe_call GMisreadOf (hr.mono (by decide)) rfl T.gMisreadOf T.FMisreadOf.kp T.bMisreadOf .nil pass0 (pa_cons (pv 5) (pa_cons (pe_fld (pv 5) rfl) pa_nil))) (pv 3)) (nomark _)) (pss_one (ps_set (i := 6) scHoldHearing.nd rfl (Or.inl rfl) (pe_op op_sub pe_int (pe_fld (pv 5) rfl))))
      pss_nil)
      (pss_cons (ps_set (i := 7) scHoldHearing.nd rfl (Or.inl rfl) (pe_ifExp (pt_val (pe_fld (pv 5) rfl)) (pe_fld (pv 5) rfl) pe_int))
      (pss_one (ps_ret (pe_make T.mkHearing GHearingInit (hr.mono (by decide)) rfl T.gHearing T.bHearingInit .nil pass0 (pa_cons (pv 1) (pa_cons (pv 4) (pa_cons (pv 6) (pa_cons (pv 7) (pa_cons (pe_op op_sub (pe_glob (v := V.int (1000000)) rfl T.gWHOLE ⟨_, rfl⟩) (pe_call GRightOf (hr.mono (by decide)) rfl T.gRightOf T.FRightOf.kp T.bRightOf .nil pass0 (pa_cons (pv 0) (pa_cons (pv 1) pa_nil)))) pa_nil))))))))))))), ?_⟩
    have hb' : 1 ≤ b ∧ b ≤ 1000 ∧ a < b := by unfold badLuck at hb; omega
    refine ⟨_, rfl, _, rfl, l, h.desk, i, rfl, hT, wf.tree, hi, fun H1 s1 => ?_⟩
    obtain ⟨as, hl, hlen, hn⟩ := hT.same s1
    obtain ⟨q1, q2, q3⟩ := leafOf_is wf.tree (d := h.desk) i
    have hj : Kp367.leafOf h.desk i < h.desk.tree.nodes.length := Nat.lt_of_le_of_lt q2 hi
    have ej : ∃ j, j = Kp367.leafOf h.desk i := ⟨_, rfl⟩
    obtain ⟨j, ej⟩ := ej
    have hx : heardI h i a b = ⟨i, j, if (a : Int) * MIL < misI h.desk h.desk.thrice j * (b : Int) then !((nodeAt h.desk.tree j).so == 1) else (nodeAt h.desk.tree j).so == 1, if h.desk.thrice.testBit j then h.desk.price.getD j 0 else 0, ml (MIL - rNow h i)⟩ := by
      rw [ej]
      rfl
    rw [← ej] at hj q1 ⊢
    obtain ⟨p, ha⟩ : ∃ p, as[j]? = some p := ⟨_, List.getElem?_eq_getElem (by omega)⟩
    have hN := hn j p ha
    obtain ⟨dx, c, ha1, hc1⟩ := id hN
    have hwso : (nodeAt h.desk.tree j).so ≤ 1 ∧ (nodeAt h.desk.tree j).wrong ≤ 100 := by
      rcases wf.tree.kind j with z | z
      · exact ⟨z.2.2.1, z.2.2.2⟩
      · omega
    have hrb := rI_bounds wf.tree h.desk.thrice i
    have hmb := misW_bounds (nodeAt h.desk.tree j).wrong (h.desk.thrice.testBit j) hwso.2
    rw [hx] at k
    refine ⟨_, rfl, _, rfl, l, _, _, _, rfl, rfl, SqL.of hl, atI_nat (v := V.ref p) (by rw [List.getElem?_map, ha]; rfl), ?_⟩
    refine ⟨_, rfl, p, T.cNode, dx, _, _, rfl, ha1, T.clNode, T.nNode_so, nF_so, ?_⟩
    refine ⟨_, rfl, _, _, rfl, rfl, .inl ⟨by omega, by omega⟩, _, rfl, _, rfl, p, T.cNode, dx, _, _, rfl, ha1, T.clNode, T.nNode_thrice, nF_thrice, p, _, _, _, _, rfl, hN, hwso.2, _, rfl, _, _, rfl, rfl, .inr ⟨by omega, by omega⟩, _, _, rfl, rfl, _, rfl, ?_⟩
    have tail : ∀ (v : Bool), (v = if (a : Int) * MIL < misI h.desk h.desk.thrice j * (b : Int) then !((nodeAt h.desk.tree j).so == 1) else (nodeAt h.desk.tree j).so == 1) → ∀ H', Same H H' → ∀ q, H q = none → HeardIs T.cHearing H' q ⟨i, j, v, if h.desk.thrice.testBit j then h.desk.price.getD j 0 else 0, ml (MIL - rNow h i)⟩ → Q (.ref q) H' := fun v ev H' s' q nq hq => k H' q s' nq (ev ▸ hq)
    have go : ∀ (v : Bool) (z : Int), z = oneZero v → (v = if (a : Int) * MIL < misI h.desk h.desk.thrice j * (b : Int) then !((nodeAt h.desk.tree j).so == 1) else (nodeAt h.desk.tree j).so == 1) → ∀ (c0 : Nat), c0 = (if h.desk.thrice.testBit j then h.desk.price.getD j 0 else 0) → ∀ (z2 : Int), z2 = MIL - rNow h i → ∀ H3, Same H H3 → ∀ x dx', H3 x = none → H3 dx' = none → dx' ≠ x → 
        (spHearingInit T.cHearing) [.ref x, .int (i : Int), .int (j : Int), .int z, .int (c0 : Int), .int z2] (upd (upd H3 dx' (.own x)) x (.ins T.cHearing dx' [])) (fun r H4 => r = .non ∧ Q (.ref x) H4) E0 := by
      intro v z ez ev c0 ec z2 ez2 H3 s3 x dx' nx nd ne
      have ez3 : zOf ⟨i, j, v, c0, ml z2⟩ = z2 := zOf_ml rfl
      refine ⟨x, dx', ⟨i, j, v, c0, ml z2⟩, ?_, upd_same, fun H' e1 e2 => ⟨rfl, ?_⟩⟩
      · rw [ez3, ez]
      · have sH : Same H3 H' := fun b o e => by
          have bx := ne_of_none e nx
          refine e2 b o ?_ bx
          rw [upd_ne bx, upd_ne (ne_of_none e nd)]
          exact e
        refine tail v ev H' (s3.trans sH) x (s3.free nx) ⟨dx', ?_⟩
        rw [ez2, ec] at e1
        exact e1
    have fin : ∀ (v : Bool) (z : Int), z = oneZero v → (v = if (a : Int) * MIL < misI h.desk h.desk.thrice j * (b : Int) then !((nodeAt h.desk.tree j).so == 1) else (nodeAt h.desk.tree j).so == 1) → ∀ (c0 : Nat), c0 = (if h.desk.thrice.testBit j then h.desk.price.getD j 0 else 0) → ∀ H3, Same H H3 → ∀ x dx', H3 x = none → H3 dx' = none → dx' ≠ x → 
        (spHearingInit T.cHearing) [.ref x, .int (i : Int), .int (j : Int), .int z, .int (c0 : Int), .int (1000000 - rI h.desk h.desk.thrice i)] (upd (upd H3 dx' (.own x)) x (.ins T.cHearing dx' [])) (fun r H4 => r = .non ∧ Q (.ref x) H4) E0 := fun v z ez ev c0 ec H3 s3 x dx' nx nd ne => go v z ez ev c0 ec _ rfl H3 s3 x dx' nx nd ne
    refine ite2 (fun e => ?_) (fun e => ?_)
    · have e : (a : Int) * MIL < misI h.desk h.desk.thrice j * (b : Int) := by
        have := of_decide_eq_true e
        exact this
      refine ⟨_, rfl, p, T.cNode, dx, _, _, rfl, ha1, T.clNode, T.nNode_so, nF_so, _, _, rfl, rfl, ?_⟩
      refine ⟨_, rfl, p, T.cNode, dx, _, _, rfl, ha1, T.clNode, T.nNode_thrice, nF_thrice, _, rfl, ?_⟩
      have hv : (1 : Int) - ((nodeAt h.desk.tree j).so : Int) = oneZero (!((nodeAt h.desk.tree j).so == 1)) := by
        unfold oneZero
        rcases Nat.lt_or_ge (nodeAt h.desk.tree j).so 1 with z | z
        · have z : (nodeAt h.desk.tree j).so = 0 := by omega
          rw [z]; rfl
        · have z : (nodeAt h.desk.tree j).so = 1 := by omega
          rw [z]; rfl
      refine ite2 (fun e2 => ?_) (fun e2 => ?_)
      · refine ⟨_, rfl, p, T.cNode, dx, _, _, rfl, ha1, T.clNode, T.nNode_price, nF_price, ?_⟩
        refine ⟨_, rfl, _, rfl, _, rfl, _, rfl, _, rfl, _, rfl, l, h.desk, i, rfl, hT.same s1, wf.tree, hi, fun H3 s3 => ⟨_, _, rfl, rfl, ?_⟩⟩
        exact fun x dx' nx nd ne => fin _ _ hv (by rw [if_pos e]) _ (by rw [if_pos e2]) H3 (s1.trans s3) x dx' nx nd ne
      · refine ⟨_, rfl, _, rfl, _, rfl, _, rfl, _, rfl, _, rfl, l, h.desk, i, rfl, hT.same s1, wf.tree, hi, fun H3 s3 => ⟨_, _, rfl, rfl, ?_⟩⟩
        exact fun x dx' nx nd ne => fin _ _ hv (by rw [if_pos e]) 0 (by rw [if_neg e2]) H3 (s1.trans s3) x dx' nx nd ne
    · have e : ¬ (a : Int) * MIL < misI h.desk h.desk.thrice j * (b : Int) := fun q => e (decide_eq_true q)
      have hv : ((nodeAt h.desk.tree j).so : Int) = oneZero ((nodeAt h.desk.tree j).so == 1) := by
        unfold oneZero
        rcases Nat.lt_or_ge (nodeAt h.desk.tree j).so 1 with z | z
        · have z : (nodeAt h.desk.tree j).so = 0 := by omega
          rw [z]; rfl
        · have z : (nodeAt h.desk.tree j).so = 1 := by omega
          rw [z]; rfl
      refine ⟨_, rfl, p, T.cNode, dx, _, _, rfl, ha1, T.clNode, T.nNode_thrice, nF_thrice, _, rfl, ?_⟩
      refine ite2 (fun e2 => ?_) (fun e2 => ?_)
      · refine ⟨_, rfl, p, T.cNode, dx, _, _, rfl, ha1, T.clNode, T.nNode_price, nF_price, ?_⟩
        refine ⟨_, rfl, _, rfl, _, rfl, _, rfl, _, rfl, _, rfl, l, h.desk, i, rfl, hT.same s1, wf.tree, hi, fun H3 s3 => ⟨_, _, rfl, rfl, ?_⟩⟩
        exact fun x dx' nx nd ne => fin _ _ hv (by rw [if_neg e]) _ (by rw [if_pos e2]) H3 (s1.trans s3) x dx' nx nd ne
      · refine ⟨_, rfl, _, rfl, _, rfl, _, rfl, _, rfl, _, rfl, l, h.desk, i, rfl, hT.same s1, wf.tree, hi, fun H3 s3 => ⟨_, _, rfl, rfl, ?_⟩⟩
        exact fun x dx' nx nd ne => fin _ _ hv (by rw [if_neg e]) 0 (by rw [if_neg e2]) H3 (s1.trans s3) x dx' nx nd ne
end
end Sg

namespace Sg
open PySem PySem.Spec PyProof.Rows L2
open Kp365 (nodeAt isTrue)
open Kp367 (House Heard)
theorem log_at {C : Addr} {H : Hp} {log : List Heard} {gs : List Addr} (h2 : gs.length = log.length) (h3 : ∀ (j : Nat) a x, gs[j]? = some a → log[j]? = some x → HeardIs C H a x) {i : Nat} (hi : i < log.length) :
    ∃ a, gs[i]? = some a ∧ gs.getD i 0 = a ∧ ∃ dx, H a = some (.ins C dx (rF (log.getD i noHeard))) := by
  have e1 : gs[i]? = some (gs[i]'(by omega)) := List.getElem?_eq_getElem (by omega)
  have e2 : log[i]? = some log[i] := List.getElem?_eq_getElem hi
  obtain ⟨dx, h⟩ := h3 i _ _ e1 e2
  refine ⟨_, e1, getD_some e1, dx, ?_⟩
  rw [getD_some e2]
  exact h
theorem lt_of_at {α : Type} {l : List α} {i : Nat} {x : α} (h : l[i]? = some x) : i < l.length := (List.getElem?_eq_some_iff.mp h).1
section
variable {P : Program} {w : World} {K : PySem.W.Frag} {mg : Str → Option Value} {base : Heap}
theorem ok_CostOfHearings (T : Tx K mg) : FnOk P w K mg base CX0 1 T.fCostOfHearings T.dCostOfHearings ["log"] (spCostH T.cHearing) := by
  refine T.FCostOfHearings.ok scCostOfHearings (fun vs H Q E h => ?_) (fun cdv A outer s H vs Q E hr h => ?_)
  · obtain ⟨g, log, rfl, _⟩ := h
    rfl
  · obtain ⟨g, log, rfl, ⟨gs, h1, h2, h3⟩, h20, k⟩ := h
    refine ⟨_, (pss_one (ps_ret (pe_callB (cr_sum rfl) (by rfl) T.b_sum (by decide +kernel) (pa_cons (pe_lc (own := [("hearing", 1)]) (g := gName 1) (tt := tYes) rfl scCostOfHearings.nd (pi_list (pv 0)) (blkOk_by (own := [("hearing", 1)]) (N := ["log", "hearing"]) (sc := defScope sCostOfHearings) (by decide +kernel)) (fun _ _ _ _ _ => pg_name (i := 1) scCostOfHearings.nd rfl (Or.inl rfl)) (fun _ _ _ _ _ => pts_nil) (fun _ _ _ _ _ => (fldK K (pv 1) rfl))) pa_nil)))), ?_⟩
    refine ⟨_, rfl, g, rfl, ⟨_, SqL.of h1⟩, fun D hD => ?_⟩
    refine lc_mi (K := K) (a := g) (fun i => V.int (((log.getD i noHeard).cost : Nat) : Int)) hD (by rw [List.length_map]; omega) (SqL.of h1) (fun m x H6 R1 hm s6 k1 => ?_) gm_name (fun H6 s6 hD6 => ?_)
    · obtain ⟨a, ha, rfl⟩ := ref_at hm
      obtain ⟨a', e1, _, dx, hx⟩ := log_at h2 h3 (i := m) (by have := lt_of_at ha; omega)
      cases e1.symm.trans ha
      exact ⟨rfl, _, rfl, a, T.cHearing, dx, _, _, rfl, s6 _ _ hx, T.clHearing, T.nHearing_cost, rF_cost, k1 _ (Same.refl _)⟩
    · rw [List.length_map, h2, map_places (fun x : Heard => V.int ((x.cost : Nat) : Int)) log noHeard] at hD6
      refine ⟨D, (log.map fun x => x.cost).map fun (x : Nat) => (x : Int), rfl, SqL.of (by rw [hD6, List.map_map, List.map_map]; rfl), ?_⟩
      rw [← sum_cast]
      exact k _ s6
theorem ok_WrongTogether (T : Tx K mg) : FnOk P w K mg base CX0 1 T.fWrongTogether T.dWrongTogether ["log"] (spWrongT T.cHearing) := by
  refine T.FWrongTogether.ok scWrongTogether (fun vs H Q E h => ?_) (fun cdv A outer s H vs Q E hr h => ?_)
  · obtain ⟨g, log, rfl, _⟩ := h
    rfl
  · obtain ⟨g, log, rfl, ⟨gs, h1, h2, h3⟩, h20, k⟩ := h
    refine ⟨_, (pss_one (ps_ret (pe_callB (cr_sum rfl) (by rfl) T.b_sum (by decide +kernel) (pa_cons (pe_lc (own := [("hearing", 1)]) (g := gName 1) (tt := tYes) rfl scWrongTogether.nd (pi_list (pv 0)) (blkOk_by (own := [("hearing", 1)]) (N := ["log", "hearing"]) (sc := defScope sWrongTogether) (by decide +kernel)) (fun _ _ _ _ _ => pg_name (i := 1) scWrongTogether.nd rfl (Or.inl rfl)) (fun _ _ _ _ _ => pts_nil) (fun _ _ _ _ _ => (fldK K (pv 1) rfl))) pa_nil)))), ?_⟩
    refine ⟨_, rfl, g, rfl, ⟨_, SqL.of h1⟩, fun D hD => ?_⟩
    refine lc_mi (K := K) (a := g) (fun i => V.int (zOf (log.getD i noHeard))) hD (by rw [List.length_map]; omega) (SqL.of h1) (fun m x H6 R1 hm s6 k1 => ?_) gm_name (fun H6 s6 hD6 => ?_)
    · obtain ⟨a, ha, rfl⟩ := ref_at hm
      obtain ⟨a', e1, _, dx, hx⟩ := log_at h2 h3 (i := m) (by have := lt_of_at ha; omega)
      cases e1.symm.trans ha
      exact ⟨rfl, _, rfl, a, T.cHearing, dx, _, _, rfl, s6 _ _ hx, T.clHearing, T.nHearing_wrong, rF_wrong, k1 _ (Same.refl _)⟩
    · rw [List.length_map, h2, map_places (fun x : Heard => V.int (zOf x)) log noHeard] at hD6
      exact ⟨D, log.map zOf, rfl, SqL.of (by rw [hD6, List.map_map]; rfl), k _ s6⟩
theorem ok_WellHeld (T : Tx K mg) : FnOk P w K mg base CX0 2 T.fWellHeld T.dWellHeld ["nodes", "log"] (spWellHeld T.cNode T.cHearing) := by
  have GTruths := ok_Truths (P := P) (w := w) (base := base) T
  refine T.FWellHeld.ok scWellHeld (fun vs H Q E h => ?_) (fun cdv A outer s H vs Q E hr h => ?_)
  · obtain ⟨l, g, h, rfl, _⟩ := h
    rfl
  · obtain ⟨l, g, h, rfl, hT, ⟨gs, h1, h2, h3⟩, wf, k⟩ := h
    have h20 := wf.log
    refine ⟨_, (pss_cons (ps_set (i := 2) scWellHeld.nd rfl (Or.inr rfl) (pe_call GTruths (hr.mono (by decide)) rfl T.gTruths T.FTruths.kp T.bTruths .nil pass0 (pa_cons (pv 0) pa_nil)))
      (pss_cons (ps_setLc (i := 3) (own := [("hearing", 4)]) (g := gName 4)  rfl scWellHeld.nd rfl rfl (sw_true rfl rfl rfl (by decide +kernel)) (pi_list (pv 1)) (blkOk_by (own := [("hearing", 4)]) (N := ["nodes", "log", "true", "there", "hearing"]) (sc := defScope sWellHeld) (by decide +kernel)) (fun _ _ _ _ _ => pg_name (i := 4) scWellHeld.nd rfl (Or.inl rfl)) (fun _ _ _ _ _ => pts_one (pt_cmpR op_lt (fldK K (pv 4) rfl) (pe_callB (call_len_seqK K) (by rfl) T.b_len (by decide +kernel) (pa_cons (pv 0) pa_nil)) (nomark _))) (fun _ _ _ _ _ => (pv 4)))
      (pss_one (ps_ret (pe_callB call_len_seq (by rfl) T.b_len (by decide +kernel) (pa_cons (pe_lc (own := [("hearing", 4)]) (g := gName 4)  rfl scWellHeld.nd (pi_list (pv 3)) (blkOk_by (own := [("hearing", 4)]) (N := ["nodes", "log", "true", "there", "hearing"]) (sc := defScope sWellHeld) (by decide +kernel)) (fun _ _ _ _ _ => pg_name (i := 4) scWellHeld.nd rfl (Or.inl rfl)) (fun _ _ _ _ _ => pts_one (pt_cmpR op_eq (pe_ix (ix_listK K) (pv 2) (fldK K (pv 4) rfl) (fun _ _ => rfl)) (pe_cmpR op_eq (fldK K (pv 4) rfl) pe_int (nomark _)) (nomark _))) (fun _ _ _ _ _ => (pv 4))) pa_nil)))))), ?_⟩
    refine ⟨_, rfl, l, h.desk, rfl, hT, wf.tree, fun H1 p s1 hp hp1 => ?_⟩
    refine ⟨_, rfl, g, rfl, ⟨_, SqL.of (s1 _ _ h1)⟩, fun D hD => ?_⟩
    obtain ⟨as, hl, hlen, hn⟩ := hT.same s1
    refine lc_fi (K := K) (a := g) (fun i => if decide ((h.log.getD i noHeard).node < cnt h) then some (V.ref (gs.getD i 0)) else none) hD (by rw [List.length_map]; omega) (SqL.of (s1 _ _ h1)) (fun m x H6 R1 R0 hm s6 k1 k0 => ?_) (fun H6 s6 hD6 => ?_)
    · obtain ⟨a, ha, rfl⟩ := ref_at hm
      obtain ⟨a', e1, e2, dx, hx⟩ := log_at h2 h3 (i := m) (by have := lt_of_at ha; omega)
      cases e1.symm.trans ha
      refine ⟨rfl, _, rfl, a, T.cHearing, dx, _, _, rfl, s6 _ _ (s1 _ _ hx), T.clHearing, T.nHearing_node, rF_node, _, rfl, l, _, rfl, .inl (SqL.of (s6 _ _ hl)), _, _, rfl, rfl, _, rfl, ?_⟩
      rw [List.length_map, hlen]
      refine ite2 (fun e => ?_) (fun e => ?_)
      · have e : (h.log.getD m noHeard).node < cnt h := by have := of_decide_eq_true e; show _ < h.desk.tree.nodes.length; omega
        exact ⟨_, rfl, k1 _ (by rw [if_pos (decide_eq_true e), e2]) _ (Same.refl _)⟩
      · have e : ¬ (h.log.getD m noHeard).node < cnt h := fun q => e (decide_eq_true (by have q' : (h.log.getD m noHeard).node < h.desk.tree.nodes.length := q; omega))
        exact k0 (by rw [if_neg (by simpa using e)]) _ (Same.refl _)
    · rw [List.length_map, h2, filterMap_if (fun i => decide ((h.log.getD i noHeard).node < cnt h))] at hD6
      obtain ⟨idx, hidx⟩ : ∃ idx, idx = (List.range h.log.length).filter fun i => decide ((h.log.getD i noHeard).node < cnt h) := ⟨_, rfl⟩
      rw [← hidx] at hD6
      have hin : ∀ i ∈ idx, i < h.log.length ∧ (h.log.getD i noHeard).node < cnt h := fun i hi => by
        rw [hidx] at hi
        have := List.mem_filter.mp hi
        exact ⟨List.mem_range.mp this.1, of_decide_eq_true this.2⟩
      have hil : idx.length ≤ 20 := by
        rw [hidx]
        refine Nat.le_trans (List.length_filter_le _ _) ?_
        rw [List.length_range]
        exact h20
      refine ⟨_, rfl, D, rfl, ⟨_, SqL.of hD6⟩, fun D2 hD2 => ?_⟩
      refine lc_fi (K := K) (a := D) (fun j => if isTrue h.desk.tree (h.log.getD (idx.getD j 0) noHeard).node == (h.log.getD (idx.getD j 0) noHeard).held then some (V.ref (gs.getD (idx.getD j 0) 0)) else none) hD2 (by rw [List.length_map]; omega) (SqL.of hD6) (fun m x H7 R1 R0 hm s7 k1 k0 => ?_) (fun H7 s7 hD7 => ?_)
      · rw [List.getElem?_map] at hm
        obtain ⟨i, hi, ei⟩ := Option.map_eq_some_iff.mp hm
        obtain ⟨q1, q2⟩ := hin i (List.mem_of_getElem? hi)
        obtain ⟨a', e1, e2, dx, hx⟩ := log_at h2 h3 q1
        rw [getD_some hi] at k1 k0
        rw [e2] at k1
        rw [e2] at ei
        subst ei
        have hx7 := s7 _ _ (s6 _ _ (s1 _ _ hx))
        refine ⟨rfl, _, rfl, _, rfl, a', T.cHearing, dx, _, _, rfl, hx7, T.clHearing, T.nHearing_node, rF_node, p, _, _, _, rfl, rfl, SqL.of (s7 _ _ (s6 _ _ hp1)), atI_nat (v := V.bl (isTrue h.desk.tree (h.log.getD i noHeard).node)) (by rw [List.getElem?_map, trL_get q2]; rfl), _, rfl, a', T.cHearing, dx, _, _, rfl, hx7, T.clHearing, T.nHearing_held, rF_held, rfl, rfl, _, rfl, ?_⟩
        have e3 : decide (V.int (oneZero (h.log.getD i noHeard).held) = V.int 1) = (h.log.getD i noHeard).held := by
          unfold oneZero
          cases (h.log.getD i noHeard).held <;> decide
        show if (decide (V.bl (isTrue h.desk.tree (h.log.getD i noHeard).node) = V.bl (decide (V.int (oneZero (h.log.getD i noHeard).held) = V.int 1)))) = true then _ else _
        rw [e3]
        have e4 : decide (V.bl (isTrue h.desk.tree (h.log.getD i noHeard).node) = V.bl (h.log.getD i noHeard).held) = (isTrue h.desk.tree (h.log.getD i noHeard).node == (h.log.getD i noHeard).held) := by
          cases isTrue h.desk.tree (h.log.getD i noHeard).node <;> cases (h.log.getD i noHeard).held <;> decide
        rw [e4]
        refine ite2 (fun e => ?_) (fun e => ?_)
        · exact ⟨_, rfl, k1 _ (by rw [if_pos e]) _ (Same.refl _)⟩
        · exact k0 (by rw [if_neg e]) _ (Same.refl _)
      · rw [List.length_map] at hD7
        refine ⟨D2, _, rfl, .inl (SqL.of hD7), ?_⟩
        rw [filterMap_if (fun j => isTrue h.desk.tree (h.log.getD (idx.getD j 0) noHeard).node == (h.log.getD (idx.getD j 0) noHeard).held), List.length_map, filter_places (fun i => isTrue h.desk.tree (h.log.getD i noHeard).node == (h.log.getD i noHeard).held) idx 0, hidx, List.filter_filter]
        have e5 : ((List.range h.log.length).filter fun i => (isTrue h.desk.tree (h.log.getD i noHeard).node == (h.log.getD i noHeard).held) && decide ((h.log.getD i noHeard).node < cnt h)).length = (h.log.filter (Kp367.rightAt h)).length := by
          rw [filter_places (fun x : Heard => (isTrue h.desk.tree x.node == x.held) && decide (x.node < cnt h)) h.log noHeard]
          congr 1
          refine List.filter_congr fun x _ => ?_
          unfold Kp367.rightAt Kp365.isNode
          rw [Bool.and_comm]
          congr 1
          cases isTrue h.desk.tree x.node <;> cases x.held <;> rfl
        rw [e5]
        exact k _ ((s1.trans s6).trans s7)
end
end Sg

namespace Sg
open PySem PySem.Spec PyProof.Rows L2
open Kp365 (nodeAt isTrue)
open Kp367 (House Heard)
/-! ### looks.py -/
def natL (l : List Nat) : List V := l.map fun (k : Nat) => V.int (k : Int)
def spReadsOf : Sp := fun vs H Q _ => ∃ (s n : Nat), vs = [.int (s : Int), .int (n : Int)] ∧ n ≤ 20 ∧
  ∀ H' p, Same H H' → H p = none → H' p = some (.lst (rdL s n)) → Q (.ref p) H'
def spLeavesOf (K : PySem.W.Frag) (C : Addr) : Sp := fun vs H Q _ => ∃ (l r : Addr) (d : Kp366.Desk) (cs : List Nat), vs = [.ref l, .ref r] ∧ TreeAt C H l d ∧ WFT d.tree ∧ SqL K H r (natL cs) ∧ (∀ c ∈ cs, c < d.tree.nodes.length) ∧
  ∀ H' p, Same H H' → H p = none → H' p = some (.lst (natL (Kp366.allLeaves d cs))) → Q (.ref p) H'
theorem rdL_succ (s n : Nat) : rdL s (n + 1) = rdL s n ++ [.bl (s.testBit n)] := by
  unfold rdL
  rw [List.range_succ, List.map_append]
  rfl
def lenAt (i : Nat) (σ : L2.St) : Nat := numAt i σ
theorem bl_get (bs : List Bool) {j : Nat} (h : j < bs.length) : (bs.map V.bl)[j]? = some (.bl (bs.getD j false)) := by
  rw [List.getElem?_map, List.getElem?_eq_getElem h, List.getD_eq_getElem?_getD, List.getElem?_eq_getElem h]
  rfl
section
variable {P : Program} {w : World} {K : PySem.W.Frag} {mg : Str → Option Value} {base : Heap}
theorem ok_ReadsOf (T : Tx K mg) : FnOk P w K mg base CX0 1 T.fReadsOf T.dReadsOf ["number", "many"] (spReadsOf) := by
  refine T.FReadsOf.ok scReadsOf (fun vs H Q E h => ?_) (fun cdv A outer s H vs Q E hr h => ?_)
  · obtain ⟨s, n, rfl, _⟩ := h
    rfl
  · obtain ⟨s0, n, rfl, hn, k⟩ := h
    refine ⟨_, (pss_cons (ps_set (i := 2) scReadsOf.nd rfl (Or.inl rfl) (pe_lst pa_nil))
      (pss_cons (ps_set (i := 3) scReadsOf.nd rfl (Or.inl rfl) (pv 0))
      (pss_cons (ps_while PassesOwn.never (pt_cmpR op_lt (pe_callB call_len_seq (by rfl) T.b_len (by decide +kernel) (pa_cons (pv 2) pa_nil)) (pv 1) (nomark _)) (pss_cons (ps_expr (pe_bm PySem.F.plainAttrs_list PySem.F.slot_list_append PySem.F.type_list_append mt_append (pv 2) (pa_cons (pe_cmpR op_eq (pe_op op_modN (pv 3) pe_int) pe_int (nomark _)) pa_nil)))
      (pss_one (ps_set (i := 3) scReadsOf.nd rfl (Or.inl rfl) (pe_op op_fdivN (pv 3) pe_int)))))
      (pss_one (ps_ret (pv 2)))))), ?_⟩
    refine ⟨Nat.zero_le _, fun p hp => ?_⟩
    have sn : Same H (upd H p (.lst [])) := Same.new hp
    refine ⟨_, rfl, ?_⟩
    refine ⟨fun m σ H' => ∃ (i : Nat), m = n - i ∧ i ≤ n ∧ σ = [some (.int (s0 : Int)), some (.int (n : Int)), some (.ref p), some (.int ((s0 / 2 ^ i : Nat) : Int))] ∧ Same H H' ∧ H' p = some (.lst (rdL s0 i)),
      ⟨n, 0, rfl, Nat.zero_le _, by rw [Nat.pow_zero, Nat.div_one]; rfl, sn, upd_same⟩, ?_⟩
    rintro m σ H' ⟨i, rfl, hi, rfl, s1, hp1⟩
    refine ⟨_, rfl, p, _, rfl, .inl (SqL.of hp1), _, rfl, _, _, rfl, rfl, _, rfl, ?_⟩
    rw [rdL_len]
    refine ite2 (fun e => ?_) (fun e => ?_)
    · have e : i < n := by simp at e; omega
      refine ⟨_, fun _ _ z => z, ?_⟩
      refine ⟨_, rfl, .inl ⟨rfl, _, SqL.of hp1⟩, _, rfl, _, _, rfl, rfl, (show (2 : Int) ≠ 0 by decide), rfl, p, _, _, rfl, rfl, hp1, ?_, ?_⟩
      · rw [rdL_len]
        exact Nat.lt_of_le_of_lt (show i ≤ 20 by omega) (by decide)
      refine ⟨_, rfl, _, _, rfl, rfl, ⟨by decide, by decide⟩, ?_⟩
      refine ⟨n - (i + 1), by omega, i + 1, rfl, e, ?_, same_upd hp s1, ?_⟩
      · have e2 : ((s0 / 2 ^ i : Nat) : Int).fdiv 2 = ((s0 / 2 ^ (i + 1) : Nat) : Int) := by
          rw [Int.fdiv_eq_ediv_of_nonneg _ (by decide), Nat.pow_succ, ← Nat.div_div_eq_div_mul]
          rfl
        show ([some (.int (s0 : Int)), some (.int (n : Int)), some (.ref p), some (.int (((s0 / 2 ^ i : Nat) : Int).fdiv 2))] : L2.St) = _
        rw [e2]
      · rw [upd_same, rdL_succ]
        have e3 : decide (V.int (((s0 / 2 ^ i : Nat) : Int).fmod 2) = V.int 1) = s0.testBit i := by
          rw [Int.fmod_eq_emod_of_nonneg _ (by decide), Nat.testBit_eq_decide_div_mod_eq]
          refine decide_eq_decide.mpr ⟨fun z => ?_, fun z => ?_⟩
          · have z := V.int.inj z
            omega
          · congr 1
            omega
        rw [← e3]
    · have e : i = n := by simp at e; omega
      subst e
      exact ⟨_, rfl, k _ _ s1 hp hp1⟩
theorem ok_LeavesOf (T : Tx K mg) : FnOk P w K mg base CX0 1 T.fLeavesOf T.dLeavesOf ["nodes", "claims"] (spLeavesOf K T.cNode) := by
  refine T.FLeavesOf.ok scLeavesOf (fun vs H Q E h => ?_) (fun cdv A outer s H vs Q E hr h => ?_)
  · obtain ⟨l, r, d, cs, rfl, _⟩ := h
    rfl
  · obtain ⟨l, r, d, cs, rfl, hT, wf, hR, hcs, k⟩ := h
    refine ⟨_, (pss_cons (ps_set (i := 2) scLeavesOf.nd rfl (Or.inr rfl) (pe_lc (own := [("i", 3)]) (g := gName 3) (tt := tYes) rfl scLeavesOf.nd (pi_range1 (by rfl) T.b_range (pa_cons (pe_callB call_len_seq (by rfl) T.b_len (by decide +kernel) (pa_cons (pv 0) pa_nil)) pa_nil)) (blkOk_by (own := [("i", 3)]) (N := ["nodes", "claims", "below", "i", "child"]) (sc := defScope sLeavesOf) (by decide +kernel)) (fun _ _ _ _ _ => pg_name (i := 3) scLeavesOf.nd rfl (Or.inl rfl)) (fun _ _ _ _ _ => pts_nil) (fun _ _ _ _ _ => (pe_cmpR (op_in_seqK K) (pv 3) (pv 1) (by with_unfolding_all rfl)))))
      (pss_cons (ps_for PassesOwn.never rfl (pi_range3 (by rfl) T.b_range (pa_cons (pe_op op_sub (pe_callB call_len_seq (by rfl) T.b_len (by decide +kernel) (pa_cons (pv 0) pa_nil)) pe_int) (pa_cons (pe_un un_neg pe_int) (pa_cons (pe_un un_neg pe_int) pa_nil)))) (pg_name (i := 3) scLeavesOf.nd rfl (Or.inl rfl))
      (pss_one (ps_if (pt_val (pe_ix ix_list (pv 2) (pv 3) (fun _ _ => rfl))) (pss_one (ps_for PassesOwn.never rfl (pi_list (pe_fld (pe_ix ix_list (pv 0) (pv 3) (fun _ _ => rfl)) rfl)) (pg_name (i := 4) scLeavesOf.nd rfl (Or.inl rfl))
      (pss_one (ps_asg pe_bl (pg_sub (pv 2) (pv 4) set_list)))))
      pss_nil)))
      (pss_one (ps_ret (pe_lc (own := [("i", 3)]) (g := gName 3)  rfl scLeavesOf.nd (pi_range1 (by rfl) T.b_range (pa_cons (pe_callB call_len_seq (by rfl) T.b_len (by decide +kernel) (pa_cons (pv 0) pa_nil)) pa_nil)) (blkOk_by (own := [("i", 3)]) (N := ["nodes", "claims", "below", "i", "child"]) (sc := defScope sLeavesOf) (by decide +kernel)) (fun _ _ _ _ _ => pg_name (i := 3) scLeavesOf.nd rfl (Or.inl rfl)) (fun _ _ _ _ _ => pts_one (PW.pt (pw_and (pt_val (pe_ix (ix_listK K) (pv 2) (pv 3) (fun _ _ => rfl))) (pw_and1 (pt_cmpR op_eq (fldK K (pe_ix (ix_listK K) (pv 0) (pv 3) (fun _ _ => rfl)) rfl) (pe_glob (v := V.int (0)) rfl T.gLEAF ⟨_, rfl⟩) (nomark _)))))) (fun _ _ _ _ _ => (pv 3))))))), ?_⟩
    obtain ⟨as, hl, hlen, hn⟩ := id hT
    have h20 := wf.len
    have hlm : (as.map V.ref).length = d.tree.nodes.length := by rw [List.length_map, hlen]
    refine ⟨_, rfl, l, _, rfl, .inl (SqL.of hl), _, rfl, by omega, by omega, fun D hD => ?_⟩
    refine lw_mi (walk_range (lo := 0)) (fun i => V.bl (decide (i ∈ cs))) hD (by omega) (fun H' _ => trivial) yfn_same (fun i x H0 H' R1 hi s0 s1 hy k1 => ?_) gm_name (fun H1 s1 hD1 => ?_)
    · obtain ⟨rfl, rfl⟩ := hy
      refine ⟨rfl, _, rfl, _, rfl, r, _, rfl, .inl (s1.seq hR), rfl, flat_kids _, ?_⟩
      have e : inV (.int (0 + (i : Int))) (natL cs) = decide (i ∈ cs) := by
        rw [Int.zero_add]
        refine (inV_kids i cs).trans ?_
        rw [Bool.eq_iff_iff]
        simp
      show R1 (V.bl (inV (.int (0 + (i : Int))) (natL cs))) H'
      rw [e]
      exact k1 _ (Same.refl _)
    rw [show ((((as.map V.ref).length : Nat) : Int)).toNat = d.tree.nodes.length by omega] at hD1
    have hB0 : H1 D = some (.lst ((down0 d.tree.nodes.length cs).map V.bl)) := by
      rw [hD1]
      unfold down0
      rw [List.map_map]
      rfl
    refine ⟨_, rfl, l, _, rfl, .inl (SqL.of (s1 _ _ hl)), _, _, rfl, rfl, _, rfl, _, rfl, _, _, _, _, rfl, RgC.neg (by omega) (by omega) (by decide) (by decide), ?_⟩
    rw [hlm, show ((d.tree.nodes.length : Nat) : Int) - 1 - -1 = ((d.tree.nodes.length : Nat) : Int) by omega, Int.toNat_natCast]
    refine for_it walk_rangeC (fun i σ H' => ∃ (v u : Option V) (bs : List Bool), σ = [some (.ref l), some (.ref r), some (.ref D), v, u] ∧ Same H H' ∧ H' D = some (.lst (bs.map V.bl)) ∧ Down d.tree cs (d.tree.nodes.length - i) bs)
      ⟨none, none, _, rfl, s1, hB0, Down.start hcs⟩ (fun _ _ _ _ _ => trivial) ?_ ?_
    · rintro i x σ H0 H' hi ⟨v, u, bs, rfl, s2, hB, hdn⟩ ⟨rfl, hx⟩
      obtain ⟨m, hm⟩ : ∃ m, m = d.tree.nodes.length - 1 - i := ⟨_, rfl⟩
      have em : ((d.tree.nodes.length : Nat) : Int) - 1 + ((i : Nat) : Int) * -1 = (m : Int) := by omega
      obtain rfl : x = .int (m : Int) := hx.trans (congrArg V.int em)
      rw [show d.tree.nodes.length - i = m + 1 by omega] at hdn
      have hml : m < d.tree.nodes.length := by omega
      have hnx : d.tree.nodes.length - (i + 1) = m := by omega
      refine ⟨_, rfl, _, rfl, D, _, _, _, rfl, rfl, SqL.of hB, atI_nat (bl_get bs (by rw [hdn.len]; exact hml)), _, rfl, ?_⟩
      refine ite2 (fun e => ?_) (fun e => ?_)
      · obtain ⟨a, ha⟩ : ∃ a, as[m]? = some a := ⟨_, List.getElem?_eq_getElem (by omega)⟩
        obtain ⟨dx, c, h1, h2⟩ := (hn m a ha).same s2
        refine ⟨_, rfl, _, rfl, l, _, _, _, rfl, rfl, SqL.of (s2 _ _ hl), atI_nat (v := V.ref a) (by rw [List.getElem?_map, ha]; rfl), a, T.cNode, dx, _, _, rfl, h1, T.clNode, T.nNode_children, nF_children, c, rfl, ⟨_, SqL.of h2⟩, ?_⟩
        have hkid := wf.kids m
        refine for_list (K := K) (a := c) (xs := natL (nodeAt d.tree m).kids) (fun t σ H7 => ∃ (u7 : Option V), σ = [some (.ref l), some (.ref r), some (.ref D), some (.int (m : Int)), u7] ∧ Same H H7 ∧ H7 c = some (.lst (natL (nodeAt d.tree m).kids)) ∧ H7 D = some (.lst ((setAll bs ((nodeAt d.tree m).kids.take t)).map V.bl)))
          ⟨_, rfl, s2, h2, hB⟩ (fun t σ H7 _ ⟨_, _, _, hc7, _⟩ => SqL.of hc7) ?_ ?_
        · rintro t y σ H7 ht ⟨u7, rfl, s7, hc7, hB7⟩
          obtain ⟨z, hz, rfl⟩ := nat_at ht
          have hzm := hkid z (List.mem_of_getElem? hz)
          have hcD : c ≠ D := fun q => by
            rw [q, hB7] at hc7
            have := HO.lst.inj (Option.some.inj hc7)
            have e1 : ((setAll bs ((nodeAt d.tree m).kids.take t)).map V.bl)[0]? = (natL (nodeAt d.tree m).kids)[0]? := by rw [this]
            rw [bl_get _ (by rw [setAll_len, hdn.len]; omega)] at e1
            unfold natL at e1
            rw [List.getElem?_map] at e1
            cases q0 : (nodeAt d.tree m).kids[0]? with
            | none => rw [q0] at e1; cases e1
            | some z0 => rw [q0] at e1; cases e1
          refine ⟨_, rfl, _, rfl, D, _, _, z, rfl, rfl, hB7, ?_, ?_⟩
          · unfold ixN
            rw [List.length_map, setAll_len, hdn.len, if_pos (by omega), if_pos (by omega), Int.toNat_natCast]
          · refine ⟨_, rfl, same_upd hD s7, ?_, ?_⟩
            · rw [upd_ne hcD]
              exact hc7
            · rw [upd_same, take_more hz, setAll_snoc, List.map_set]
        · rintro σ H7 ⟨u7, rfl, s7, hc7, hB7⟩
          unfold natL at hB7
          rw [List.length_map, List.take_length] at hB7
          refine ⟨_, _, _, rfl, s7, hB7, ?_⟩
          rw [hnx]
          exact hdn.step wf hml e
      · have e : bs.getD m false = false := by simpa using e
        refine ⟨_, _, bs, rfl, s2, hB, ?_⟩
        rw [hnx]
        exact hdn.skip e
    · rintro σ H' ⟨v, u, bs, rfl, s2, hB, hdn⟩
      rw [Nat.sub_self] at hdn
      refine ⟨_, rfl, l, _, rfl, .inl (SqL.of (s2 _ _ hl)), _, rfl, by omega, by omega, fun D2 hD2 => ?_⟩
      refine lw_fi (walk_range (lo := 0)) (fun i => if bs.getD i false && (nodeAt d.tree i).kind == 0 then some (V.int (i : Int)) else none) hD2 (by omega) (fun H' _ => trivial) yfn_same (fun i x H0 H8 R1 R0 hi s0 s8 hy k1 k0 => ?_) (fun H8 s8 hD8 => ?_)
      · obtain ⟨rfl, hx⟩ := hy
        obtain rfl : x = .int (i : Int) := hx.trans (congrArg V.int (Int.zero_add _))
        rw [hlm] at hi
        have hi : i < d.tree.nodes.length := by omega
        refine ⟨rfl, _, rfl, _, rfl, D, _, _, _, rfl, rfl, SqL.of (s8 _ _ hB), atI_nat (bl_get bs (by rw [hdn.len]; exact hi)), _, rfl, ?_⟩
        refine ite2 (fun e => ?_) (fun e => ?_)
        · obtain ⟨a, ha⟩ : ∃ a, as[i]? = some a := ⟨_, List.getElem?_eq_getElem (by omega)⟩
          obtain ⟨dx, c, h1, h2⟩ := (hn i a ha).same (s2.trans s8)
          refine ⟨_, rfl, _, rfl, l, _, _, _, rfl, rfl, SqL.of (s8 _ _ (s2 _ _ hl)), atI_nat (v := V.ref a) (by rw [List.getElem?_map, ha]; rfl), a, T.cNode, dx, _, _, rfl, h1, T.clNode, T.nNode_kind, nF_kind, rfl, _, rfl, ?_⟩
          refine ite2 (fun e1 => ?_) (fun e1 => ?_)
          · have e1 : (nodeAt d.tree i).kind = 0 := by simp at e1; omega
            exact ⟨_, rfl, k1 _ (by rw [e, e1]; rfl) _ (Same.refl _)⟩
          · have e1 : ¬ (nodeAt d.tree i).kind = 0 := fun q => e1 (by simp [q])
            exact k0 (by rw [e]; simp [e1]) _ (Same.refl _)
        · have e : bs.getD i false = false := by simpa using e
          exact iteF (k0 (by rw [e]; rfl) _ (Same.refl _))
      · rw [hlm, Int.toNat_natCast, filterMap_if (fun i => bs.getD i false && (nodeAt d.tree i).kind == 0) (fun i => V.int ((i : Nat) : Int)), hdn.done wf] at hD8
        exact k _ _ (s2.trans s8) (s2.free hD2) hD8
end
end Sg

namespace Sg
open PySem PySem.Spec PyProof.Rows L2
open Kp365 (nodeAt isTrue)
open Kp367 (House Heard)
/-! ### stakes -/
theorem find_range {p : Nat → Bool} {n k : Nat} (hk : k < n) (hp : p k = true) (hn : ∀ j, j < k → p j = false) : (List.range n).find? p = some k := by
  induction n with
  | zero => omega
  | succ n ih =>
    rw [List.range_succ, List.find?_append]
    rcases Nat.lt_or_ge k n with h | h
    · rw [ih h]
      rfl
    · have e : k = n := by omega
      subst e
      have : (List.range k).find? p = none := List.find?_eq_none.mpr fun j hj => by rw [hn j (List.mem_range.mp hj)]; decide
      rw [this]
      simp [List.find?, hp]
theorem findSome_range {β : Type} {f : Nat → Option β} {n k : Nat} {y : β} (hk : k < n) (hp : f k = some y) (hn : ∀ j, j < k → f j = none) : (List.range n).findSome? f = some y := by
  induction n with
  | zero => omega
  | succ n ih =>
    rw [List.range_succ, List.findSome?_append]
    rcases Nat.lt_or_ge k n with h | h
    · rw [ih h]
      rfl
    · have e : k = n := by omega
      subst e
      have : (List.range k).findSome? f = none := List.findSome?_eq_none_iff.mpr fun j hj => hn j (List.mem_range.mp hj)
      rw [this]
      simp [List.findSome?, hp]
theorem stakes_some {r : Int} {g a b : Nat} (ha : a < 101) (hb : b < 101) (h : fairI r g a b = true) (h1 : ∀ a', a' < a → ∀ b', b' < 101 → fairI r g a' b' = false) (h2 : ∀ b', b' < b → fairI r g a b' = false) : stakesI r g = some (a, b) := by
  unfold stakesI
  refine findSome_range ha ?_ fun a' ha' => ?_
  · rw [find_range hb h h2]
    rfl
  · rw [List.find?_eq_none.mpr fun b' hb' => by rw [h1 a' ha' b' (List.mem_range.mp hb')]; decide]
    rfl
theorem stakes_none {r : Int} {g : Nat} (h1 : ∀ a', a' < 101 → ∀ b', b' < 101 → fairI r g a' b' = false) : stakesI r g = none := by
  unfold stakesI
  refine List.findSome?_eq_none_iff.mpr fun a' ha' => ?_
  rw [List.find?_eq_none.mpr fun b' hb' => by rw [h1 a' (List.mem_range.mp ha') b' (List.mem_range.mp hb')]; decide]
  rfl
def spAreFair : Sp := fun vs H Q _ => ∃ (r : Int) (g a b : Nat), vs = [.int r, .int (g : Int), .int (a : Int), .int (b : Int)] ∧ 0 ≤ r ∧ r ≤ MIL ∧ Q (.bl (fairI r g a b)) H
/-- a pair of numbers, or None -/
def PairOr (H : Hp) (Q : VK) (o : Option (Nat × Nat)) : Prop := match o with
  | none => ∀ H', Same H H' → Q .non H'
  | some p => ∀ H' a, Same H H' → H a = none → H' a = some (.tup [.int (p.1 : Int), .int (p.2 : Int)]) → Q (.ref a) H'
def spLeastStakes : Sp := fun vs H Q _ => ∃ (r : Int) (g : Nat), vs = [.int r, .int (g : Int)] ∧ 0 ≤ r ∧ r ≤ MIL ∧ PairOr H Q (stakesI r g)
theorem mil_is : MIL = 1000000 := rfl
section
variable {P : Program} {w : World} {K : PySem.W.Frag} {mg : Str → Option Value} {base : Heap}
theorem ok_AreFair (T : Tx K mg) : FnOk P w K mg base CX0 1 T.fAreFair T.dAreFair ["right", "g", "a", "b"] (spAreFair) := by
  refine T.FAreFair.ok scAreFair (fun vs H Q E h => ?_) (fun cdv A outer s H vs Q E hr h => ?_)
  · obtain ⟨r, g, a, b, rfl, _⟩ := h
    rfl
  · obtain ⟨r, g, a, b, rfl, h0, h1, k⟩ := h
    refine ⟨_, (pss_cons (ps_set (i := 4) scAreFair.nd rfl (Or.inl rfl) (pe_op op_sub (pe_glob (v := V.int (1000000)) rfl T.gWHOLE ⟨_, rfl⟩) (pv 0)))
      (pss_cons (ps_if (PW.pt (pw_or (pt_cmpR op_ge (pe_op op_mul (pv 4) (pv 1)) (pe_op op_mul (pv 0) (pv 2)) (nomark _)) (pw_or1 (pt_cmpR op_le (pe_op op_mul (pv 0) (pv 1)) (pe_op op_mul (pv 4) (pv 2)) (nomark _))))) (pss_one (ps_ret pe_bl))
      pss_nil)
      (pss_one (ps_ret (pe_and (pe_cmpR op_gt (pe_op op_mul (pv 0) (pv 2)) (pe_op op_mul (pv 4) (pv 3)) (nomark _)) (pe_one (pe_cmpR op_lt (pe_op op_mul (pv 4) (pv 2)) (pe_op op_mul (pv 0) (pv 3)) (nomark _)))))))), ?_⟩
    rw [mil_is] at h1
    have w1 : -(2 ^ 64) < (1000000 : Int) - r ∧ (1000000 : Int) - r < 2 ^ 64 := ⟨by omega, by omega⟩
    have w2 : -(2 ^ 64) < r ∧ r < 2 ^ 64 := ⟨by omega, by omega⟩
    have ek : fairI r g a b = (decide ((1000000 - r) * g < r * a) && decide ((1000000 - r) * b < r * a) && decide ((1000000 - r) * a < r * g) && decide ((1000000 - r) * a < r * b)) := rfl
    rw [ek] at k
    refine ⟨_, rfl, _, _, rfl, rfl, ?_⟩
    refine ⟨_, rfl, _, rfl, _, _, rfl, rfl, .inl w1, _, rfl, _, rfl, _, _, rfl, rfl, .inl w2, _, _, rfl, rfl, _, rfl, ?_⟩
    refine ite2 (fun e => ?_) (fun e => ?_)
    · have e : ¬ ((1000000 : Int) - r) * g < r * a := fun q => absurd (of_decide_eq_true e) (by omega)
      refine iteT ?_
      rw [decide_eq_false e] at k
      exact k
    have e : ((1000000 : Int) - r) * g < r * a := by
      rcases Int.lt_or_le (((1000000 : Int) - r) * g) (r * a) with q | q
      · exact q
      · exact absurd (decide_eq_true q) e
    rw [decide_eq_true e, Bool.true_and] at k
    refine ⟨_, rfl, _, rfl, _, _, rfl, rfl, .inl w2, _, rfl, _, rfl, _, _, rfl, rfl, .inl w1, _, _, rfl, rfl, _, rfl, ?_⟩
    refine ite2 (fun e1 => ?_) (fun e1 => ?_)
    · have e1 : ¬ ((1000000 : Int) - r) * a < r * g := fun q => absurd (of_decide_eq_true e1) (by omega)
      rw [decide_eq_false e1, Bool.and_false, Bool.false_and] at k
      exact k
    have e1 : ((1000000 : Int) - r) * a < r * g := by
      rcases Int.lt_or_le (((1000000 : Int) - r) * a) (r * g) with q | q
      · exact q
      · exact absurd (decide_eq_true q) e1
    rw [decide_eq_true e1, Bool.and_true] at k
    refine ⟨_, rfl, _, rfl, _, _, rfl, rfl, .inl w2, _, rfl, _, rfl, _, _, rfl, rfl, .inl w1, _, _, rfl, rfl, _, rfl, ?_⟩
    refine ite2 (fun e2 => ?_) (fun e2 => ?_)
    · have e2 : ((1000000 : Int) - r) * b < r * a := of_decide_eq_true e2
      rw [decide_eq_true e2, Bool.true_and] at k
      exact ⟨_, rfl, _, rfl, _, _, rfl, rfl, .inl w1, _, rfl, _, rfl, _, _, rfl, rfl, .inl w2, _, _, rfl, rfl, k⟩
    · have e2 : ¬ ((1000000 : Int) - r) * b < r * a := fun q => e2 (decide_eq_true q)
      rw [decide_eq_false e2, Bool.false_and] at k
      exact k
theorem ok_LeastStakes (T : Tx K mg) : FnOk P w K mg base CX0 2 T.fLeastStakes T.dLeastStakes ["right", "g"] (spLeastStakes) := by
  have GAreFair := ok_AreFair (P := P) (w := w) (base := base) T
  refine T.FLeastStakes.ok scLeastStakes (fun vs H Q E h => ?_) (fun cdv A outer s H vs Q E hr h => ?_)
  · obtain ⟨r, g, rfl, _⟩ := h
    rfl
  · obtain ⟨r, g, rfl, h0, h1, k⟩ := h
    refine ⟨_, (pss_cons (ps_for PassesOwn.never rfl (pi_range1 (by rfl) T.b_range (pa_cons (pe_op op_add (pe_glob (v := V.int (100)) rfl T.gMOST_STAKE ⟨_, rfl⟩) pe_int) pa_nil)) (pg_name (i := 2) scLeastStakes.nd rfl (Or.inl rfl))
      (pss_one (ps_for PassesOwn.never rfl (pi_range1 (by rfl) T.b_range (pa_cons (pe_op op_add (pe_glob (v := V.int (100)) rfl T.gMOST_STAKE ⟨_, rfl⟩) pe_int) pa_nil)) (pg_name (i := 3) scLeastStakes.nd rfl (Or.inl rfl))
      (pss_one (ps_if (pt_val (pe_call GAreFair (hr.mono (by decide)) rfl T.gAreFair T.FAreFair.kp T.bAreFair .nil pass0 (pa_cons (pv 0) (pa_cons (pv 1) (pa_cons (pv 2) (pa_cons (pv 3) pa_nil)))))) (pss_one (ps_ret (pe_tup (pa_cons (pv 2) (pa_cons (pv 3) pa_nil)))))
      pss_nil)))))
      (pss_one (ps_ret pe_non))), ?_⟩
    refine ⟨_, _, rfl, rfl, 101, rfl, by decide, by decide, ?_⟩
    refine for_range (n := 101) (fun a σ H' => ∃ v u : Option V, σ = [some (.int r), some (.int (g : Int)), v, u] ∧ Same H H' ∧ ∀ a', a' < a → ∀ b', b' < 101 → fairI r g a' b' = false) ⟨none, none, rfl, Same.refl _, fun a' ha => absurd ha (Nat.not_lt_zero _)⟩ ?_ ?_
    · rintro a σ H' ha ⟨v, u, rfl, s1, hn⟩
      rw [Int.zero_add]
      refine ⟨_, _, rfl, rfl, 101, rfl, by decide, by decide, ?_⟩
      refine for_range (n := 101) (fun b σ H2 => ∃ u : Option V, σ = [some (.int r), some (.int (g : Int)), some (.int (a : Int)), u] ∧ Same H H2 ∧ ∀ b', b' < b → fairI r g a b' = false) ⟨u, rfl, s1, fun b' hb => absurd hb (Nat.not_lt_zero _)⟩ ?_ ?_
      · rintro b σ H2 hb ⟨u2, rfl, s2, hn2⟩
        rw [Int.zero_add]
        refine ⟨_, rfl, _, rfl, _, rfl, _, rfl, r, g, a, b, rfl, h0, h1, _, rfl, ?_⟩
        refine ite2 (fun e => ?_) (fun e => ?_)
        · refine ⟨_, rfl, _, rfl, (by show 2 ≤ sizeLine; decide), fun t ht => ?_⟩
          rw [stakes_some ha hb e hn hn2] at k
          exact k _ t (s2.trans (Same.new ht)) (s2.free ht) upd_same
        · refine ⟨_, rfl, s2, fun b' hb' => ?_⟩
          rcases Nat.lt_or_ge b' b with q | q
          · exact hn2 b' q
          · have : b' = b := by omega
            rw [this]
            simpa using e
      · rintro σ H2 ⟨u2, rfl, s2, hn2⟩
        refine ⟨_, _, rfl, s2, fun a' ha' b' hb' => ?_⟩
        rcases Nat.lt_or_ge a' a with q | q
        · exact hn a' q b' hb'
        · have : a' = a := by omega
          rw [this]
          exact hn2 b' hb'
    · rintro σ H' ⟨v, u, rfl, s1, hn⟩
      rw [stakes_none hn] at k
      exact k _ s1
end
end Sg

namespace Sg
open PySem PySem.Spec PyProof.Rows L2
open Kp365 (nodeAt isTrue)
open Kp367 (House Heard)
/-! ### all sets, sorted -/
/-- the keys of these sets lie at these places -/
def KeysAt (d : Kp366.Desk) (H : Hp) (ts : List Addr) (ss : List Nat) : Prop := ts.length = ss.length ∧ ∀ (j : Nat) t s, ts[j]? = some t → ss[j]? = some s → H t = some (.tup ((key d s).map V.int))
theorem KeysAt.same {d : Kp366.Desk} {H H' : Hp} {ts : List Addr} {ss : List Nat} (h : KeysAt d H ts ss) (s : Same H H') : KeysAt d H' ts ss := ⟨h.1, fun j t x e1 e2 => s _ _ (h.2 j t x e1 e2)⟩
theorem KeysAt.append {d : Kp366.Desk} {H : Hp} {ts us : List Addr} {ss xs : List Nat} (h : KeysAt d H ts ss) (h' : KeysAt d H us xs) : KeysAt d H (ts ++ us) (ss ++ xs) := by
  refine ⟨by rw [List.length_append, List.length_append, h.1, h'.1], fun j t x e1 e2 => ?_⟩
  rcases Nat.lt_or_ge j ts.length with q | q
  · rw [List.getElem?_append_left q] at e1
    rw [List.getElem?_append_left (by rw [← h.1]; exact q)] at e2
    exact h.2 j t x e1 e2
  · rw [List.getElem?_append_right q] at e1
    rw [List.getElem?_append_right (by rw [← h.1]; exact q), ← h.1] at e2
    exact h'.2 _ t x e1 e2
def BB : Int := 2097152
theorem key_len (d : Kp366.Desk) (s : Nat) : (key d s).length = 3 := rfl
theorem key_bd {d : Kp366.Desk} (hp : ∀ p ∈ d.price, p ≤ 100) (hn : d.tree.nodes.length ≤ 20) {s : Nat} (hs : s < 2 ^ 20) : TS.Bd BB (key d s) := by
  have h1 := cost_le d hp s
  have h2 := size_le d s
  intro m hm
  unfold key at hm
  have e : (2 : Nat) ^ 20 = 1048576 := by decide
  rw [e] at hs
  unfold BB
  rcases List.mem_cons.mp hm with q | hm
  · subst q; omega
  rcases List.mem_cons.mp hm with q | hm
  · subst q; omega
  rw [List.mem_singleton] at hm
  subst hm
  omega
theorem code_key (d : Kp366.Desk) (s : Nat) : TS.code BB (key d s) = (Kp366.costOf d s : Int) * (BB * BB) + ((Kp366.size d s : Int) * BB + (s : Int)) := by
  unfold key TS.code TS.code TS.code TS.code
  show (Kp366.costOf d s : Int) * BB ^ 2 + ((Kp366.size d s : Int) * BB ^ 1 + ((s : Int) * BB ^ 0 + 0)) = _
  have e2 : BB ^ 2 = BB * BB := by decide
  have e1 : BB ^ 1 = BB := by decide
  have e0 : BB ^ 0 = 1 := by decide
  rw [e2, e1, e0]
  omega
theorem code_ahead {d : Kp366.Desk} (hn : d.tree.nodes.length ≤ 20) {x y : Nat} (hx : x < 2 ^ 20) (hy : y < 2 ^ 20) (h : TS.code BB (key d x) ≤ TS.code BB (key d y)) : ¬ ahead d y x := by
  rw [code_key, code_key] at h
  have a2 := size_le d x
  have b2 := size_le d y
  have e : (2 : Nat) ^ 20 = 1048576 := by decide
  rw [e] at hx hy
  unfold ahead
  have eB : BB * BB = 4398046511104 := by decide
  rw [eB] at h
  unfold BB at h
  omega
def spSetsOf (K : PySem.W.Frag) (C : Addr) : Sp := fun vs H Q _ => ∃ (l r : Addr) (d : Kp366.Desk) (ls : List Nat), vs = [.ref l, .ref r] ∧ TreeAt C H l d ∧ d.tree.nodes.length ≤ 20 ∧ (∀ p ∈ d.price, p ≤ 100) ∧ SqL K H r (natL ls) ∧ (∀ i, i ≤ d.tree.nodes.length → (nums ls i).length ≤ 1024) ∧
  ∀ H' p us ys, Same H H' → H p = none → H' p = some (.lst (us.map V.ref)) → KeysAt d H' us ys → ys.Perm (nums ls d.tree.nodes.length) → ys.Pairwise (fun x y => ¬ ahead d y x) → Q (.ref p) H'
/-- the ints of a tuple -/
def intsAt (H : Hp) (t : Addr) : List Int := match H t with
  | some (.tup vs) => vs.map fun v => match v with | .int z => z | _ => 0
  | _ => []
def numOf (H : Hp) (t : Addr) : Nat := ((intsAt H t).getD 2 0).toNat
theorem intsAt_key {d : Kp366.Desk} {H : Hp} {t : Addr} {s : Nat} (h : H t = some (.tup ((key d s).map V.int))) : intsAt H t = key d s := by
  unfold intsAt
  rw [h]
  rfl
theorem numOf_key {d : Kp366.Desk} {H : Hp} {t : Addr} {s : Nat} (h : H t = some (.tup ((key d s).map V.int))) : numOf H t = s := by
  unfold numOf
  rw [intsAt_key h]
  show Int.toNat (s : Int) = s
  omega
theorem KeysAt.nums {d : Kp366.Desk} {H : Hp} {ts : List Addr} {ss : List Nat} (h : KeysAt d H ts ss) : ts.map (numOf H) = ss := by
  apply List.ext_getElem?
  intro i
  rw [List.getElem?_map]
  rcases Nat.lt_or_ge i ts.length with q | q
  · have e1 : ts[i]? = some ts[i] := List.getElem?_eq_getElem q
    have e2 : ss[i]? = some (ss[i]'(by rw [← h.1]; exact q)) := List.getElem?_eq_getElem (by rw [← h.1]; exact q)
    rw [e1, e2]
    exact congrArg some (numOf_key (h.2 i _ _ e1 e2))
  · rw [List.getElem?_eq_none q, List.getElem?_eq_none (by rw [← h.1]; exact q)]
    rfl
theorem KeysAt.key {d : Kp366.Desk} {H : Hp} {ts : List Addr} {ss : List Nat} (h : KeysAt d H ts ss) {t : Addr} (ht : t ∈ ts) : H t = some (.tup ((key d (numOf H t)).map V.int)) ∧ numOf H t ∈ ss := by
  obtain ⟨i, hi⟩ := List.mem_iff_getElem?.mp ht
  have q := (List.getElem?_eq_some_iff.mp hi).1
  have e2 : ss[i]? = some (ss[i]'(by rw [← h.1]; exact q)) := List.getElem?_eq_getElem (by rw [← h.1]; exact q)
  have hk := h.2 i _ _ hi e2
  rw [numOf_key hk]
  exact ⟨hk, List.mem_of_getElem? e2⟩
theorem key_add {d : Kp366.Desk} {s i : Nat} (hb : s.testBit i = false) (hi : i < d.tree.nodes.length) : key d (s + 2 ^ i) = [(Kp366.costOf d s : Int) + ((d.price.getD i 0 : Nat) : Int), (Kp366.size d s : Int) + 1, (s : Int) + ((2 ^ i : Nat) : Int)] := by
  unfold key
  rw [cost_add d hb hi, size_add d hb hi]
  rfl
section
variable {P : Program} {w : World} {K : PySem.W.Frag} {mg : Str → Option Value} {base : Heap}
theorem ok_SetsOf (T : Tx K mg) : FnOk P w K mg base CX0 1 T.fSetsOf T.dSetsOf ["nodes", "leaves"] (spSetsOf K T.cNode) := by
  refine T.FSetsOf.ok scSetsOf (fun vs H Q E h => ?_) (fun cdv A outer s H vs Q E hr h => ?_)
  · obtain ⟨l, r, d, ls, rfl, _⟩ := h
    rfl
  · obtain ⟨l, r, d, ls, rfl, hT, h20, hp100, hR, h1024, k⟩ := h
    refine ⟨_, (pss_cons (ps_set (i := 2) scSetsOf.nd rfl (Or.inl rfl) (pe_lst (pa_cons (pe_tup (pa_cons pe_int (pa_cons pe_int (pa_cons pe_int pa_nil)))) pa_nil)))
      (pss_cons (ps_set (i := 3) scSetsOf.nd rfl (Or.inr rfl) pe_int)
      (pss_cons (ps_for PassesOwn.never rfl (pi_enum (by rfl) T.b_enumerate (pa_cons (pv 0) pa_nil)) (pg_tup rfl (pgs_cons (pg_name (i := 4) scSetsOf.nd rfl (Or.inl rfl)) (pgs_cons (pg_name (i := 5) scSetsOf.nd rfl (Or.inr rfl)) pgs_nil)))
      (pss_cons (ps_if (pt_cmpR op_in_seq (pv 4) (pv 1) (by with_unfolding_all rfl)) (pss_one (ps_set (i := 2) scSetsOf.nd rfl (Or.inl rfl) (pe_op op_cat (pv 2) (pe_lc (own := [("cost", 6), ("size", 7), ("number", 8)]) (g := (gTup K 3 (gCons (gName 6) (gCons (gName 7) (gCons (gName 8) gNil))))) (tt := tYes) rfl scSetsOf.nd (pi_list (pv 2)) (blkOk_by (own := [("cost", 6), ("size", 7), ("number", 8)]) (N := ["nodes", "leaves", "found", "counts_for", "i", "node", "cost", "size", "number"]) (sc := defScope sSetsOf) (by decide +kernel)) (fun _ _ _ _ _ => pg_tupK K rfl (pgs_cons (pg_name (i := 6) scSetsOf.nd rfl (Or.inl rfl)) (pgs_cons (pg_name (i := 7) scSetsOf.nd rfl (Or.inl rfl)) (pgs_cons (pg_name (i := 8) scSetsOf.nd rfl (Or.inl rfl)) pgs_nil)))) (fun _ _ _ _ _ => pts_nil) (fun _ _ _ _ _ => (pe_tup (pa_cons (pe_op op_add (pv 6) (fldK K (pv 5) rfl)) (pa_cons (pe_op op_add (pv 7) pe_int) (pa_cons (pe_op op_add (pv 8) (pv 3)) pa_nil)))))))))
      pss_nil)
      (pss_one (ps_set (i := 3) scSetsOf.nd rfl (Or.inr rfl) (pe_op op_mul (pv 3) pe_int)))))
      (pss_one (ps_ret (pe_callB cr_sorted3 (by rfl) T.b_sorted (by decide +kernel) (pa_cons (pv 2) pa_nil))))))), ?_⟩
    obtain ⟨as, hl, hlen, hn⟩ := id hT
    refine ⟨(by show 3 ≤ sizeLine; decide), fun t0 ht0 => ⟨(by show 1 ≤ sizeLine; decide), fun f0 hf0 => ⟨_, rfl, l, as.map V.ref, rfl, ?_⟩⟩⟩
    have sn : Same H (upd (upd H t0 (.tup [.int 0, .int 0, .int 0])) f0 (.lst [.ref t0])) := (Same.new ht0).trans (Same.new hf0)
    have ht1 : (upd (upd H t0 (.tup [.int 0, .int 0, .int 0])) f0 (.lst [.ref t0])) t0 = some (.tup [.int 0, .int 0, .int 0]) := by
      rw [upd_ne (ne_of_none (upd_same (H := H) (a := t0)) hf0), upd_same]
    refine ⟨SqL.of (sn _ _ hl), for_it walk_enum (fun i σ H' => ∃ (f : Addr) (ts : List Addr) (v u : Option V), σ = [some (.ref l), some (.ref r), some (.ref f), some (.int ((2 ^ i : Nat) : Int)), v, u, none, none, none] ∧ Same H H' ∧ H f = none ∧ H' f = some (.lst (ts.map V.ref)) ∧ KeysAt d H' ts (nums ls i))
      ⟨f0, [t0], none, none, rfl, sn, (Same.new ht0).free hf0, upd_same, rfl, fun j t s e1 e2 => ?_⟩ (fun i σ H' _ ⟨_, _, _, _, _, s5, _⟩ => SqL.of (s5 _ _ hl)) ?_ ?_⟩
    · match j with
      | 0 =>
        cases e1
        cases e2
        rw [ht1]
        unfold key
        rw [cost_zero, size_zero]
        rfl
      | j + 1 => cases e1
    · rintro i y σ H0 H' hi ⟨f, ts, v, u, rfl, s5', hf, hf5', hk5'⟩ ⟨Tp, x1, x2, rfl, hTp, rfl, g1, g2⟩
      cases g1
      obtain ⟨a, ha, rfl⟩ := ref_at g2
      have sT : Same H0 (upd H0 Tp (.tup [.int ((i : Nat) : Int), .ref a])) := Same.new hTp
      have s5 := s5'.trans sT
      have hf5 := sT _ _ hf5'
      have hk5 := hk5'.same sT
      have hil : i < d.tree.nodes.length := by rw [List.length_map, hlen] at hi; exact hi
      refine ⟨Tp, _, rfl, SqT.of upd_same, rfl, _, _, rfl, _, _, rfl, rfl, ?_⟩
      generalize upd H0 Tp (.tup [.int ((i : Nat) : Int), .ref a]) = H' at s5 hf5 hk5 sT
      obtain ⟨dx, c, h1, h2⟩ := (hn i a ha).same s5
      have e2i : ((2 ^ i : Nat) : Int) * 2 = ((2 ^ (i + 1) : Nat) : Int) := by rw [Nat.pow_succ]; omega
      have hw : -(2 ^ 64) < ((2 ^ i : Nat) : Int) ∧ ((2 ^ i : Nat) : Int) < 2 ^ 64 := by
        have : 2 ^ i ≤ 2 ^ 20 := Nat.pow_le_pow_right (by decide) (by omega)
        have e : (2 : Nat) ^ 20 = 1048576 := by decide
        rw [e] at this
        generalize 2 ^ i = q at this
        omega
      refine ⟨_, rfl, _, rfl, r, _, rfl, .inl (s5.seq hR), rfl, flat_kids _, _, rfl, ?_⟩
      have ein : inV (.int ((i : Nat) : Int)) (natL ls) = decide (i ∈ ls) := by
        refine (inV_kids i ls).trans ?_
        rw [Bool.eq_iff_iff]
        simp
      show if (inV (.int ((i : Nat) : Int)) (natL ls)) = true then _ else _
      rw [ein]
      refine ite2 (fun e => ?_) (fun e => ?_)
      · have e : i ∈ ls := of_decide_eq_true e
        have hns : nums ls (i + 1) = nums ls i ++ (nums ls i).map fun s => s + 2 ^ i := by
          conv => lhs; unfold nums
          rw [if_pos e]
        refine ⟨_, rfl, _, rfl, f, rfl, ⟨_, SqL.of hf5⟩, fun D hD => ?_⟩
        refine lw_new walk_list (fun j b H6 => b ≠ D ∧ ∃ s, (nums ls i)[j]? = some s ∧ H6 b = some (.tup ((key d (s + 2 ^ i)).map V.int))) hD (by rw [List.length_map, hk5.1]; have := h1024 i (by omega); omega) (fun H6 s6 => SqL.of (s6 _ _ hf5)) yat_same (fun j b H6 H7 q sb => ?_) (fun j b H6 q => ?_) ?_ gm_tup3 ?_
        · obtain ⟨q1, s, q2, q3⟩ := q
          exact ⟨q1, s, q2, sb _ _ q1 q3⟩
        · obtain ⟨q1, s, q2, q3⟩ := q
          exact ⟨_, q3⟩
        · rintro j y H6 H6' R1 hj s6 s6' ⟨oD, hD'⟩ ⟨rfl, gj⟩ kR
          obtain ⟨t, ht, rfl⟩ := ref_at gj
          have hjn : j < (nums ls i).length := by rw [← hk5.1]; exact lt_of_at ht
          have es : (nums ls i)[j]? = some (nums ls i)[j] := List.getElem?_eq_getElem hjn
          generalize (nums ls i)[j] = sj at es
          have hkt := s6' _ _ (hk5.2 j t _ ht es)
          have hbit : sj.testBit i = false := Nat.testBit_lt_two_pow (nums_lt (List.mem_of_getElem? es))
          refine ⟨t, _, rfl, SqT.of hkt, rfl, _, _, rfl, _, _, rfl, _, _, rfl, rfl, rfl, ?_⟩
          refine ⟨_, rfl, _, rfl, a, T.cNode, dx, _, _, rfl, s6' _ _ h1, T.clNode, T.nNode_price, nF_price, _, _, rfl, rfl, _, rfl, _, _, rfl, rfl, _, rfl, _, rfl, _, _, rfl, rfl, (by show 3 ≤ sizeLine; decide), fun tn htn => ?_⟩
          refine kR tn _ (Same.new htn) htn ⟨(ne_of_none hD' htn).symm, sj, es, ?_⟩
          rw [upd_same, key_add hbit hil]
          rfl
        · intro H6 bs s6 hD6 hbl hnd hb
          rw [List.length_map] at hbl
          have hkb : KeysAt d H6 bs ((nums ls i).map fun s => s + 2 ^ i) := by
            refine ⟨by rw [hbl, List.length_map, hk5.1], fun j t s e1 e2 => ?_⟩
            obtain ⟨_, s', q2, q3⟩ := hb j t e1
            rw [List.getElem?_map, q2] at e2
            cases e2
            exact q3
          refine ⟨f, D, _, _, rfl, rfl, s6 _ _ hf5, hD6, ?_, fun p hp => ?_⟩
          · rw [List.length_map, List.length_map, hbl, hk5.1]
            have := h1024 i (by omega)
            exact Nat.le_of_lt (Nat.lt_of_le_of_lt (show _ ≤ 2048 by omega) (by decide))
          have sp : Same H6 (upd H6 p (.lst (ts.map V.ref ++ bs.map V.ref))) := Same.new hp
          refine ⟨_, rfl, _, _, rfl, rfl, .inl hw, ?_⟩
          refine ⟨p, ts ++ bs, some (.int ((i : Nat) : Int)), some (.ref a), ?_, (s5.trans s6).trans sp, (s5.trans s6).free hp, ?_, ?_⟩
          · rw [← e2i]
            rfl
          · rw [upd_same, List.map_append]
          · rw [hns]
            exact ((hk5.same s6).append hkb).same sp
      · have e : ¬ i ∈ ls := fun q => e (decide_eq_true q)
        have hns : nums ls (i + 1) = nums ls i := by
          conv => lhs; unfold nums
          rw [if_neg e]
        refine ⟨_, rfl, _, _, rfl, rfl, .inl hw, ?_⟩
        refine ⟨f, ts, some (.int ((i : Nat) : Int)), some (.ref a), ?_, s5, hf, hf5, ?_⟩
        · rw [← e2i]
          rfl
        · rw [hns]
          exact hk5
    · rintro σ H' ⟨f, ts, v, u, rfl, s5, hf, hf5, hk5⟩
      rw [List.length_map, hlen] at hk5
      have hlt20 : ∀ s ∈ nums ls d.tree.nodes.length, s < 2 ^ 20 := fun s hs => Nat.lt_of_lt_of_le (nums_lt hs) (Nat.pow_le_pow_right (by decide) h20)
      refine ⟨_, rfl, f, ts, intsAt H', BB, rfl, SqL.of hf5, fun t ht => ?_, fun us p hperm hpw hp => ?_⟩
      · obtain ⟨q1, q2⟩ := hk5.key ht
        rw [intsAt_key q1]
        exact ⟨q1, rfl, key_bd hp100 h20 (hlt20 _ q2)⟩
      · have sp : Same H' (upd H' p (.lst (us.map V.ref))) := Same.new hp
        have hu : ∀ u ∈ us, H' u = some (.tup ((key d (numOf H' u)).map V.int)) ∧ numOf H' u < 2 ^ 20 := fun u hu => by
          obtain ⟨q1, q2⟩ := hk5.key (hperm.mem_iff.mp hu)
          exact ⟨q1, hlt20 _ q2⟩
        refine k _ p us (us.map (numOf H')) (s5.trans sp) (s5.free hp) upd_same ⟨by rw [List.length_map], fun j t s e1 e2 => ?_⟩ ?_ ?_
        · rw [List.getElem?_map, e1] at e2
          cases e2
          exact sp _ _ (hu t (List.mem_of_getElem? e1)).1
        · rw [← hk5.nums]
          exact hperm.map _
        · rw [List.pairwise_map]
          refine List.Pairwise.imp_of_mem (fun {x y} hx hy hxy => ?_) hpw
          obtain ⟨x1, x2⟩ := hu x hx
          obtain ⟨y1, y2⟩ := hu y hy
          rw [intsAt_key x1, intsAt_key y1] at hxy
          exact code_ahead h20 x2 y2 hxy
end
end Sg

namespace Sg
open PySem PySem.Spec PyProof.Rows L2
open Kp365 (nodeAt isTrue)
open Kp367 (House Heard)
def spCheapestSet (K : PySem.W.Frag) (C : Addr) : Sp := fun vs H Q _ => ∃ (l r : Addr) (d : Kp366.Desk) (cs : List Nat) (t : Nat), vs = [.ref l, .ref r, .int (t : Int)] ∧ TreeAt C H l d ∧ WFT d.tree ∧ (∀ p ∈ d.price, p ≤ 100) ∧ SqL K H r (natL cs) ∧ (∀ c ∈ cs, c < d.tree.nodes.length) ∧ cs.length ≤ 1000 ∧
  (Kp366.allLeaves d cs).length ≤ 10 ∧ t ≤ 100 ∧ PairOr H Q ((Kp366.cheapest d cs t).map fun s => (Kp366.costOf d s, s))
section
variable {P : Program} {w : World} {K : PySem.W.Frag} {mg : Str → Option Value} {base : Heap}
theorem ok_CheapestSet (T : Tx K mg) : FnOk P w K mg base CX0 4 T.fCheapestSet T.dCheapestSet ["nodes", "claims", "t"] (spCheapestSet K T.cNode) := by
  have GAllHeld := ok_AllHeld (P := P) (w := w) (base := base) T
  have GLeavesOf := ok_LeavesOf (P := P) (w := w) (base := base) T
  have GReadsOf := ok_ReadsOf (P := P) (w := w) (base := base) T
  have GRightWins := ok_RightWins (P := P) (w := w) (base := base) T
  have GSetsOf := ok_SetsOf (P := P) (w := w) (base := base) T
  have GTruths := ok_Truths (P := P) (w := w) (base := base) T
  refine T.FCheapestSet.ok scCheapestSet (fun vs H Q E h => ?_) (fun cdv A outer s H vs Q E hr h => ?_)
  · obtain ⟨l, r, d, cs, t, rfl, _⟩ := h
    rfl
  · obtain ⟨l, r, d, cs, t, rfl, hT, wf, hp100, hR, hcs, hcl, h10, ht, k⟩ := h
    refine ⟨_, (pss_cons (ps_set (i := 3) scCheapestSet.nd rfl (Or.inr rfl) (pe_call GTruths (hr.mono (by decide)) rfl T.gTruths T.FTruths.kp T.bTruths .nil pass0 (pa_cons (pv 0) pa_nil)))
      (pss_cons (ps_for PassesOwn.never rfl (pi_list (pe_call GSetsOf (hr.mono (by decide)) rfl T.gSetsOf T.FSetsOf.kp T.bSetsOf .nil pass0 (pa_cons (pv 0) (pa_cons (pe_call GLeavesOf (hr.mono (by decide)) rfl T.gLeavesOf T.FLeavesOf.kp T.bLeavesOf .nil pass0 (pa_cons (pv 0) (pa_cons (pv 1) pa_nil))) pa_nil)))) (pg_tup rfl (pgs_cons (pg_name (i := 4) scCheapestSet.nd rfl (Or.inl rfl)) (pgs_cons (pg_name (i := 5) scCheapestSet.nd rfl (Or.inl rfl)) (pgs_cons (pg_name (i := 6) scCheapestSet.nd rfl (Or.inl rfl)) pgs_nil))))
      (pss_cons (ps_set (i := 7) scCheapestSet.nd rfl (Or.inr rfl) (pe_call GAllHeld (hr.mono (by decide)) rfl T.gAllHeld T.FAllHeld.kp T.bAllHeld .nil pass0 (pa_cons (pv 0) (pa_cons (pe_call GReadsOf (hr.mono (by decide)) rfl T.gReadsOf T.FReadsOf.kp T.bReadsOf .nil pass0 (pa_cons (pv 6) (pa_cons (pe_callB call_len_seq (by rfl) T.b_len (by decide +kernel) (pa_cons (pv 0) pa_nil)) pa_nil))) pa_nil))))
      (pss_one (ps_if (pt_val (pe_callB (cr_all rfl) (by rfl) T.b_all (by decide +kernel) (pa_cons (pe_lc (own := [("i", 8)]) (g := gName 8) (tt := tYes) rfl scCheapestSet.nd (pi_list (pv 1)) (blkOk_by (own := [("i", 8)]) (N := ["nodes", "claims", "t", "true", "cost", "size", "number", "held", "i"]) (sc := defScope sCheapestSet) (by decide +kernel)) (fun _ _ _ _ _ => pg_name (i := 8) scCheapestSet.nd rfl (Or.inl rfl)) (fun _ _ _ _ _ => pts_nil) (fun _ _ _ _ _ => (pe_cmpR op_ge (pe_call GRightWins (hr.mono (by decide)) rfl T.gRightWins T.FRightWins.kp T.bRightWins .nil pass0 (pa_cons (pe_ix (ix_listK K) (pv 3) (pv 8) (fun _ _ => rfl)) (pa_cons (pe_ix (ix_listK K) (pv 7) (pv 8) (fun _ _ => rfl)) pa_nil))) (pe_op op_mul (pv 2) (pe_glob (v := V.int (10000)) rfl T.gHUNDREDTH ⟨_, rfl⟩)) (nomark _)))) pa_nil))) (pss_one (ps_ret (pe_tup (pa_cons (pv 4) (pa_cons (pv 6) pa_nil)))))
      pss_nil))))
      (pss_one (ps_ret pe_non)))), ?_⟩
    obtain ⟨as, hl, hlen, hn⟩ := id hT
    have h20 := wf.len
    refine ⟨_, rfl, l, d, rfl, hT, wf, fun H1 tr s1 htr htr1 => ?_⟩
    refine ⟨_, rfl, _, rfl, _, rfl, l, r, d, cs, rfl, hT.same s1, wf, s1.seq hR, hcs, fun H2 lv s2 hlv hlv2 => ?_⟩
    have s12 := s1.trans s2
    refine ⟨l, lv, d, Kp366.allLeaves d cs, rfl, hT.same s12, h20, hp100, SqL.of hlv2, fun i hi => ?_, fun H3 q us ys s3 hq hq3 hk hperm hpw => ?_⟩
    · refine Nat.le_trans (nums_len_all d cs hi) ?_
      exact Nat.pow_le_pow_right (by decide) h10
    have s13 := s12.trans s3
    have hy : ∀ s, s ∈ ys ↔ s ∈ sets d cs := fun s => hperm.mem_iff.trans nums_sets
    have htr3 := s3 _ _ (s2 _ _ htr1)
    refine ⟨q, rfl, ⟨_, SqL.of hq3⟩, for_list (K := K) (a := q) (xs := us.map V.ref) (fun j σ H' => ∃ v1 v2 v3 v4 : Option V, σ = [some (.ref l), some (.ref r), some (.int (t : Int)), some (.ref tr), v1, v2, v3, v4, none] ∧ Same H3 H' ∧ ∀ m x, m < j → ys[m]? = some x → reachI d cs t x = false)
      ⟨none, none, none, none, rfl, Same.refl _, fun m x hm => absurd hm (Nat.not_lt_zero _)⟩ (fun j σ H' _ ⟨_, _, _, _, _, s5, _⟩ => SqL.of (s5 _ _ hq3)) ?_ ?_⟩
    · rintro j y σ H4 hj ⟨v1, v2, v3, v4, rfl, s4, hno⟩
      obtain ⟨u, hu, rfl⟩ := ref_at hj
      have hjl : j < ys.length := by rw [← hk.1]; exact lt_of_at hu
      have es : ys[j]? = some ys[j] := List.getElem?_eq_getElem hjl
      generalize ys[j] = sj at es
      have hkt := s4 _ _ (hk.2 j u _ hu es)
      have s14 := s13.trans s4
      refine ⟨u, _, rfl, SqT.of hkt, rfl, _, _, rfl, _, _, rfl, _, _, rfl, rfl, ?_⟩
      refine ⟨_, rfl, _, rfl, _, rfl, l, _, rfl, .inl (SqL.of (s14 _ _ hl)), sj, d.tree.nodes.length, ?_, h20, fun H5 rd s5 hrd hrd5 => ?_⟩
      · rw [List.length_map, hlen]
        rfl
      have s15 := s14.trans s5
      refine ⟨l, rd, d, sj, rfl, hT.same s15, wf, hrd5, fun H6 hd s6 hhd hhd6 => ?_⟩
      have s16 := s15.trans s6
      have s36 := (s4.trans s5).trans s6
      refine ⟨_, rfl, r, rfl, ⟨_, s16.seq hR⟩, fun D hD => ?_⟩
      refine lc_mi (K := K) (a := r) (fun m => V.bl ((fun i => decide (10000 * (t : Int) ≤ rI d sj i)) (cs.getD m 0))) hD (by unfold natL; rw [List.length_map]; exact hcl) (s16.seq hR) (fun m x H7 R1 hm s7 k1 => ?_) gm_name (fun H7 s7 hD7 => ?_)
      · obtain ⟨z, hz, rfl⟩ := nat_at hm
        rw [getD_some hz] at k1
        have hzl := hcs z (List.mem_of_getElem? hz)
        refine ⟨rfl, _, rfl, _, rfl, tr, _, _, _, rfl, rfl, SqL.of (s7 _ _ (s36 _ _ htr3)), atI_nat (v := V.bl (isTrue d.tree z)) (by rw [List.getElem?_map, trL_get hzl]; rfl), ?_⟩
        refine ⟨_, rfl, _, rfl, hd, _, _, _, rfl, rfl, SqL.of (s7 _ _ hhd6), atI_nat (v := V.int (hI d sj z)) (by rw [List.getElem?_map, hdL_get hzl]; rfl), ?_⟩
        refine ⟨_, _, rfl, _, rfl, _, _, rfl, rfl, .inl ⟨by omega, by omega⟩, _, _, rfl, rfl, ?_⟩
        have e : decide ((t : Int) * 10000 ≤ rI d sj z) = decide (10000 * (t : Int) ≤ rI d sj z) := decide_eq_decide.mpr (by omega)
        have k2 := k1 _ (Same.refl _)
        dsimp only at k2
        rw [← e] at k2
        exact k2
      · unfold natL at hD7
        rw [List.length_map] at hD7
        have hD7 := hD7.trans (congrArg (fun l => some (HO.lst l)) (by_places (fun i => decide (10000 * (t : Int) ≤ rI d sj i)) cs))
        refine ⟨D, _, rfl, SqL.of hD7, _, rfl, ?_⟩
        have er : (cs.map fun i => decide (10000 * (t : Int) ≤ rI d sj i)).all id = reachI d cs t sj := by
          unfold reachI
          rw [List.all_map]
          rfl
        rw [er]
        refine ite2 (fun e => ?_) (fun e => ?_)
        · rw [first_best hy hpw es e hno] at k
          refine ⟨_, rfl, _, rfl, (by show 2 ≤ sizeLine; decide), fun tt htt => ?_⟩
          have s17 := s16.trans s7
          exact k _ tt (s17.trans (Same.new htt)) (s17.free htt) upd_same
        · refine ⟨_, _, _, _, rfl, s36.trans s7, fun m x hm hx => ?_⟩
          rcases Nat.lt_or_ge m j with q | q
          · exact hno m x q hx
          · have : m = j := by omega
            rw [this, es] at hx
            cases hx
            simpa using e
    · rintro σ H4 ⟨v1, v2, v3, v4, rfl, s4, hno⟩
      rw [List.length_map, hk.1] at hno
      rw [none_best hy fun x hx => by
        obtain ⟨m, hm⟩ := List.mem_iff_getElem?.mp hx
        exact hno m x (lt_of_at hm) hm] at k
      exact k _ (s13.trans s4)
end
end Sg

namespace Sg
open PySem PySem.Spec PyProof.Rows L2
open Kp365 (nodeAt isTrue)
open Kp367 (House Heard)
/-! ### the house in the heap
G: what is never changed any more (rows of children, promises, hearings, what the caller holds); what may be changed isn't in G. -/
def hF (b : Bool) (m : Nat) (l q g : Addr) : List (Str × V) := [("begun", .bl b), ("purse", .int (m : Int)), ("nodes", .ref l), ("promises", .ref q), ("log", .ref g)]
section
variable {b : Bool} {m : Nat} {l q g : Addr}
theorem hF_begun : (hF b m l q g).lookup ("begun" : Str) = some (.bl b) := lk_here
theorem hF_purse : (hF b m l q g).lookup ("purse" : Str) = some (.int (m : Int)) := (lk_past (by decide +kernel)).trans lk_here
theorem hF_nodes : (hF b m l q g).lookup ("nodes" : Str) = some (.ref l) := (lk_past (by decide +kernel)).trans ((lk_past (by decide +kernel)).trans lk_here)
theorem hF_promises : (hF b m l q g).lookup ("promises" : Str) = some (.ref q) := (lk_past (by decide +kernel)).trans ((lk_past (by decide +kernel)).trans ((lk_past (by decide +kernel)).trans lk_here))
theorem hF_log : (hF b m l q g).lookup ("log" : Str) = some (.ref g) := (lk_past (by decide +kernel)).trans ((lk_past (by decide +kernel)).trans ((lk_past (by decide +kernel)).trans ((lk_past (by decide +kernel)).trans lk_here)))
theorem hF_few : (hF b m l q g).length < 1000 := by
  show 5 < 1000
  decide
theorem hF_putBegun (b' : Bool) : putF "begun" (.bl b') (hF b m l q g) = hF b' m l q g := by
  unfold hF
  rw [put_here]
theorem hF_putPurse (m' : Nat) : putF "purse" (.int (m' : Int)) (hF b m l q g) = hF b m' l q g := by
  unfold hF
  rw [put_past (by decide +kernel), put_here]
theorem hF_putNodes (l' : Addr) : putF "nodes" (.ref l') (hF b m l q g) = hF b m l' q g := by
  unfold hF
  rw [put_past (by decide +kernel), put_past (by decide +kernel), put_here]
theorem hF_putPromises (q' : Addr) : putF "promises" (.ref q') (hF b m l q g) = hF b m l q' g := by
  unfold hF
  rw [put_past (by decide +kernel), put_past (by decide +kernel), put_past (by decide +kernel), put_here]
theorem hF_putLog (g' : Addr) : putF "log" (.ref g') (hF b m l q g) = hF b m l q g' := by
  unfold hF
  rw [put_past (by decide +kernel), put_past (by decide +kernel), put_past (by decide +kernel), put_past (by decide +kernel), put_here]
theorem hF_new : putF "log" (.ref g) (putF "promises" (.ref q) (putF "nodes" (.ref l) (putF "purse" (.int 0) (putF "begun" (.bl false) [])))) = hF false 0 l q g := by
  rw [put_end (f := "begun") (by decide +kernel), put_end (f := "purse") (by show _ ∉ (["begun"] : List Str); decide +kernel), put_end (f := "nodes") (by show _ ∉ (["begun", "purse"] : List Str); decide +kernel),
    put_end (f := "promises") (by show _ ∉ (["begun", "purse", "nodes"] : List Str); decide +kernel), put_end (f := "log") (by show _ ∉ (["begun", "purse", "nodes", "promises"] : List Str); decide +kernel)]
  rfl
end
/-- a house and a node are two objects -/
theorem house_node {H : Hp} {x y C D dx dy c l q g : Addr} {b b' : Bool} {m p : Nat} {n : Kp365.Node} (h1 : H x = some (.ins C dx (hF b m l q g))) (h2 : H y = some (.ins D dy (nF n p b' c))) : x ≠ y := fun e => by
  rw [e, h2] at h1
  have h3 := congrArg (fun o : HO => match o with | .ins _ _ ((f, _) :: _) => f | _ => ("x" : Str)) (Option.some.inj h1)
  have h4 : ("kind" : Str) = ("begun" : Str) := h3
  exact absurd h4 (by decide +kernel)
/-- no row of children lies at t -/
def TreeIn (C t : Addr) (G H : Hp) (l : Addr) (d : Kp366.Desk) : Prop := G l = none ∧ ∃ as : List Addr, H l = some (.lst (as.map V.ref)) ∧ as.length = d.tree.nodes.length ∧ as.Nodup ∧
  ∀ j a, as[j]? = some a → G a = none ∧ ∃ dx c, H a = some (.ins C dx (nF (nodeAt d.tree j) (d.price.getD j 0) (d.thrice.testBit j) c)) ∧ G c = some (.lst ((nodeAt d.tree j).kids.map fun (k : Nat) => V.int (k : Int))) ∧ c ≠ t
def PromIn (G H : Hp) (q : Addr) (ps : List (Nat × Nat)) : Prop := G q = none ∧ ∃ qs : List Addr, H q = some (.lst (qs.map V.ref)) ∧ qs.length = ps.length ∧ ∀ (j : Nat) t p, qs[j]? = some t → ps[j]? = some p → G t = some (.tup [.int (p.1 : Int), .int (p.2 : Int)])
def LogIn (C : Addr) (G H : Hp) (g : Addr) (log : List Heard) : Prop := G g = none ∧ ∃ gs : List Addr, H g = some (.lst (gs.map V.ref)) ∧ gs.length = log.length ∧ ∀ (j : Nat) a x, gs[j]? = some a → log[j]? = some x → HeardIs C G a x
/-- the classes, and a list that the caller changes -/
structure Cl where
  N : Addr
  H : Addr
  R : Addr
  t : Addr
structure HouseIs (c : Cl) (G H : Hp) (a : Addr) (b : Bool) (h : House) (dx l q g : Addr) : Prop where
  sub : Same G H
  obj : H a = some (.ins c.H dx (hF b h.purse l q g))
  ga : G a = none
  tree : TreeIn c.N c.t G H l h.desk
  prom : PromIn G H q h.promises
  log : LogIn c.R G H g h.log
  lq : l ≠ q
  lg : l ≠ g
  qg : q ≠ g
  told : ∃ o, G c.t = some o
/-- more is frozen, but nothing that stands in H and wasn't -/
def Ext (G G' H : Hp) : Prop := Same G G' ∧ ∀ x o, H x = some o → G x = none → G' x = none
theorem Ext.refl (G H : Hp) : Ext G G H := ⟨Same.refl _, fun _ _ _ e => e⟩
theorem Ext.put {G H : Hp} {c : Addr} {o : HO} (s : Same G H) (hc : H c = none) : Ext G (upd G c o) H := by
  refine ⟨Same.new (s.free hc), fun x o' hx hg => ?_⟩
  rw [upd_ne (ne_of_none hx hc)]
  exact hg
theorem put_sub {G H : Hp} {c : Addr} {o : HO} (s : Same G H) (hc : H c = some o) : Same (upd G c o) H := fun b o' e => by
  by_cases q : b = c
  · subst q
    rw [upd_same] at e
    cases e
    exact hc
  · rw [upd_ne q] at e
    exact s _ _ e
theorem TreeIn.move {C t l : Addr} {G G' H H' : Hp} {d : Kp366.Desk} (h : TreeIn C t G H l d) (s : Same H H') (e : Ext G G' H) : TreeIn C t G' H' l d := by
  obtain ⟨g0, as, h1, h2, hn, h3⟩ := h
  refine ⟨e.2 _ _ h1 g0, as, s _ _ h1, h2, hn, fun j a ha => ?_⟩
  obtain ⟨q1, dx, c, q2, q3⟩ := h3 j a ha
  exact ⟨e.2 _ _ q2 q1, dx, c, s _ _ q2, e.1 _ _ q3.1, q3.2⟩
theorem PromIn.move {q : Addr} {G G' H H' : Hp} {ps : List (Nat × Nat)} (h : PromIn G H q ps) (s : Same H H') (e : Ext G G' H) : PromIn G' H' q ps := by
  obtain ⟨g0, qs, h1, h2, h3⟩ := h
  exact ⟨e.2 _ _ h1 g0, qs, s _ _ h1, h2, fun j t p e1 e2 => e.1 _ _ (h3 j t p e1 e2)⟩
theorem LogIn.move {C g : Addr} {G G' H H' : Hp} {log : List Heard} (h : LogIn C G H g log) (s : Same H H') (e : Ext G G' H) : LogIn C G' H' g log := by
  obtain ⟨g0, gs, h1, h2, h3⟩ := h
  exact ⟨e.2 _ _ h1 g0, gs, s _ _ h1, h2, fun j t p e1 e2 => (h3 j t p e1 e2).same e.1⟩
section
variable {c : Cl} {G G' H H' : Hp} {a dx l q g : Addr} {b : Bool} {h : House}
theorem HouseIs.move (hh : HouseIs c G H a b h dx l q g) (s : Same H H') (e : Ext G G' H) (s' : Same G' H') : HouseIs c G' H' a b h dx l q g :=
  ⟨s', s _ _ hh.obj, e.2 _ _ hh.obj hh.ga, hh.tree.move s e, hh.prom.move s e, hh.log.move s e, hh.lq, hh.lg, hh.qg, hh.told.elim fun o z => ⟨o, e.1 _ _ z⟩⟩
theorem HouseIs.same (hh : HouseIs c G H a b h dx l q g) (s : Same H H') : HouseIs c G H' a b h dx l q g := hh.move s (Ext.refl _ _) (hh.sub.trans s)
theorem TreeIn.at {C t : Addr} {d : Kp366.Desk} (h : TreeIn C t G H l d) (s : Same G H) : TreeAt C H l d := by
  obtain ⟨_, as, h1, h2, _, h3⟩ := h
  refine ⟨as, h1, h2, fun j a e => ?_⟩
  obtain ⟨_, dx, c, q1, q2⟩ := h3 j a e
  exact ⟨dx, c, q1, s _ _ q2.1⟩
theorem HouseIs.treeAt (hh : HouseIs c G H a b h dx l q g) : TreeAt c.N H l h.desk := hh.tree.at hh.sub
theorem HouseIs.logAt (hh : HouseIs c G H a b h dx l q g) : LogAt c.R H g h.log := by
  obtain ⟨_, gs, h1, h2, h3⟩ := hh.log
  exact ⟨gs, h1, h2, fun j a x e1 e2 => (h3 j a x e1 e2).same hh.sub⟩
theorem HouseIs.nodesLen (hh : HouseIs c G H a b h dx l q g) : ∃ xs : List V, H l = some (.lst xs) ∧ xs.length = cnt h := by
  obtain ⟨_, as, h1, h2, _⟩ := hh.tree
  exact ⟨_, h1, by rw [List.length_map]; exact h2⟩
/-- the house's own fields anew -/
theorem HouseIs.put {b' : Bool} {h' : House} {l' q' g' : Addr} (hh : HouseIs c G H a b h dx l q g) (ht : TreeIn c.N c.t G H l' h'.desk) (hp : PromIn G H q' h'.promises) (hg : LogIn c.R G H g' h'.log) (lq : l' ≠ q') (lg : l' ≠ g') (qg : q' ≠ g') :
    HouseIs c G (upd H a (.ins c.H dx (hF b' h'.purse l' q' g'))) a b' h' dx l' q' g' := by
  have ne : ∀ x xs, H x = some (.lst xs) → x ≠ a := fun x xs e => ne_of e hh.obj (by intro z; cases z)
  refine ⟨same_upd hh.ga hh.sub, upd_same, hh.ga, ?_, ?_, ?_, lq, lg, qg, hh.told⟩
  · obtain ⟨g0, as, h1, h2, hn, h3⟩ := ht
    refine ⟨g0, as, by rw [upd_ne (ne _ _ h1)]; exact h1, h2, hn, fun j x hx => ?_⟩
    obtain ⟨q1, dx', c', q2, q3⟩ := h3 j x hx
    exact ⟨q1, dx', c', by rw [upd_ne (house_node hh.obj q2).symm]; exact q2, q3⟩
  · obtain ⟨g0, qs, h1, h2, h3⟩ := hp
    exact ⟨g0, qs, by rw [upd_ne (ne _ _ h1)]; exact h1, h2, h3⟩
  · obtain ⟨g0, gs, h1, h2, h3⟩ := hg
    exact ⟨g0, gs, by rw [upd_ne (ne _ _ h1)]; exact h1, h2, h3⟩
/-- one of the three lists anew -/
theorem HouseIs.list {h' : House} {y : Addr} {ys xs : List V} (hh : HouseIs c G H a b h dx l q g) (hy : H y = some (.lst ys)) (gy : G y = none) (hpu : h'.purse = h.purse)
    (ht : TreeIn c.N c.t G (upd H y (.lst xs)) l h'.desk) (hp : PromIn G (upd H y (.lst xs)) q h'.promises) (hg : LogIn c.R G (upd H y (.lst xs)) g h'.log) : HouseIs c G (upd H y (.lst xs)) a b h' dx l q g := by
  have ne : a ≠ y := ne_of hh.obj hy (by intro z; cases z)
  exact ⟨same_upd gy hh.sub, by rw [upd_ne ne, hpu]; exact hh.obj, hh.ga, ht, hp, hg, hh.lq, hh.lg, hh.qg, hh.told⟩
end
/-- a list that isn't changed -/
theorem TreeIn.upd {C t l y : Addr} {G H : Hp} {d : Kp366.Desk} {ys xs : List V} (h : TreeIn C t G H l d) (hy : H y = some (.lst ys)) (ne : l ≠ y) : TreeIn C t G (L2.upd H y (.lst xs)) l d := by
  obtain ⟨g0, as, h1, h2, hn, h3⟩ := h
  refine ⟨g0, as, by rw [upd_ne ne]; exact h1, h2, hn, fun j x hx => ?_⟩
  obtain ⟨q1, dx', c', q2, q3⟩ := h3 j x hx
  exact ⟨q1, dx', c', by rw [upd_ne (ne_of q2 hy (by intro z; cases z))]; exact q2, q3⟩
theorem PromIn.upd {q y : Addr} {G H : Hp} {ps : List (Nat × Nat)} {o : HO} (h : PromIn G H q ps) (ne : q ≠ y) : PromIn G (L2.upd H y o) q ps := by
  obtain ⟨g0, qs, h1, h2, h3⟩ := h
  exact ⟨g0, qs, by rw [upd_ne ne]; exact h1, h2, h3⟩
theorem LogIn.upd {C g y : Addr} {G H : Hp} {log : List Heard} {o : HO} (h : LogIn C G H g log) (ne : g ≠ y) : LogIn C G (L2.upd H y o) g log := by
  obtain ⟨g0, gs, h1, h2, h3⟩ := h
  exact ⟨g0, gs, by rw [upd_ne ne]; exact h1, h2, h3⟩
/-! ### a tree made anew joins -/
def frz (H0 H : Hp) (p : Addr) (G : Hp) : Hp := fun b => match H0 b with
  | some _ => G b
  | none => if b = p then none else match H b with
    | some (.lst xs) => some (.lst xs)
    | _ => none
section
variable {G H0 H : Hp} {p : Addr}
theorem frz_old {b : Addr} {o : HO} (h : H0 b = some o) : frz H0 H p G b = G b := by
  unfold frz
  rw [h]
theorem frz_ext (s : Same G H0) : Ext G (frz H0 H p G) H0 := by
  refine ⟨fun b o e => ?_, fun x o hx hg => ?_⟩
  · rw [frz_old (s _ _ e)]
    exact e
  · rw [frz_old hx]
    exact hg
theorem frz_sub (s : Same G H0) (s' : Same H0 H) : Same (frz H0 H p G) H := fun b o e => by
  cases h : H0 b with
  | some o' =>
    rw [frz_old h] at e
    exact s' _ _ (s _ _ e)
  | none =>
    unfold frz at e
    rw [h] at e
    dsimp only at e
    by_cases q : b = p
    · rw [if_pos q] at e
      cases e
    · rw [if_neg q] at e
      cases h2 : H b with
      | none => rw [h2] at e; cases e
      | some o2 =>
        rw [h2] at e
        cases o2 <;> first | (cases e; rfl) | cases e
theorem frz_tree {C t : Addr} {d : Kp366.Desk} (h : TreeMade C H0 H p d) (ht : ∃ o, H0 t = some o) : TreeIn C t (frz H0 H p G) H p d := by
  obtain ⟨h0, as, h1, h2, hn, h3⟩ := h
  refine ⟨?_, as, h1, h2, hn, fun j a ha => ?_⟩
  · unfold frz
    rw [h0]
    exact if_pos rfl
  · obtain ⟨z1, z2, dx, c, z3, z4, q1, q2⟩ := h3 j a ha
    refine ⟨?_, dx, c, q1, ?_, ht.elim fun o z => (ne_of_none z z3).symm⟩
    · unfold frz
      rw [z1, q1]
      exact if_neg z2
    · unfold frz
      rw [z3, q2]
      exact if_neg z4
end
/-- what the caller writes into its list -/
theorem HouseIs.write {c : Cl} {G H : Hp} {a dx l q g : Addr} {b : Bool} {h : House} {ys xs : List V} (hh : HouseIs c G H a b h dx l q g) (ht : G c.t = some (.lst ys)) : HouseIs c (L2.upd G c.t (.lst xs)) (L2.upd H c.t (.lst xs)) a b h dx l q g := by
  have nt : ∀ x, G x = none → x ≠ c.t := fun x e z => by
    rw [z, ht] at e
    cases e
  refine ⟨fun x o e => ?_, ?_, ?_, ?_, ?_, ?_, hh.lq, hh.lg, hh.qg, ⟨_, upd_same⟩⟩
  · by_cases q : x = c.t
    · subst q
      rw [upd_same] at e ⊢
      exact e
    · rw [upd_ne q] at e ⊢
      exact hh.sub _ _ e
  · rw [upd_ne (nt _ hh.ga)]
    exact hh.obj
  · rw [upd_ne (nt _ hh.ga)]
    exact hh.ga
  · obtain ⟨g0, as, h1, h2, hn, h3⟩ := hh.tree
    refine ⟨by rw [upd_ne (nt _ g0)]; exact g0, as, by rw [upd_ne (nt _ g0)]; exact h1, h2, hn, fun j y hy => ?_⟩
    obtain ⟨q1, dx', c', q2, q3, q4⟩ := h3 j y hy
    exact ⟨by rw [upd_ne (nt _ q1)]; exact q1, dx', c', by rw [upd_ne (nt _ q1)]; exact q2, by rw [upd_ne q4]; exact q3, q4⟩
  · obtain ⟨g0, qs, h1, h2, h3⟩ := hh.prom
    refine ⟨by rw [upd_ne (nt _ g0)]; exact g0, qs, by rw [upd_ne (nt _ g0)]; exact h1, h2, fun j y p e1 e2 => ?_⟩
    have := h3 j y p e1 e2
    rw [upd_ne (ne_of this ht (by intro z; cases z))]
    exact this
  · obtain ⟨g0, gs, h1, h2, h3⟩ := hh.log
    refine ⟨by rw [upd_ne (nt _ g0)]; exact g0, gs, by rw [upd_ne (nt _ g0)]; exact h1, h2, fun j y p e1 e2 => ?_⟩
    obtain ⟨dr, this⟩ := h3 j y p e1 e2
    refine ⟨dr, ?_⟩
    rw [upd_ne (ne_of this ht (by intro z; cases z))]
    exact this
/-! ### what a call hands back -/
def Done (c : Cl) (G : Hp) (a : Addr) (Q : VK) (b : Bool) (h' : House) (ans : List Int) : Prop := ∀ G' H' p, Same G G' → (∃ dx l q g, HouseIs c G' H' a b h' dx l q g) → G' p = none → H' p = some (.lst (ans.map V.int)) → Q (.ref p) H'
section
variable {c : Cl} {G H : Hp} {a dx l q g : Addr} {b : Bool} {h : House} {Q : VK}
/-- a new list of numbers is answered, the house as it stands -/
theorem Done.new {G0 : Hp} {ans : List Int} (k : Done c G0 a Q b h ans) (s : Same G0 G) (hh : HouseIs c G H a b h dx l q g) {p : Addr} (hp : H p = none) : Q (.ref p) (upd H p (.lst (ans.map V.int))) :=
  k G _ p s ⟨dx, l, q, g, hh.same (Same.new hp)⟩ (hh.sub.free hp) upd_same
/-- the list stands already -/
theorem Done.old {G0 : Hp} {ans : List Int} (k : Done c G0 a Q b h ans) (s : Same G0 G) (hh : HouseIs c G H a b h dx l q g) {p : Addr} (hp : G p = none) (hl : H p = some (.lst (ans.map V.int))) : Q (.ref p) H :=
  k G _ p s ⟨dx, l, q, g, hh⟩ hp hl
end
/-- a handler's promise: x: the arguments, as the call has them -/
def spH {α : Type} (c : Cl) (args : α → List Nat) (call : α → Kp367.Call) (ok : House → α → Prop) : Sp := fun vs H Q _ => ∃ (a ag : Addr) (G : Hp) (h : House) (dx l q g : Addr) (x : α), vs = [.ref a, .ref ag] ∧ HouseIs c G H a true h dx l q g ∧ WFH h ∧ G ag = some (.lst (natL (args x))) ∧ ok h x ∧ (∀ z ∈ args x, z < 4294967296) ∧ (args x).length ≤ 7 ∧
  ∀ h', (Kp367.step (some h) (call x)).1 = some h' → Done c G a Q true h' ((Kp367.step (some h) (call x)).2.num :: (Kp367.step (some h) (call x)).2.nums)
theorem natL_get {l : List Nat} {i z : Nat} (h : l[i]? = some z) : (natL l)[i]? = some (.int (z : Int)) := by
  unfold natL
  rw [List.getElem?_map, h]
  rfl
end Sg

namespace Sg
open PySem PySem.Spec PyProof.Rows L2
open Kp365 (nodeAt isTrue)
open Kp367 (House Heard)
def Tx.c {K : PySem.W.Frag} {mg : Str → Option Value} (T : Tx K mg) (t : Addr) : Cl := ⟨T.cNode, T.cHouse, T.cHearing, t⟩
def keptD (d : Kp366.Desk) (p : Nat × Nat) : Bool := decide (p.1 < d.tree.nodes.length) && decide (10000 * (p.2 : Int) ≤ rI d d.thrice p.1)
def spHouseInit (C : Addr) : Sp := fun vs H Q _ => ∃ (p dx : Addr), vs = [.ref p] ∧ H p = some (.ins C dx []) ∧
  ∀ H' l q g, H' p = some (.ins C dx (hF false 0 l q g)) → H l = none → H q = none → H g = none → l ≠ q → l ≠ g → q ≠ g → H' l = some (.lst []) → H' q = some (.lst []) → H' g = some (.lst []) → (∀ b o, H b = some o → b ≠ p → H' b = some o) → Q .non H'
def spIsKept (C : Addr) : Sp := fun vs H Q _ => ∃ (l : Addr) (d : Kp366.Desk) (i t : Nat), vs = [.ref l, .int (i : Int), .int (t : Int)] ∧ TreeAt C H l d ∧ WFT d.tree ∧ t < 4294967296 ∧
  ∀ H', Same H H' → Q (.bl (keptD d (i, t))) H'
def spChange (c : Cl) : Sp := fun vs H Q _ => ∃ (a l' : Addr) (n : Int) (G : Hp) (h : House) (dx l q g : Addr) (d : Kp366.Desk), vs = [.ref a, .ref l', .int n] ∧ HouseIs c G H a true h dx l q g ∧ TreeIn c.N c.t G H l' d ∧ WFT d.tree ∧ l' ≠ q ∧ l' ≠ g ∧ (∀ p ∈ h.promises, p.2 ≤ 100) ∧ h.promises.length ≤ 4 ∧
  (if h.promises.all (keptD d) then Done c G a Q true { h with desk := d } [n] else Done c G a Q true h [-30])
/-- a node that is to be put behind the others -/
def spPutNode (c : Cl) : Sp := fun vs H Q _ => ∃ (a x : Addr) (G H0 : Hp) (h : House) (dx l q g : Addr) (n : Kp365.Node), vs = [.ref a, .ref x] ∧ HouseIs c G H0 a true h dx l q g ∧ WFH h ∧ Same H0 H ∧ NodeNew c.N H0 H x n ∧
  (if 20 ≤ cnt h then Done c G a Q true h [-28] else Done c G a Q true (addN h n) [((cnt h : Nat) : Int)])
theorem guard_done {c : Cl} {G : Hp} {a : Addr} {Q : VK} {h : House} {d : Kp366.Desk} {n : Int} (k : ∀ h', (guard h { h with desk := d } n).1 = some h' → Done c G a Q true h' ((guard h { h with desk := d } n).2.num :: (guard h { h with desk := d } n).2.nums)) :
    if h.promises.all (keptD d) then Done c G a Q true { h with desk := d } [n] else Done c G a Q true h [-30] := by
  have e : (({ h with desk := d } : House).promises.all (keptI { h with desk := d })) = h.promises.all (keptD d) := rfl
  unfold guard at k
  rw [e] at k
  by_cases q : h.promises.all (keptD d) = true
  · rw [if_pos q] at k ⊢
    exact k _ rfl
  · rw [if_neg q] at k ⊢
    exact k _ rfl
/-- one node more: where its numbers lie -/
theorem addN_node {h : House} (w : WFH h) (n : Kp365.Node) {j : Nat} : nodeAt (addN h n).desk.tree j = if j < cnt h then nodeAt h.desk.tree j else if j = cnt h then n else ⟨0, 0, 0, []⟩ := by
  show nodeAt ⟨h.desk.tree.nodes ++ [n]⟩ j = _
  by_cases h1 : j < cnt h
  · rw [if_pos h1, nodeAt_app h1]
  · rw [if_neg h1]
    by_cases h2 : j = cnt h
    · rw [if_pos h2, h2, nodeAt_new]
    · rw [if_neg h2, nodeAt_past (show h.desk.tree.nodes.length < j by have : ¬ j < h.desk.tree.nodes.length := h1; have : ¬ j = h.desk.tree.nodes.length := h2; omega)]
section
variable {P : Program} {w : World} {K : PySem.W.Frag} {mg : Str → Option Value} {base : Heap}
theorem ok_HouseInit (T : Tx K mg) : FnOk P w K mg base CX0 1 T.fHouseInit T.dHouseInit ["self"] (spHouseInit T.cHouse) := by
  refine T.FHouseInit.ok scHouseInit (fun vs H Q E h => ?_) (fun cdv A outer s H vs Q E hr h => ?_)
  · obtain ⟨p, dx, rfl, _⟩ := h
    rfl
  · obtain ⟨p, dx, rfl, hp, k⟩ := h
    refine ⟨_, (pss_cons (ps_fld (pv 0) pe_bl rfl)
      (pss_cons (ps_fld (pv 0) pe_int rfl)
      (pss_cons (ps_fld (pv 0) (pe_lst pa_nil) rfl)
      (pss_cons (ps_fld (pv 0) (pe_lst pa_nil) rfl)
      (pss_one (ps_fld (pv 0) (pe_lst pa_nil) rfl)))))), ?_⟩
    refine ⟨_, rfl, p, T.cHouse, dx, [], rfl, hp, T.clHouse, T.nHouse_begun, (by show 0 < 1000; decide), ?_⟩
    refine ⟨_, rfl, p, T.cHouse, dx, _, rfl, upd_same, T.clHouse, T.nHouse_purse, few_up (n := 999) (by show 0 < 999; decide), ?_⟩
    refine ⟨Nat.zero_le _, fun l hl => ?_⟩
    have hpl : p ≠ l := ne_of_none upd_same hl
    refine ⟨_, rfl, p, T.cHouse, dx, _, rfl, (by rw [upd_ne hpl, upd_same]), T.clHouse, T.nHouse_nodes, few_up (n := 999) (few_up (n := 998) (by show 0 < 998; decide)), ?_⟩
    refine ⟨Nat.zero_le _, fun q hq => ?_⟩
    have hpq : p ≠ q := ne_of_none upd_same hq
    refine ⟨_, rfl, p, T.cHouse, dx, _, rfl, (by rw [upd_ne hpq, upd_same]), T.clHouse, T.nHouse_promises, few_up (n := 999) (few_up (n := 998) (few_up (n := 997) (by show 0 < 997; decide))), ?_⟩
    refine ⟨Nat.zero_le _, fun g hg => ?_⟩
    have hpg : p ≠ g := ne_of_none upd_same hg
    refine ⟨_, rfl, p, T.cHouse, dx, _, rfl, (by rw [upd_ne hpg, upd_same]), T.clHouse, T.nHouse_log, few_up (n := 999) (few_up (n := 998) (few_up (n := 997) (few_up (n := 996) (by show 0 < 996; decide)))), ?_⟩
    have l0 : H l = none := by rw [upd_ne hpl.symm, upd_ne hpl.symm] at hl; exact hl
    have lq : l ≠ q := fun z => by rw [← z, upd_ne hpl.symm, upd_same] at hq; cases hq
    have q0 : H q = none := by rw [upd_ne hpq.symm, upd_ne lq.symm, upd_ne hpq.symm, upd_ne hpq.symm] at hq; exact hq
    have qg : q ≠ g := fun z => by rw [← z, upd_ne hpq.symm, upd_same] at hg; cases hg
    have lg : l ≠ g := fun z => by rw [← z, upd_ne hpl.symm, upd_ne lq, upd_ne hpl.symm, upd_same] at hg; cases hg
    have g0 : H g = none := by rw [upd_ne hpg.symm, upd_ne qg.symm, upd_ne hpg.symm, upd_ne lg.symm, upd_ne hpg.symm, upd_ne hpg.symm] at hg; exact hg
    refine k _ l q g (upd_same.trans (congrArg (fun q => some (HO.ins T.cHouse dx q)) hF_new)) l0 q0 g0 lq lg qg ?_ ?_ ?_ fun b o e hb => ?_
    · rw [upd_ne hpl.symm, upd_ne lg, upd_ne hpl.symm, upd_ne lq, upd_ne hpl.symm, upd_same]
    · rw [upd_ne hpq.symm, upd_ne qg, upd_ne hpq.symm, upd_same]
    · rw [upd_ne hpg.symm, upd_same]
    · rw [upd_ne hb, upd_ne (ne_of_none e g0), upd_ne hb, upd_ne (ne_of_none e q0), upd_ne hb, upd_ne (ne_of_none e l0), upd_ne hb, upd_ne hb]
      exact e
theorem ok_IsKept (T : Tx K mg) : FnOk P w K mg base CX0 5 T.fIsKept T.dIsKept ["nodes", "i", "t"] (spIsKept T.cNode) := by
  have GRightOf := ok_RightOf (P := P) (w := w) (base := base) T
  refine T.FIsKept.ok scIsKept (fun vs H Q E h => ?_) (fun cdv A outer s H vs Q E hr h => ?_)
  · obtain ⟨l, d, i, t, rfl, _⟩ := h
    rfl
  · obtain ⟨l, d, i, t, rfl, hT, wf, ht, k⟩ := h
    refine ⟨_, (pss_one (ps_ret (pe_and (pe_cmpR op_lt (pv 1) (pe_callB call_len_seq (by rfl) T.b_len (by decide +kernel) (pa_cons (pv 0) pa_nil)) (nomark _)) (pe_one (pe_cmpR op_ge (pe_call GRightOf (hr.mono (by decide)) rfl T.gRightOf T.FRightOf.kp T.bRightOf .nil pass0 (pa_cons (pv 0) (pa_cons (pv 1) pa_nil))) (pe_op op_mul (pv 2) (pe_glob (v := V.int (10000)) rfl T.gHUNDREDTH ⟨_, rfl⟩)) (nomark _)))))), ?_⟩
    obtain ⟨as, hl, hlen, hn⟩ := id hT
    refine ⟨_, rfl, _, rfl, l, _, rfl, .inl (SqL.of hl), _, _, rfl, rfl, _, rfl, ?_⟩
    rw [List.length_map, hlen]
    unfold keptD at k
    refine ite2 (fun e => ?_) (fun e => ?_)
    · have e : i < d.tree.nodes.length := by simp at e; omega
      rw [decide_eq_true (show (i, t).1 < d.tree.nodes.length from e), Bool.true_and] at k
      refine ⟨_, rfl, _, rfl, l, d, i, rfl, hT, wf, e, fun H1 s1 => ?_⟩
      refine ⟨_, rfl, _, _, rfl, rfl, .inl ⟨by omega, by omega⟩, _, _, rfl, rfl, ?_⟩
      have k := k _ s1
      have e2 : decide (10000 * (((i, t) : Nat × Nat).2 : Int) ≤ rI d d.thrice (i, t).1) = decide ((t : Int) * 10000 ≤ rI d d.thrice i) := decide_eq_decide.mpr (by show 10000 * (t : Int) ≤ rI d d.thrice i ↔ _; omega)
      rw [e2] at k
      exact k
    · have e : ¬ i < d.tree.nodes.length := by simp at e; omega
      rw [decide_eq_false (show ¬ (i, t).1 < d.tree.nodes.length from e), Bool.false_and] at k
      exact k _ (Same.refl _)
theorem ok_Change (T : Tx K mg) (t0 : Addr) : FnOk P w K mg base CX0 6 T.fChange T.dChange ["house", "after", "answer"] (spChange (T.c t0)) := by
  have GIsKept := ok_IsKept (P := P) (w := w) (base := base) T
  refine T.FChange.ok scChange (fun vs H Q E h => ?_) (fun cdv A outer s H vs Q E hr h => ?_)
  · obtain ⟨a, l', n, G, h, dx, l, q, g, d, rfl, _⟩ := h
    rfl
  · obtain ⟨a, l', n, G, h, dx, l, q, g, d, rfl, hh, ht, wf, lq', lg', h100, h4, k⟩ := h
    refine ⟨_, (pss_cons (ps_if (pt_not (pt_val (pe_callB (cr_all rfl) (by rfl) T.b_all (by decide +kernel) (pa_cons (pe_lc (own := [("i", 3), ("t", 4)]) (g := (gTup K 2 (gCons (gName 3) (gCons (gName 4) gNil)))) (tt := tYes) rfl scChange.nd (pi_list (pe_fld (pv 0) rfl)) (blkOk_by (own := [("i", 3), ("t", 4)]) (N := ["house", "after", "answer", "i", "t"]) (sc := defScope sChange) (by decide +kernel)) (fun _ _ _ _ _ => pg_tupK K rfl (pgs_cons (pg_name (i := 3) scChange.nd rfl (Or.inl rfl)) (pgs_cons (pg_name (i := 4) scChange.nd rfl (Or.inl rfl)) pgs_nil))) (fun _ _ _ _ _ => pts_nil) (fun _ _ _ _ _ => (pe_call GIsKept (hr.mono (by decide)) rfl T.gIsKept T.FIsKept.kp T.bIsKept .nil pass0 (pa_cons (pv 1) (pa_cons (pv 3) (pa_cons (pv 4) pa_nil)))))) pa_nil)))) (pss_one (ps_ret (pe_lst (pa_cons (pe_glob (v := V.int (-30)) rfl T.gNOT_KEPT ⟨_, rfl⟩) pa_nil))))
      pss_nil)
      (pss_cons (ps_fld (pv 0) (pv 1) rfl)
      (pss_one (ps_ret (pe_lst (pa_cons (pv 2) pa_nil)))))), ?_⟩
    obtain ⟨gq, qs, hq1, hq2, hq3⟩ := hh.prom
    refine ⟨_, rfl, a, T.cHouse, dx, _, _, rfl, hh.obj, T.clHouse, T.nHouse_promises, hF_promises, q, rfl, ⟨_, SqL.of hq1⟩, fun D hD => ?_⟩
    refine lw_mi walk_list (fun j => V.bl (keptD d (h.promises.getD j (0, 0)))) hD (by rw [List.length_map]; omega) (fun H6 s6 => SqL.of (s6 _ _ hq1)) yat_same (fun j y H0 H6 R1 hj s0 s6 hy k1 => ?_) gm_tup2 (fun H6 s6 hD6 => ?_)
    · obtain ⟨rfl, hy⟩ := hy
      obtain ⟨t, ht1, rfl⟩ := ref_at hy
      have hjl : j < h.promises.length := by rw [← hq2]; exact lt_of_at ht1
      have ep : h.promises[j]? = some h.promises[j] := List.getElem?_eq_getElem hjl
      rw [getD_some ep] at k1
      have hm := List.mem_of_getElem? ep
      generalize h.promises[j] = p at ep k1 hm
      have htp := s6 _ _ (hh.sub _ _ (hq3 j t p ht1 ep))
      have hp2 := h100 p hm
      refine ⟨t, _, rfl, SqT.of htp, rfl, _, _, rfl, _, _, rfl, rfl, rfl, ?_⟩
      exact ⟨_, rfl, _, rfl, _, rfl, l', d, p.1, p.2, rfl, (ht.at hh.sub).same s6, wf, by omega, fun H7 s7 => k1 _ s7⟩
    · rw [List.length_map, hq2] at hD6
      have hD6 := hD6.trans (congrArg (fun l => some (HO.lst l)) (map_places (fun p => V.bl (keptD d p)) h.promises (0, 0)))
      have hD6 : H6 D = some (.lst ((h.promises.map (keptD d)).map V.bl)) := by rw [hD6, List.map_map]; rfl
      refine ⟨D, _, rfl, SqL.of hD6, _, rfl, ?_⟩
      have e0 : (h.promises.map (keptD d)).all id = h.promises.all (keptD d) := by rw [List.all_map]; rfl
      rw [e0]
      have hh6 := hh.same s6
      cases e : h.promises.all (keptD d) with
      | true =>
        rw [e, if_pos rfl] at k
        refine iteF ?_
        refine ⟨_, rfl, _, rfl, a, T.cHouse, dx, _, rfl, hh6.obj, T.clHouse, T.nHouse_nodes, hF_few, ?_⟩
        rw [hF_putNodes]
        have hh7 := hh6.put (b' := true) (h' := { h with desk := d }) (l' := l') (q' := q) (g' := g) (ht.move s6 (Ext.refl _ _)) hh6.prom hh6.log lq' lg' hh.qg
        refine ⟨_, rfl, (by show 1 ≤ sizeLine; decide), fun p hp => ?_⟩
        exact k.new (Same.refl _) hh7 hp
      | false =>
        rw [e, if_neg (by decide)] at k
        refine iteT ?_
        refine ⟨(by show 1 ≤ sizeLine; decide), fun p hp => ?_⟩
        exact k.new (Same.refl _) hh6 hp
theorem ok_PutNode (T : Tx K mg) (t0 : Addr) : FnOk P w K mg base CX0 1 T.fPutNode T.dPutNode ["house", "node"] (spPutNode (T.c t0)) := by
  refine T.FPutNode.ok scPutNode (fun vs H Q E h => ?_) (fun cdv A outer s H vs Q E hr h => ?_)
  · obtain ⟨a, x, G, H0, h, dx, l, q, g, n, rfl, _⟩ := h
    rfl
  · obtain ⟨a, x, G, H0, h, dx, l, q, g, n, rfl, hh0, wf, s0, ⟨x0, dxn, c, c0, hx, hc⟩, k⟩ := h
    refine ⟨_, (pss_cons (ps_if (pt_cmpR op_eq (pe_callB call_len_seq (by rfl) T.b_len (by decide +kernel) (pa_cons (pe_fld (pv 0) rfl) pa_nil)) (pe_glob (v := V.int (20)) rfl T.gMOST_NODES ⟨_, rfl⟩) (nomark _)) (pss_one (ps_ret (pe_lst (pa_cons (pe_glob (v := V.int (-28)) rfl T.gFULL ⟨_, rfl⟩) pa_nil))))
      pss_nil)
      (pss_cons (ps_expr (pe_bm PySem.F.plainAttrs_list PySem.F.slot_list_append PySem.F.type_list_append mt_append (pe_fld (pv 0) rfl) (pa_cons (pv 1) pa_nil)))
      (pss_one (ps_ret (pe_lst (pa_cons (pe_op op_sub (pe_callB call_len_seq (by rfl) T.b_len (by decide +kernel) (pa_cons (pe_fld (pv 0) rfl) pa_nil)) pe_int) pa_nil)))))), ?_⟩
    have hh := hh0.same s0
    obtain ⟨gl, as, hl, hlen, hnd, hn⟩ := hh.tree
    have h20 := wf.tree.len
    refine ⟨_, rfl, a, T.cHouse, dx, _, _, rfl, hh.obj, T.clHouse, T.nHouse_nodes, hF_nodes, l, _, rfl, .inl (SqL.of hl), rfl, _, rfl, ?_⟩
    rw [List.length_map, hlen]
    refine ite2 (fun e => ?_) (fun e => ?_)
    · have e : 20 ≤ cnt h := by
        show 20 ≤ h.desk.tree.nodes.length
        simp at e
        omega
      rw [if_pos e] at k
      exact ⟨(by show 1 ≤ sizeLine; decide), fun p hp => k.new (Same.refl _) hh hp⟩
    · have e : ¬ 20 ≤ cnt h := fun z => e (by
        have z : 20 ≤ h.desk.tree.nodes.length := z
        have : h.desk.tree.nodes.length = 20 := by omega
        rw [this]
        rfl)
      rw [if_neg e] at k
      refine ⟨_, rfl, a, T.cHouse, dx, _, _, rfl, hh.obj, T.clHouse, T.nHouse_nodes, hF_nodes, .inl ⟨rfl, _, SqL.of hl⟩, _, rfl, l, _, _, rfl, rfl, hl, ?_, ?_⟩
      · rw [List.length_map, hlen]
        exact Nat.lt_of_le_of_lt h20 (by decide)
      have eG : Ext G (upd G c (.lst (n.kids.map fun (k : Nat) => V.int (k : Int)))) H0 := Ext.put hh0.sub c0
      have sG : Same (upd G c (.lst (n.kids.map fun (k : Nat) => V.int (k : Int)))) H := put_sub hh.sub hc
      have hh1 := hh0.move s0 eG sG
      obtain ⟨gl1, as1, hl1, hlen1, hnd1, hn1⟩ := hh1.tree
      have eas : as1 = as := by
        rw [hl] at hl1
        have h1 : as.map V.ref = as1.map V.ref := HO.lst.inj (Option.some.inj hl1)
        have h2 : ∀ l : List Addr, (l.map V.ref).map (fun v => match v with | .ref a => a | _ => 0) = l := fun l => by
          rw [List.map_map]
          conv => rhs; rw [← List.map_id l]
          rfl
        rw [← h2 as1, ← h1, h2]
      subst eas
      have gx : (upd G c (.lst (n.kids.map fun (k : Nat) => V.int (k : Int)))) x = none := by
        rw [upd_ne (ne_of hx hc (by intro z; cases z))]
        exact hh0.sub.free x0
      have xl : x ≠ l := ne_of hx hl (by intro z; cases z)
      have lold : H0 l = some (.lst (as1.map V.ref)) := by
        obtain ⟨_, as0, z1, _⟩ := hh0.tree
        have z2 := s0 _ _ z1
        rw [hl] at z2
        rw [z1, ← z2]
      have hT : TreeIn T.cNode t0 (upd G c (.lst (n.kids.map fun (k : Nat) => V.int (k : Int)))) (upd H l (.lst (as1.map V.ref ++ [V.ref x]))) l (addN h n).desk := by
        refine ⟨gl1, as1 ++ [x], by rw [upd_same, List.map_append]; rfl, ?_, ?_, fun j y hy => ?_⟩
        · show (as1 ++ [x]).length = (h.desk.tree.nodes ++ [n]).length
          rw [List.length_append, List.length_append, hlen]
          rfl
        · refine List.nodup_append.mpr ⟨hnd, by simp, fun u hu v hv e => ?_⟩
          rw [List.mem_singleton] at hv
          subst hv
          subst e
          obtain ⟨_, as0, z1, _, _, z3⟩ := hh0.tree
          rw [lold] at z1
          have h1 : as1.map V.ref = as0.map V.ref := HO.lst.inj (Option.some.inj z1)
          obtain ⟨i, hi⟩ := List.mem_iff_getElem?.mp hu
          have hi2 : (as0.map V.ref)[i]? = some (V.ref u) := by rw [← h1, List.getElem?_map, hi]; rfl
          obtain ⟨y, hy, ey⟩ := ref_at hi2
          cases ey
          obtain ⟨_, _, _, z4, _⟩ := z3 i _ hy
          rw [x0] at z4
          cases z4
        · have wprice := wf.price
          have hpr : (addN h n).desk.price = h.desk.price ++ [1] := rfl
          have hth : (addN h n).desk.thrice = h.desk.thrice := rfl
          rw [addN_node wf, hpr, hth]
          rcases Nat.lt_or_ge j as1.length with hlt | hge
          · rw [List.getElem?_append_left hlt] at hy
            have hj : j < cnt h := by show j < h.desk.tree.nodes.length; omega
            rw [if_pos hj, List.getD_eq_getElem?_getD, List.getElem?_append_left (by rw [wprice]; exact hj), ← List.getD_eq_getElem?_getD]
            obtain ⟨z1, dx', c', z2, z3⟩ := hn1 j y hy
            exact ⟨z1, dx', c', by rw [upd_ne (ne_of z2 hl (by intro z; cases z))]; exact z2, z3⟩
          · rw [List.getElem?_append_right hge] at hy
            have hj0 : j - as1.length = 0 := by
              have := lt_of_at hy
              simp at this
              omega
            rw [hj0] at hy
            cases hy
            have hj : j = cnt h := by show j = h.desk.tree.nodes.length; omega
            have hb : h.desk.thrice.testBit j = false := by
              cases q : h.desk.thrice.testBit j with
              | false => rfl
              | true => exact absurd (wf.thr j q).1 (by rw [hj]; exact Nat.lt_irrefl _)
            have hp1 : (h.desk.price ++ [1]).getD j 0 = 1 := by
              rw [List.getD_eq_getElem?_getD, List.getElem?_append_right (by rw [wprice, hj]; exact Nat.le_refl _), wprice, hj, Nat.sub_self]
              rfl
            rw [if_neg (by rw [hj]; exact Nat.lt_irrefl _), if_pos hj, hb, hp1]
            exact ⟨gx, dxn, c, by rw [upd_ne xl]; exact hx, upd_same, hh0.told.elim fun o z => (ne_of_none (hh0.sub _ _ z) c0).symm⟩
      have hh2 := hh1.list (h' := addN h n) hl gl1 rfl hT (hh1.prom.upd hh.lq.symm) (hh1.log.upd hh.lg.symm)
      refine ⟨_, rfl, a, T.cHouse, dx, _, _, rfl, hh2.obj, T.clHouse, T.nHouse_nodes, hF_nodes, l, _, rfl, .inl (SqL.of upd_same), _, _, rfl, rfl, (by show 1 ≤ sizeLine; decide), fun p hp => ?_⟩
      have e5 : (((as1.map V.ref ++ [V.ref x]).length : Nat) : Int) - 1 = ((cnt h : Nat) : Int) := by
        rw [List.length_append, List.length_map, hlen]
        show ((h.desk.tree.nodes.length + 1 : Nat) : Int) - 1 = ((h.desk.tree.nodes.length : Nat) : Int)
        omega
      have k2 := k.new eG.1 hh2 hp
      rw [← e5] at k2
      exact k2
end
end Sg

namespace Sg
open PySem PySem.Spec PyProof.Rows L2
open Kp365 (nodeAt isTrue)
open Kp367 (House Heard)
theorem cut_last (xs : List V) : cutV xs none (some (-1)) = xs.dropLast := by
  unfold cutV
  rw [HT.sIx_none]
  have e : HT.sIx xs.length xs.length (some (-1)) = xs.length - 1 := by
    show (if (-1 : Int) < 0 then ((-1 : Int) + (xs.length : Int)).toNat else min (-1 : Int).toNat xs.length) = _
    rw [if_pos (by decide)]
    omega
  rw [e, List.drop_zero, List.dropLast_eq_take]
  rfl
theorem cut_tail (x : V) (xs : List V) : cutV (x :: xs) (some 1) none = xs := by
  unfold cutV
  rw [HT.sIx_none]
  have e : HT.sIx (x :: xs).length 0 (some 1) = 1 := by
    have := HT.sIx_nat (x :: xs).length 0 1
    rw [List.length_cons] at this ⊢
    refine this.trans ?_
    omega
  rw [e, List.drop_one, List.tail_cons, List.length_cons]
  exact List.take_of_length_le (by omega)
def spLeaf (c : Cl) : Sp := spH (α := Nat × Nat) c (fun x => [x.1, x.2]) (fun x => .leaf x.1 x.2) (fun _ _ => True)
def spAllOf (c : Cl) : Sp := spH (α := List Nat) c id (fun x => .all_ x) (fun _ _ => True)
def spSomeOf (c : Cl) : Sp := spH (α := List Nat) c id (fun x => .some_ x) (fun _ _ => True)
def spPop (c : Cl) : Sp := spH (α := Unit) c (fun _ => []) (fun _ => .pop) (fun _ _ => True)
def spPutBranch (c : Cl) : Sp := fun vs H Q _ => ∃ (a r : Addr) (kd : Nat) (G : Hp) (h : House) (dx l q g : Addr) (ks : List Nat), vs = [.ref a, .int (kd : Int), .ref r] ∧ HouseIs c G H a true h dx l q g ∧ WFH h ∧ G r = some (.lst (natL ks)) ∧ ks.length ≤ 7 ∧
  (if Kp365.okKids h.desk.tree ks = false then Done c G a Q true h [-22] else if 20 ≤ cnt h then Done c G a Q true h [-28] else Done c G a Q true (addN h ⟨kd, 0, 0, ks⟩) [((cnt h : Nat) : Int)])
theorem TreeIn.pop {C t l p : Addr} {G H : Hp} {d : Kp366.Desk} {as : List Addr} (h : TreeIn C t G H l d) (hl : H l = some (.lst (as.map V.ref))) (hp : H p = none) (s : Same G H) (hpr : d.price.length = d.tree.nodes.length) : TreeIn C t G (L2.upd H p (.lst (as.dropLast.map V.ref))) p (popD d) := by
  obtain ⟨g0, as0, h1, h2, hn, h3⟩ := h
  have eas : as0 = as := by
    rw [hl] at h1
    have e1 : as.map V.ref = as0.map V.ref := HO.lst.inj (Option.some.inj h1)
    have e2 : ∀ l : List Addr, (l.map V.ref).map (fun v => match v with | .ref a => a | _ => 0) = l := fun l => by
      rw [List.map_map]
      conv => rhs; rw [← List.map_id l]
      rfl
    rw [← e2 as0, ← e1, e2]
  subst eas
  refine ⟨s.free hp, as0.dropLast, upd_same, ?_, hn.sublist (List.dropLast_sublist _), fun j a ha => ?_⟩
  · show as0.dropLast.length = d.tree.nodes.dropLast.length
    rw [List.length_dropLast, List.length_dropLast, h2]
  · have hj := lt_of_at ha
    rw [List.length_dropLast] at hj
    have ha' : as0[j]? = some a := by
      rw [List.getElem?_dropLast] at ha
      rw [if_pos hj] at ha
      exact ha
    obtain ⟨q1, dx, c, q2, q3⟩ := h3 j a ha'
    have en : nodeAt (popD d).tree j = nodeAt d.tree j := nodeAt_drop (by rw [← h2]; exact hj)
    have ep : (popD d).price.getD j 0 = d.price.getD j 0 := by
      show d.price.dropLast.getD j 0 = _
      rw [List.getD_eq_getElem?_getD, List.getElem?_dropLast, if_pos (by rw [hpr, ← h2]; exact hj), ← List.getD_eq_getElem?_getD]
    have et : (popD d).thrice.testBit j = d.thrice.testBit j := by
      show (d.thrice % 2 ^ (d.tree.nodes.length - 1)).testBit j = _
      rw [bit_mod, decide_eq_true (by rw [← h2]; exact hj), Bool.true_and]
    rw [en, ep, et]
    refine ⟨q1, dx, c, ?_, q3⟩
    rw [upd_ne (ne_of_none q2 hp)]
    exact q2
section
variable {P : Program} {w : World} {K : PySem.W.Frag} {mg : Str → Option Value} {base : Heap}
theorem ok_PutLeaf (T : Tx K mg) (t0 : Addr) : FnOk P w K mg base CX0 4 T.fPutLeaf T.dPutLeaf ["house", "args"] (spLeaf (T.c t0)) := by
  have GNewLeaf := ok_NewLeaf (P := P) (w := w) (base := base) T
  have GPutNode := ok_PutNode (P := P) (w := w) (base := base) T t0
  refine T.FPutLeaf.ok scPutLeaf (fun vs H Q E h => ?_) (fun cdv A outer s H vs Q E hr h => ?_)
  · obtain ⟨a, ag, G, h, dx, l, q, g, x, rfl, _⟩ := h
    rfl
  · obtain ⟨a, ag, G, h, dx, l, q, g, ⟨so, wr⟩, rfl, hh, wf, hag, _, hb, _, k⟩ := h
    refine ⟨_, (pss_cons (ps_if (PW.pt (pw_or (pt_cmpR op_gt (pe_ix ix_list (pv 1) pe_int (fun _ _ => rfl)) pe_int (nomark _)) (pw_or1 (pt_cmpR op_gt (pe_ix ix_list (pv 1) pe_int (fun _ _ => rfl)) (pe_glob (v := V.int (100)) rfl T.gMOST_HUNDREDTHS ⟨_, rfl⟩) (nomark _))))) (pss_one (ps_ret (pe_lst (pa_cons (pe_glob (v := V.int (-22)) rfl T.gNOT_AS_TOLD ⟨_, rfl⟩) pa_nil))))
      pss_nil)
      (pss_one (ps_ret (pe_call GPutNode (hr.mono (by decide)) rfl T.gPutNode T.FPutNode.kp T.bPutNode .nil pass0 (pa_cons (pv 0) (pa_cons (pe_call GNewLeaf (hr.mono (by decide)) rfl T.gNewLeaf T.FNewLeaf.kp T.bNewLeaf .nil pass0 (pa_cons (pe_ix ix_list (pv 1) pe_int (fun _ _ => rfl)) (pa_cons (pe_ix ix_list (pv 1) pe_int (fun _ _ => rfl)) pa_nil))) pa_nil)))))), ?_⟩
    have hA := hh.sub _ _ hag
    rw [st_leaf wf] at k
    refine ⟨_, rfl, ag, _, _, _, rfl, rfl, SqL.of hA, atI_nat (j := 0) (v := V.int (so : Int)) rfl, _, _, rfl, rfl, _, rfl, ?_⟩
    refine ite2 (fun e => ?_) (fun e => ?_)
    · rw [if_pos (Or.inl (by simp at e; omega))] at k
      refine iteT ⟨(by show 1 ≤ sizeLine; decide), fun p hp => ?_⟩
      exact (k h rfl).new (Same.refl _) hh hp
    have e : ¬ 1 < so := by simp at e; omega
    refine ⟨_, rfl, ag, _, _, _, rfl, rfl, SqL.of hA, atI_nat (j := 1) (v := V.int (wr : Int)) rfl, _, _, rfl, rfl, _, rfl, ?_⟩
    refine ite2 (fun e1 => ?_) (fun e1 => ?_)
    · rw [if_pos (Or.inr (by simp at e1; omega))] at k
      refine ⟨(by show 1 ≤ sizeLine; decide), fun p hp => ?_⟩
      exact (k h rfl).new (Same.refl _) hh hp
    have e1 : ¬ 100 < wr := by simp at e1; omega
    rw [if_neg (by omega)] at k
    refine ⟨_, rfl, _, rfl, ag, _, _, _, rfl, rfl, SqL.of hA, atI_nat (j := 0) (v := V.int (so : Int)) rfl, _, rfl, ag, _, _, _, rfl, rfl, SqL.of hA, atI_nat (j := 1) (v := V.int (wr : Int)) rfl, so, wr, rfl, fun H1 x s1 hx => ?_⟩
    refine ⟨a, x, G, H, h, dx, l, q, g, ⟨0, so, wr, []⟩, rfl, hh, wf, s1, hx, ?_⟩
    by_cases e2 : 20 ≤ cnt h
    · rw [if_pos e2] at k ⊢
      exact k h rfl
    · rw [if_neg e2] at k ⊢
      exact k _ rfl
theorem ok_PutBranch (T : Tx K mg) (t0 : Addr) : FnOk P w K mg base CX0 4 T.fPutBranch T.dPutBranch ["house", "kind", "row"] (spPutBranch (T.c t0)) := by
  have GMayBeChildren := ok_MayBeChildren (P := P) (w := w) (base := base) T
  have GNewBranch := ok_NewBranch (P := P) (w := w) (base := base) T
  have GPutNode := ok_PutNode (P := P) (w := w) (base := base) T t0
  refine T.FPutBranch.ok scPutBranch (fun vs H Q E h => ?_) (fun cdv A outer s H vs Q E hr h => ?_)
  · obtain ⟨a, r, kd, G, h, dx, l, q, g, ks, rfl, _⟩ := h
    rfl
  · obtain ⟨a, r, kd, G, h, dx, l, q, g, ks, rfl, hh, wf, hr1, hks, k⟩ := h
    refine ⟨_, (pss_cons (ps_if (pt_not (pt_val (pe_call GMayBeChildren (hr.mono (by decide)) rfl T.gMayBeChildren T.FMayBeChildren.kp T.bMayBeChildren .nil pass0 (pa_cons (pe_fld (pv 0) rfl) (pa_cons (pv 2) pa_nil))))) (pss_one (ps_ret (pe_lst (pa_cons (pe_glob (v := V.int (-22)) rfl T.gNOT_AS_TOLD ⟨_, rfl⟩) pa_nil))))
      pss_nil)
      (pss_one (ps_ret (pe_call GPutNode (hr.mono (by decide)) rfl T.gPutNode T.FPutNode.kp T.bPutNode .nil pass0 (pa_cons (pv 0) (pa_cons (pe_call GNewBranch (hr.mono (by decide)) rfl T.gNewBranch T.FNewBranch.kp T.bNewBranch .nil pass0 (pa_cons (pv 1) (pa_cons (pv 2) pa_nil))) pa_nil)))))), ?_⟩
    have hR := hh.sub _ _ hr1
    refine ⟨_, rfl, a, T.cHouse, dx, _, _, rfl, hh.obj, T.clHouse, T.nHouse_nodes, hF_nodes, _, rfl, l, r, h.desk, ks, rfl, hh.treeAt, wf.tree, SqL.of hR, by omega, fun H1 s1 => ⟨_, rfl, ?_⟩⟩
    have hh1 := hh.same s1
    cases e : Kp365.okKids h.desk.tree ks with
    | false =>
      rw [if_pos e] at k
      refine iteT ⟨(by show 1 ≤ sizeLine; decide), fun p hp => ?_⟩
      exact k.new (Same.refl _) hh1 hp
    | true =>
      rw [if_neg (by rw [e]; decide)] at k
      refine iteF ?_
      refine ⟨_, rfl, _, rfl, _, rfl, kd, r, ks, rfl, SqL.of (s1 _ _ hR), fun H2 x s2 hx => ?_⟩
      exact ⟨a, x, G, H1, h, dx, l, q, g, ⟨kd, 0, 0, ks⟩, rfl, hh1, wf, s2, hx, k⟩
theorem ok_PutAllOf (T : Tx K mg) (t0 : Addr) : FnOk P w K mg base CX0 5 T.fPutAllOf T.dPutAllOf ["house", "args"] (spAllOf (T.c t0)) := by
  have GPutBranch := ok_PutBranch (P := P) (w := w) (base := base) T t0
  refine T.FPutAllOf.ok scPutAllOf (fun vs H Q E h => ?_) (fun cdv A outer s H vs Q E hr h => ?_)
  · obtain ⟨a, ag, G, h, dx, l, q, g, x, rfl, _⟩ := h
    rfl
  · obtain ⟨a, ag, G, h, dx, l, q, g, ks, rfl, hh, wf, hag, _, hb, hlen, k⟩ := h
    refine ⟨_, (pss_one (ps_ret (pe_call GPutBranch (hr.mono (by decide)) rfl T.gPutBranch T.FPutBranch.kp T.bPutBranch .nil pass0 (pa_cons (pv 0) (pa_cons (pe_glob (v := V.int (1)) rfl T.gALL_OF ⟨_, rfl⟩) (pa_cons (pv 1) pa_nil)))))), ?_⟩
    rw [st_all wf] at k
    refine ⟨_, rfl, _, rfl, a, ag, 1, G, h, dx, l, q, g, ks, rfl, hh, wf, hag, hlen, ?_⟩
    by_cases e : Kp365.okKids h.desk.tree ks = false
    · rw [if_pos e] at k ⊢
      exact k h rfl
    · rw [if_neg e] at k ⊢
      by_cases e2 : 20 ≤ cnt h
      · rw [if_pos e2] at k ⊢
        exact k h rfl
      · rw [if_neg e2] at k ⊢
        exact k _ rfl
theorem ok_PutSomeOf (T : Tx K mg) (t0 : Addr) : FnOk P w K mg base CX0 5 T.fPutSomeOf T.dPutSomeOf ["house", "args"] (spSomeOf (T.c t0)) := by
  have GPutBranch := ok_PutBranch (P := P) (w := w) (base := base) T t0
  refine T.FPutSomeOf.ok scPutSomeOf (fun vs H Q E h => ?_) (fun cdv A outer s H vs Q E hr h => ?_)
  · obtain ⟨a, ag, G, h, dx, l, q, g, x, rfl, _⟩ := h
    rfl
  · obtain ⟨a, ag, G, h, dx, l, q, g, ks, rfl, hh, wf, hag, _, hb, hlen, k⟩ := h
    refine ⟨_, (pss_one (ps_ret (pe_call GPutBranch (hr.mono (by decide)) rfl T.gPutBranch T.FPutBranch.kp T.bPutBranch .nil pass0 (pa_cons (pv 0) (pa_cons (pe_glob (v := V.int (2)) rfl T.gSOME_OF ⟨_, rfl⟩) (pa_cons (pv 1) pa_nil)))))), ?_⟩
    rw [st_some wf] at k
    refine ⟨_, rfl, _, rfl, a, ag, 2, G, h, dx, l, q, g, ks, rfl, hh, wf, hag, hlen, ?_⟩
    by_cases e : Kp365.okKids h.desk.tree ks = false
    · rw [if_pos e] at k ⊢
      exact k h rfl
    · rw [if_neg e] at k ⊢
      by_cases e2 : 20 ≤ cnt h
      · rw [if_pos e2] at k ⊢
        exact k h rfl
      · rw [if_neg e2] at k ⊢
        exact k _ rfl
theorem ok_PopNode (T : Tx K mg) (t0 : Addr) : FnOk P w K mg base CX0 7 T.fPopNode T.dPopNode ["house", "args"] (spPop (T.c t0)) := by
  have GChange := ok_Change (P := P) (w := w) (base := base) T t0
  refine T.FPopNode.ok scPopNode (fun vs H Q E h => ?_) (fun cdv A outer s H vs Q E hr h => ?_)
  · obtain ⟨a, ag, G, h, dx, l, q, g, x, rfl, _⟩ := h
    rfl
  · obtain ⟨a, ag, G, h, dx, l, q, g, x, rfl, hh, wf, hag, _, hb, hlen, k⟩ := h
    refine ⟨_, (pss_cons (ps_if (pt_cmpR op_eq (pe_callB call_len_seq (by rfl) T.b_len (by decide +kernel) (pa_cons (pe_fld (pv 0) rfl) pa_nil)) pe_int (nomark _)) (pss_one (ps_ret (pe_lst (pa_cons (pe_glob (v := V.int (-6)) rfl T.gNOTHING_THERE ⟨_, rfl⟩) pa_nil))))
      pss_nil)
      (pss_cons (ps_set (i := 2) scPopNode.nd rfl (Or.inl rfl) (pe_slice sl_list (pe_fld (pv 0) rfl) po_none (po_some (pe_un un_neg pe_int))))
      (pss_one (ps_ret (pe_call GChange (hr.mono (by decide)) rfl T.gChange T.FChange.kp T.bChange .nil pass0 (pa_cons (pv 0) (pa_cons (pv 2) (pa_cons (pe_callB call_len_seq (by rfl) T.b_len (by decide +kernel) (pa_cons (pv 2) pa_nil)) pa_nil)))))))), ?_⟩
    rw [st_pop] at k
    obtain ⟨gl, as, hl, hl2, hnd, hn⟩ := id hh.tree
    refine ⟨_, rfl, a, T.cHouse, dx, _, _, rfl, hh.obj, T.clHouse, T.nHouse_nodes, hF_nodes, l, _, rfl, .inl (SqL.of hl), rfl, _, rfl, ?_⟩
    rw [List.length_map, hl2]
    refine ite2 (fun e => ?_) (fun e => ?_)
    · have e : cnt h = 0 := by
        show h.desk.tree.nodes.length = 0
        have e := V.int.inj (of_decide_eq_true e)
        omega
      rw [if_pos e] at k
      exact ⟨(by show 1 ≤ sizeLine; decide), fun p hp => (k h rfl).new (Same.refl _) hh hp⟩
    · have e : ¬ cnt h = 0 := fun z => e (by
        have z : h.desk.tree.nodes.length = 0 := z
        rw [z]
        rfl)
      rw [if_neg e] at k
      refine ⟨_, rfl, a, T.cHouse, dx, _, _, rfl, hh.obj, T.clHouse, T.nHouse_nodes, hF_nodes, _, rfl, _, rfl, l, _, rfl, SqL.of hl, fun p hp => ?_⟩
      have ecut : cutV (as.map V.ref) none (some (-1)) = as.dropLast.map V.ref := by
        rw [cut_last, List.map_dropLast]
      have hh1 := hh.same (Same.new (o := .lst (as.dropLast.map V.ref)) hp)
      have ht := hh.tree.pop hl hp hh.sub wf.price
      rw [ecut]
      have pq : p ≠ q := by
        obtain ⟨_, qs, hq1, _⟩ := hh.prom
        exact (ne_of_none hq1 hp).symm
      have pg : p ≠ g := by
        obtain ⟨_, gs, hg1, _⟩ := hh.log
        exact (ne_of_none hg1 hp).symm
      have en : (((as.dropLast.map V.ref).length : Nat) : Int) = ((cnt h - 1 : Nat) : Int) := by
        rw [List.length_map, List.length_dropLast, hl2]
      refine ⟨_, rfl, _, rfl, _, rfl, p, _, rfl, .inl (SqL.of upd_same), a, p, _, G, h, dx, l, q, g, popD h.desk, rfl, hh1, ht, wft_drop wf.tree, pq, pg, wf.promt, wf.proms, ?_⟩
      rw [en]
      exact guard_done k
end
end Sg

namespace Sg
open PySem PySem.Spec PyProof.Rows L2
open Kp365 (nodeAt isTrue)
open Kp367 (House Heard)
theorem Done.mono {c : Cl} {G G' : Hp} {a : Addr} {Q : VK} {b : Bool} {h : House} {ans : List Int} (k : Done c G a Q b h ans) (s : Same G G') : Done c G' a Q b h ans :=
  fun G2 H' p s' hh gp hp => k G2 H' p (s.trans s') hh gp hp
theorem guard_mono {c : Cl} {G G' : Hp} {a : Addr} {Q : VK} {h : House} {d : Kp366.Desk} {n : Int} (k : if h.promises.all (keptD d) then Done c G a Q true { h with desk := d } [n] else Done c G a Q true h [-30]) (s : Same G G') :
    if h.promises.all (keptD d) then Done c G' a Q true { h with desk := d } [n] else Done c G' a Q true h [-30] := by
  by_cases q : h.promises.all (keptD d) = true
  · rw [if_pos q] at k ⊢
    exact k.mono s
  · rw [if_neg q] at k ⊢
    exact k.mono s
/-- d' is d but for node i -/
structure But (d d' : Kp366.Desk) (i : Nat) : Prop where
  len : d'.tree.nodes.length = d.tree.nodes.length
  kids : (nodeAt d'.tree i).kids = (nodeAt d.tree i).kids
  oth : ∀ j, j ≠ i → j < d.tree.nodes.length → nodeAt d'.tree j = nodeAt d.tree j ∧ d'.price.getD j 0 = d.price.getD j 0 ∧ d'.thrice.testBit j = d.thrice.testBit j
theorem nodup_at {l : List Addr} (hn : l.Nodup) {i j : Nat} {a : Addr} (hi : l[i]? = some a) (hj : l[j]? = some a) : i = j := by
  have h1 := List.getElem?_eq_some_iff.mp hi
  have h2 := List.getElem?_eq_some_iff.mp hj
  rcases Nat.lt_trichotomy i j with q | q | q
  · have := List.pairwise_iff_getElem.mp hn i j h1.1 h2.1 q
    exact absurd (h1.2.trans h2.2.symm) this
  · exact q
  · have := List.pairwise_iff_getElem.mp hn j i h2.1 h1.1 q
    exact absurd (h2.2.trans h1.2.symm) this
theorem TreeMade.node {C p : Addr} {H0 H : Hp} {d : Kp366.Desk} (h : TreeMade C H0 H p d) {i : Nat} (hi : i < d.tree.nodes.length) : ∃ (as : List Addr) (a dx c : Addr), H p = some (.lst (as.map V.ref)) ∧ as[i]? = some a ∧ H0 a = none ∧ H a = some (.ins C dx (nF (nodeAt d.tree i) (d.price.getD i 0) (d.thrice.testBit i) c)) ∧
    ∀ d', But d d' i → TreeMade C H0 (upd H a (.ins C dx (nF (nodeAt d'.tree i) (d'.price.getD i 0) (d'.thrice.testBit i) c))) p d' := by
  obtain ⟨h0, as, h1, h2, hn, h3⟩ := h
  obtain ⟨a, ha⟩ : ∃ a, as[i]? = some a := ⟨_, List.getElem?_eq_getElem (by omega)⟩
  obtain ⟨z1, z2, dx, c, z3, z4, q1, q2⟩ := h3 i a ha
  refine ⟨as, a, dx, c, h1, ha, z1, q1, fun d' bt => ⟨h0, as, ?_, by rw [bt.len]; exact h2, hn, fun j x hx => ?_⟩⟩
  · rw [upd_ne z2.symm]
    exact h1
  · by_cases e : j = i
    · subst e
      cases hx.symm.trans ha
      refine ⟨z1, z2, dx, c, z3, z4, upd_same, ?_⟩
      rw [upd_ne (ne_of q2 q1 (by intro z; cases z)), bt.kids]
      exact q2
    · obtain ⟨y1, y2, dx', c', y3, y4, r1, r2⟩ := h3 j x hx
      have hj : j < d.tree.nodes.length := by rw [← h2]; exact lt_of_at hx
      obtain ⟨o1, o2, o3⟩ := bt.oth j e hj
      rw [o1, o2, o3]
      have xa : x ≠ a := fun z => e (nodup_at hn (z ▸ hx) ha)
      exact ⟨y1, y2, dx', c', y3, y4, by rw [upd_ne xa]; exact r1, by rw [upd_ne (ne_of r2 q1 (by intro z; cases z))]; exact r2⟩
theorem TreeIn.node {C t l : Addr} {G H : Hp} {d : Kp366.Desk} (h : TreeIn C t G H l d) {i : Nat} (hi : i < d.tree.nodes.length) : ∃ (as : List Addr) (a dx c : Addr), H l = some (.lst (as.map V.ref)) ∧ as[i]? = some a ∧ G a = none ∧ H a = some (.ins C dx (nF (nodeAt d.tree i) (d.price.getD i 0) (d.thrice.testBit i) c)) ∧
    G c = some (.lst ((nodeAt d.tree i).kids.map fun (k : Nat) => V.int (k : Int))) ∧
    ∀ d', But d d' i → TreeIn C t G (L2.upd H a (.ins C dx (nF (nodeAt d'.tree i) (d'.price.getD i 0) (d'.thrice.testBit i) c))) l d' := by
  obtain ⟨h0, as, h1, h2, hn, h3⟩ := h
  obtain ⟨a, ha⟩ : ∃ a, as[i]? = some a := ⟨_, List.getElem?_eq_getElem (by omega)⟩
  obtain ⟨z1, dx, c, q1, q2⟩ := h3 i a ha
  refine ⟨as, a, dx, c, h1, ha, z1, q1, q2.1, fun d' bt => ⟨h0, as, ?_, by rw [bt.len]; exact h2, hn, fun j x hx => ?_⟩⟩
  · rw [upd_ne (ne_of h1 q1 (by intro z; cases z))]
    exact h1
  · by_cases e : j = i
    · subst e
      cases hx.symm.trans ha
      refine ⟨z1, dx, c, upd_same, ?_⟩
      rw [bt.kids]
      exact q2
    · obtain ⟨y1, dx', c', r1, r2⟩ := h3 j x hx
      have hj : j < d.tree.nodes.length := by rw [← h2]; exact lt_of_at hx
      obtain ⟨o1, o2, o3⟩ := bt.oth j e hj
      rw [o1, o2, o3]
      have xa : x ≠ a := fun z => e (nodup_at hn (z ▸ hx) ha)
      exact ⟨y1, dx', c', by rw [upd_ne xa]; exact r1, r2⟩
/-- a made tree may take the house's tree's place -/
theorem join {c : Cl} {G H Hf : Hp} {a dx l q g p : Addr} {h : House} {d : Kp366.Desk} {n : Int} {Q : VK} (hh : HouseIs c G H a true h dx l q g) (s : Same H Hf) (ht : TreeMade c.N H Hf p d) (wd : WFT d.tree) (wf : WFH h)
    (k : if h.promises.all (keptD d) then Done c G a Q true { h with desk := d } [n] else Done c G a Q true h [-30]) : spChange c [.ref a, .ref p, .int n] Hf Q E0 := by
  have p0 := ht.1
  have pq : p ≠ q := by
    obtain ⟨_, qs, hq1, _⟩ := hh.prom
    exact (ne_of_none hq1 p0).symm
  have pg : p ≠ g := by
    obtain ⟨_, gs, hg1, _⟩ := hh.log
    exact (ne_of_none hg1 p0).symm
  exact ⟨a, p, n, frz H Hf p G, h, dx, l, q, g, d, rfl, hh.move s (frz_ext hh.sub) (frz_sub hh.sub s), frz_tree ht (hh.told.elim fun o z => ⟨o, hh.sub _ _ z⟩), wd, pq, pg, wf.promt, wf.proms, guard_mono k (frz_ext (H := Hf) (p := p) hh.sub).1⟩
theorem withSo_node {t : Kp365.Desk} {i : Nat} (hi : i < t.nodes.length) (j : Nat) : nodeAt (Kp365.withSo t i) j = if j = i then { nodeAt t i with so := 1 - (nodeAt t i).so } else nodeAt t j := nodeAt_set hi j
def aboutNode (h : House) (i : Nat) : Prop := i < cnt h
def sp1 (c : Cl) (call : Nat → Kp367.Call) : Sp := spH (α := Nat) c (fun x => [x]) call aboutNode
section
variable {P : Program} {w : World} {K : PySem.W.Frag} {mg : Str → Option Value} {base : Heap}
theorem ok_FlipLeaf (T : Tx K mg) (t0 : Addr) : FnOk P w K mg base CX0 7 T.fFlipLeaf T.dFlipLeaf ["house", "args"] (sp1 (T.c t0) .flip) := by
  have GChange := ok_Change (P := P) (w := w) (base := base) T t0
  have GCopiesOf := ok_CopiesOf (P := P) (w := w) (base := base) T
  refine T.FFlipLeaf.ok scFlipLeaf (fun vs H Q E h => ?_) (fun cdv A outer s H vs Q E hr h => ?_)
  · obtain ⟨a, ag, G, h, dx, l, q, g, x, rfl, _⟩ := h
    rfl
  · obtain ⟨a, ag, G, h, dx, l, q, g, i, rfl, hh, wf, hag, hi, hb, _, k⟩ := h
    refine ⟨_, (pss_cons (ps_set (i := 2) scFlipLeaf.nd rfl (Or.inl rfl) (pe_call GCopiesOf (hr.mono (by decide)) rfl T.gCopiesOf T.FCopiesOf.kp T.bCopiesOf .nil pass0 (pa_cons (pe_fld (pv 0) rfl) pa_nil)))
      (pss_cons (ps_set (i := 3) scFlipLeaf.nd rfl (Or.inl rfl) (pe_ix ix_list (pv 2) (pe_ix ix_list (pv 1) pe_int (fun _ _ => rfl)) (fun _ _ => rfl)))
      (pss_cons (ps_if (pt_cmpR op_ne (pe_fld (pv 3) rfl) (pe_glob (v := V.int (0)) rfl T.gLEAF ⟨_, rfl⟩) (nomark _)) (pss_one (ps_ret (pe_lst (pa_cons (pe_glob (v := V.int (-33)) rfl T.gNO_FIT ⟨_, rfl⟩) pa_nil))))
      pss_nil)
      (pss_cons (ps_fld (pv 3) (pe_op op_sub pe_int (pe_fld (pv 3) rfl)) rfl)
      (pss_one (ps_ret (pe_call GChange (hr.mono (by decide)) rfl T.gChange T.FChange.kp T.bChange .nil pass0 (pa_cons (pv 0) (pa_cons (pv 2) (pa_cons (pe_fld (pv 3) rfl) pa_nil)))))))))), ?_⟩
    have hi : i < cnt h := hi
    rw [st_flip, if_neg (Nat.not_le.mpr hi)] at k
    have hA := hh.sub _ _ hag
    refine ⟨_, rfl, a, T.cHouse, dx, _, _, rfl, hh.obj, T.clHouse, T.nHouse_nodes, hF_nodes, l, h.desk, rfl, hh.treeAt, wf.tree.len, fun H1 p s1 ht => ?_⟩
    obtain ⟨as, x, dn, cn, hp1, hx, x0, hx1, hset⟩ := ht.node hi
    refine ⟨_, rfl, _, rfl, ag, _, _, _, rfl, rfl, SqL.of (s1 _ _ hA), atI_nat (j := 0) (v := V.int (i : Int)) rfl, p, _, _, _, rfl, rfl, SqL.of hp1, atI_nat (v := V.ref x) (by rw [List.getElem?_map, hx]; rfl), ?_⟩
    refine ⟨_, rfl, x, T.cNode, dn, _, _, rfl, hx1, T.clNode, T.nNode_kind, nF_kind, rfl, _, rfl, ?_⟩
    refine ite2 (fun e => ?_) (fun e => ?_)
    · have e : (nodeAt h.desk.tree i).kind ≠ 0 := fun q => by rw [q] at e; exact absurd e (by decide)
      rw [if_pos e] at k
      exact ⟨(by show 1 ≤ sizeLine; decide), fun r hr => (k h rfl).new (Same.refl _) (hh.same s1) hr⟩
    · have e : (nodeAt h.desk.tree i).kind = 0 := by simp at e; omega
      rw [if_neg (by simp [e])] at k
      refine ⟨_, rfl, x, T.cNode, dn, _, _, rfl, hx1, T.clNode, T.nNode_so, nF_so, _, _, rfl, rfl, _, rfl, x, T.cNode, dn, _, rfl, hx1, T.clNode, T.nNode_so, nF_few _ _ _ _, ?_⟩
      have hso : (nodeAt h.desk.tree i).so ≤ 1 := by
        rcases wf.tree.kind i with z | z
        · exact z.2.2.1
        · omega
      have e1 : (1 : Int) - ((nodeAt h.desk.tree i).so : Int) = ((1 - (nodeAt h.desk.tree i).so : Nat) : Int) := by omega
      have enew : nodeAt (flipD h.desk i).tree i = { nodeAt h.desk.tree i with so := 1 - (nodeAt h.desk.tree i).so } := (withSo_node hi i).trans (if_pos rfl)
      have bt : But h.desk (flipD h.desk i) i := by
        refine ⟨?_, by rw [enew], fun j hj _ => ⟨(withSo_node hi j).trans (if_neg hj), rfl, rfl⟩⟩
        show (h.desk.tree.nodes.set i _).length = _
        rw [List.length_set]
      have hset := hset _ bt
      rw [enew] at hset
      have eput : putF "so" (.int ((1 : Int) - ((nodeAt h.desk.tree i).so : Int))) (nF (nodeAt h.desk.tree i) (h.desk.price.getD i 0) (h.desk.thrice.testBit i) cn) = nF { nodeAt h.desk.tree i with so := 1 - (nodeAt h.desk.tree i).so } (h.desk.price.getD i 0) (h.desk.thrice.testBit i) cn := by
        rw [e1, nF_putSo]
      rw [eput]
      refine ⟨_, rfl, _, rfl, _, rfl, x, T.cNode, dn, _, _, rfl, upd_same, T.clNode, T.nNode_so, nF_so, ?_⟩
      exact join hh (same_upd x0 s1) hset (wft_flip wf.tree hi e) wf (guard_done k)
end
end Sg

namespace Sg
open PySem PySem.Spec PyProof.Rows L2
open Kp365 (nodeAt isTrue)
open Kp367 (House Heard)
def spPrice (c : Cl) : Sp := spH (α := Nat × Nat) c (fun x => [x.1, x.2]) (fun x => .price x.1 x.2) (fun h x => x.1 < cnt h)
theorem price_set_get {ps : List Nat} {i p : Nat} (hi : i < ps.length) (j : Nat) : (ps.set i p).getD j 0 = if j = i then p else ps.getD j 0 := by
  rw [List.getD_eq_getElem?_getD, List.getElem?_set]
  by_cases e : i = j
  · subst e
    rw [if_pos rfl, if_pos hi, if_pos rfl]
    rfl
  · rw [if_neg e, if_neg fun z => e z.symm, ← List.getD_eq_getElem?_getD]
theorem but_thrice {d : Kp366.Desk} {s i : Nat} (h : ∀ j, j ≠ i → s.testBit j = d.thrice.testBit j) : But d { d with thrice := s } i := ⟨rfl, rfl, fun j hj _ => ⟨rfl, rfl, h j hj⟩⟩
section
variable {P : Program} {w : World} {K : PySem.W.Frag} {mg : Str → Option Value} {base : Heap}
theorem ok_SetPrice (T : Tx K mg) (t0 : Addr) : FnOk P w K mg base CX0 1 T.fSetPrice T.dSetPrice ["house", "args"] (spPrice (T.c t0)) := by
  refine T.FSetPrice.ok scSetPrice (fun vs H Q E h => ?_) (fun cdv A outer s H vs Q E hr h => ?_)
  · obtain ⟨a, ag, G, h, dx, l, q, g, x, rfl, _⟩ := h
    rfl
  · obtain ⟨a, ag, G, h, dx, l, q, g, ⟨i, p⟩, rfl, hh, wf, hag, hi, hb, _, k⟩ := h
    refine ⟨_, (pss_cons (ps_set (i := 2) scSetPrice.nd rfl (Or.inl rfl) (pe_ix ix_list (pe_fld (pv 0) rfl) (pe_ix ix_list (pv 1) pe_int (fun _ _ => rfl)) (fun _ _ => rfl)))
      (pss_cons (ps_if (PW.pt (pw_or (pt_cmpR op_lt (pe_ix ix_list (pv 1) pe_int (fun _ _ => rfl)) pe_int (nomark _)) (pw_or1 (pt_cmpR op_gt (pe_ix ix_list (pv 1) pe_int (fun _ _ => rfl)) (pe_glob (v := V.int (100)) rfl T.gMOST_PRICE ⟨_, rfl⟩) (nomark _))))) (pss_one (ps_ret (pe_lst (pa_cons (pe_glob (v := V.int (-22)) rfl T.gNOT_AS_TOLD ⟨_, rfl⟩) pa_nil))))
      pss_nil)
      (pss_cons (ps_set (i := 3) scSetPrice.nd rfl (Or.inl rfl) (pe_fld (pv 2) rfl))
      (pss_cons (ps_fld (pv 2) (pe_ix ix_list (pv 1) pe_int (fun _ _ => rfl)) rfl)
      (pss_one (ps_ret (pe_lst (pa_cons (pv 3) pa_nil)))))))), ?_⟩
    have hi : i < cnt h := hi
    have k : ∀ h', (Kp367.step (some h) (.price i p)).1 = some h' → Done (T.c t0) G a Q true h' ((Kp367.step (some h) (.price i p)).2.num :: (Kp367.step (some h) (.price i p)).2.nums) := k
    rw [st_price wf, if_neg (Nat.not_le.mpr hi)] at k
    have hA := hh.sub _ _ hag
    obtain ⟨as, x, dn, cn, hl, hx, gx, hx1, _, hset⟩ := hh.tree.node hi
    refine ⟨_, rfl, a, T.cHouse, dx, _, _, rfl, hh.obj, T.clHouse, T.nHouse_nodes, hF_nodes, _, rfl, ag, _, _, _, rfl, rfl, SqL.of hA, atI_nat (j := 0) (v := V.int (i : Int)) rfl, l, _, _, _, rfl, rfl, SqL.of hl, atI_nat (v := V.ref x) (by rw [List.getElem?_map, hx]; rfl), ?_⟩
    refine ⟨_, rfl, ag, _, _, _, rfl, rfl, SqL.of hA, atI_nat (j := 1) (v := V.int (p : Int)) rfl, _, _, rfl, rfl, _, rfl, ?_⟩
    refine ite2 (fun e => ?_) (fun e => ?_)
    · rw [if_pos (Or.inl (by simp at e; omega))] at k
      exact iteT ⟨(by show 1 ≤ sizeLine; decide), fun r hr => (k h rfl).new (Same.refl _) hh hr⟩
    have e : ¬ p < 1 := by simp at e; omega
    refine ⟨_, rfl, ag, _, _, _, rfl, rfl, SqL.of hA, atI_nat (j := 1) (v := V.int (p : Int)) rfl, _, _, rfl, rfl, _, rfl, ?_⟩
    refine ite2 (fun e1 => ?_) (fun e1 => ?_)
    · rw [if_pos (Or.inr (by simp at e1; omega))] at k
      exact ⟨(by show 1 ≤ sizeLine; decide), fun r hr => (k h rfl).new (Same.refl _) hh hr⟩
    have e1 : ¬ 100 < p := by simp at e1; omega
    rw [if_neg (by omega)] at k
    refine ⟨_, rfl, x, T.cNode, dn, _, _, rfl, hx1, T.clNode, T.nNode_price, nF_price, ?_⟩
    refine ⟨_, rfl, ag, _, _, _, rfl, rfl, SqL.of hA, atI_nat (j := 1) (v := V.int (p : Int)) rfl, _, rfl, x, T.cNode, dn, _, rfl, hx1, T.clNode, T.nNode_price, nF_few _ _ _ _, ?_⟩
    rw [nF_putPrice]
    have hpl : i < h.desk.price.length := by rw [wf.price]; exact hi
    have bt : But h.desk { h.desk with price := h.desk.price.set i p } i := ⟨rfl, rfl, fun j hj _ => ⟨rfl, (price_set_get hpl j).trans (if_neg hj), rfl⟩⟩
    have hset := hset _ bt
    have ep : ({ h.desk with price := h.desk.price.set i p } : Kp366.Desk).price.getD i 0 = p := (price_set_get hpl i).trans (if_pos rfl)
    rw [ep] at hset
    have hh2 : HouseIs (T.c t0) G (upd H x (.ins T.cNode dn (nF (nodeAt h.desk.tree i) p (h.desk.thrice.testBit i) cn))) a true { h with desk := { h.desk with price := h.desk.price.set i p } } dx l q g := by
      obtain ⟨_, qs, hq1, _⟩ := id hh.prom
      obtain ⟨_, gs, hg1, _⟩ := id hh.log
      refine ⟨same_upd gx hh.sub, ?_, hh.ga, hset, hh.prom.upd (ne_of hq1 hx1 (by intro z; cases z)), hh.log.upd (ne_of hg1 hx1 (by intro z; cases z)), hh.lq, hh.lg, hh.qg, hh.told⟩
      rw [upd_ne (house_node hh.obj hx1)]
      exact hh.obj
    exact ⟨_, rfl, (by show 1 ≤ sizeLine; decide), fun r hr => (k _ rfl).new (Same.refl _) hh2 hr⟩
theorem ok_ReadThrice (T : Tx K mg) (t0 : Addr) : FnOk P w K mg base CX0 7 T.fReadThrice T.dReadThrice ["house", "args"] (sp1 (T.c t0) .thrice) := by
  have GChange := ok_Change (P := P) (w := w) (base := base) T t0
  have GCopiesOf := ok_CopiesOf (P := P) (w := w) (base := base) T
  have GCostOfAll := ok_CostOfAll (P := P) (w := w) (base := base) T
  refine T.FReadThrice.ok scReadThrice (fun vs H Q E h => ?_) (fun cdv A outer s H vs Q E hr h => ?_)
  · obtain ⟨a, ag, G, h, dx, l, q, g, x, rfl, _⟩ := h
    rfl
  · obtain ⟨a, ag, G, h, dx, l, q, g, i, rfl, hh, wf, hag, hi, hb, _, k⟩ := h
    refine ⟨_, (pss_cons (ps_set (i := 2) scReadThrice.nd rfl (Or.inl rfl) (pe_call GCopiesOf (hr.mono (by decide)) rfl T.gCopiesOf T.FCopiesOf.kp T.bCopiesOf .nil pass0 (pa_cons (pe_fld (pv 0) rfl) pa_nil)))
      (pss_cons (ps_set (i := 3) scReadThrice.nd rfl (Or.inl rfl) (pe_ix ix_list (pv 2) (pe_ix ix_list (pv 1) pe_int (fun _ _ => rfl)) (fun _ _ => rfl)))
      (pss_cons (ps_if (pt_cmpR op_ne (pe_fld (pv 3) rfl) (pe_glob (v := V.int (0)) rfl T.gLEAF ⟨_, rfl⟩) (nomark _)) (pss_one (ps_ret (pe_lst (pa_cons (pe_glob (v := V.int (-33)) rfl T.gNO_FIT ⟨_, rfl⟩) pa_nil))))
      pss_nil)
      (pss_cons (ps_if (pt_val (pe_fld (pv 3) rfl)) (pss_one (ps_ret (pe_lst (pa_cons (pe_glob (v := V.int (-17)) rfl T.gSO_ALREADY ⟨_, rfl⟩) pa_nil))))
      pss_nil)
      (pss_cons (ps_fld (pv 3) pe_bl rfl)
      (pss_one (ps_ret (pe_call GChange (hr.mono (by decide)) rfl T.gChange T.FChange.kp T.bChange .nil pass0 (pa_cons (pv 0) (pa_cons (pv 2) (pa_cons (pe_call GCostOfAll (hr.mono (by decide)) rfl T.gCostOfAll T.FCostOfAll.kp T.bCostOfAll .nil pass0 (pa_cons (pv 2) pa_nil)) pa_nil))))))))))), ?_⟩
    have hi : i < cnt h := hi
    rw [st_thrice, if_neg (Nat.not_le.mpr hi)] at k
    have hA := hh.sub _ _ hag
    refine ⟨_, rfl, a, T.cHouse, dx, _, _, rfl, hh.obj, T.clHouse, T.nHouse_nodes, hF_nodes, l, h.desk, rfl, hh.treeAt, wf.tree.len, fun H1 p s1 ht => ?_⟩
    obtain ⟨as, x, dn, cn, hp1, hx, x0, hx1, hset⟩ := ht.node hi
    refine ⟨_, rfl, _, rfl, ag, _, _, _, rfl, rfl, SqL.of (s1 _ _ hA), atI_nat (j := 0) (v := V.int (i : Int)) rfl, p, _, _, _, rfl, rfl, SqL.of hp1, atI_nat (v := V.ref x) (by rw [List.getElem?_map, hx]; rfl), ?_⟩
    refine ⟨_, rfl, x, T.cNode, dn, _, _, rfl, hx1, T.clNode, T.nNode_kind, nF_kind, rfl, _, rfl, ?_⟩
    refine ite2 (fun e => ?_) (fun e => ?_)
    · have e : (nodeAt h.desk.tree i).kind ≠ 0 := fun q => by rw [q] at e; exact absurd e (by decide)
      rw [if_pos e] at k
      exact ⟨(by show 1 ≤ sizeLine; decide), fun r hr => (k h rfl).new (Same.refl _) (hh.same s1) hr⟩
    have e : (nodeAt h.desk.tree i).kind = 0 := by simp at e; omega
    rw [if_neg (by simp [e])] at k
    refine ⟨_, rfl, x, T.cNode, dn, _, _, rfl, hx1, T.clNode, T.nNode_thrice, nF_thrice, _, rfl, ?_⟩
    refine ite2 (fun e1 => ?_) (fun e1 => ?_)
    · rw [if_pos e1] at k
      exact ⟨(by show 1 ≤ sizeLine; decide), fun r hr => (k h rfl).new (Same.refl _) (hh.same s1) hr⟩
    rw [if_neg e1] at k
    have e1 : h.desk.thrice.testBit i = false := by simpa using e1
    refine ⟨_, rfl, x, T.cNode, dn, _, rfl, hx1, T.clNode, T.nNode_thrice, nF_few _ _ _ _, ?_⟩
    rw [nF_putThrice]
    have bt : But h.desk { h.desk with thrice := h.desk.thrice + 2 ^ i } i := but_thrice fun j hj => by rw [bit_add e1, if_neg hj]
    have hset := hset _ bt
    have eb : ({ h.desk with thrice := h.desk.thrice + 2 ^ i } : Kp366.Desk).thrice.testBit i = true := (bit_add e1 i).trans (if_pos rfl)
    rw [eb] at hset
    refine ⟨_, rfl, _, rfl, _, rfl, p, _, rfl, hset.at, wf.tree.len, fun H3 s3 => ?_⟩
    exact join hh ((same_upd x0 s1).trans s3) (hset.same s3) wf.tree wf (guard_done k)
theorem ok_ReadOnce (T : Tx K mg) (t0 : Addr) : FnOk P w K mg base CX0 7 T.fReadOnce T.dReadOnce ["house", "args"] (sp1 (T.c t0) .once) := by
  have GChange := ok_Change (P := P) (w := w) (base := base) T t0
  have GCopiesOf := ok_CopiesOf (P := P) (w := w) (base := base) T
  have GCostOfAll := ok_CostOfAll (P := P) (w := w) (base := base) T
  refine T.FReadOnce.ok scReadOnce (fun vs H Q E h => ?_) (fun cdv A outer s H vs Q E hr h => ?_)
  · obtain ⟨a, ag, G, h, dx, l, q, g, x, rfl, _⟩ := h
    rfl
  · obtain ⟨a, ag, G, h, dx, l, q, g, i, rfl, hh, wf, hag, hi, hb, _, k⟩ := h
    refine ⟨_, (pss_cons (ps_set (i := 2) scReadOnce.nd rfl (Or.inl rfl) (pe_call GCopiesOf (hr.mono (by decide)) rfl T.gCopiesOf T.FCopiesOf.kp T.bCopiesOf .nil pass0 (pa_cons (pe_fld (pv 0) rfl) pa_nil)))
      (pss_cons (ps_set (i := 3) scReadOnce.nd rfl (Or.inl rfl) (pe_ix ix_list (pv 2) (pe_ix ix_list (pv 1) pe_int (fun _ _ => rfl)) (fun _ _ => rfl)))
      (pss_cons (ps_if (pt_not (pt_val (pe_fld (pv 3) rfl))) (pss_one (ps_ret (pe_lst (pa_cons (pe_glob (v := V.int (-6)) rfl T.gNOTHING_THERE ⟨_, rfl⟩) pa_nil))))
      pss_nil)
      (pss_cons (ps_fld (pv 3) pe_bl rfl)
      (pss_one (ps_ret (pe_call GChange (hr.mono (by decide)) rfl T.gChange T.FChange.kp T.bChange .nil pass0 (pa_cons (pv 0) (pa_cons (pv 2) (pa_cons (pe_call GCostOfAll (hr.mono (by decide)) rfl T.gCostOfAll T.FCostOfAll.kp T.bCostOfAll .nil pass0 (pa_cons (pv 2) pa_nil)) pa_nil)))))))))), ?_⟩
    have hi : i < cnt h := hi
    rw [st_once, if_neg (Nat.not_le.mpr hi)] at k
    have hA := hh.sub _ _ hag
    refine ⟨_, rfl, a, T.cHouse, dx, _, _, rfl, hh.obj, T.clHouse, T.nHouse_nodes, hF_nodes, l, h.desk, rfl, hh.treeAt, wf.tree.len, fun H1 p s1 ht => ?_⟩
    obtain ⟨as, x, dn, cn, hp1, hx, x0, hx1, hset⟩ := ht.node hi
    refine ⟨_, rfl, _, rfl, ag, _, _, _, rfl, rfl, SqL.of (s1 _ _ hA), atI_nat (j := 0) (v := V.int (i : Int)) rfl, p, _, _, _, rfl, rfl, SqL.of hp1, atI_nat (v := V.ref x) (by rw [List.getElem?_map, hx]; rfl), ?_⟩
    refine ⟨_, rfl, x, T.cNode, dn, _, _, rfl, hx1, T.clNode, T.nNode_thrice, nF_thrice, _, rfl, ?_⟩
    cases e1 : h.desk.thrice.testBit i with
    | false =>
      rw [if_pos e1] at k
      exact iteT ⟨(by show 1 ≤ sizeLine; decide), fun r hr => (k h rfl).new (Same.refl _) (hh.same s1) hr⟩
    | true =>
      rw [if_neg (by rw [e1]; decide)] at k
      refine iteF ?_
      refine ⟨_, rfl, x, T.cNode, dn, _, rfl, hx1, T.clNode, T.nNode_thrice, nF_few _ _ _ _, ?_⟩
      rw [nF_putThrice]
      have bt : But h.desk { h.desk with thrice := h.desk.thrice - 2 ^ i } i := but_thrice fun j hj => by rw [bit_sub e1, if_neg hj]
      have hset := hset _ bt
      have eb : ({ h.desk with thrice := h.desk.thrice - 2 ^ i } : Kp366.Desk).thrice.testBit i = false := (bit_sub e1 i).trans (if_pos rfl)
      rw [eb] at hset
      refine ⟨_, rfl, _, rfl, _, rfl, p, _, rfl, hset.at, wf.tree.len, fun H3 s3 => ?_⟩
      exact join hh ((same_upd x0 s1).trans s3) (hset.same s3) wf.tree wf (guard_done k)
end
end Sg

namespace Sg
open PySem PySem.Spec PyProof.Rows L2
open Kp365 (nodeAt isTrue)
open Kp367 (House Heard)
theorem frac_use {z : Int} (h0 : 0 ≤ z) {H : Hp} {Q : VK} {E : XK} (k : ∀ p, H p = none → Q (.ref p) (upd H p (.lst ((frL z).map V.int)))) : spFraction [.int z, .int 1000000] H Q E := by
  obtain ⟨n, rfl⟩ := Int.eq_ofNat_of_zero_le h0
  exact ⟨n, 1000000, rfl, by decide, by decide, k⟩
/-- the i-th node of the house's tree -/
theorem HouseIs.node {c : Cl} {G H : Hp} {a dx l q g : Addr} {b : Bool} {h : House} (hh : HouseIs c G H a b h dx l q g) {i : Nat} (hi : i < cnt h) : ∃ (as : List Addr) (x dn cn : Addr), H l = some (.lst (as.map V.ref)) ∧ (as.map V.ref)[i]? = some (.ref x) ∧ H x = some (.ins c.N dn (nF (nodeAt h.desk.tree i) (h.desk.price.getD i 0) (h.desk.thrice.testBit i) cn)) ∧
    H cn = some (.lst (natL (nodeAt h.desk.tree i).kids)) := by
  obtain ⟨as, x, dn, cn, hl, hx, _, hx1, hc, _⟩ := hh.tree.node hi
  exact ⟨as, x, dn, cn, hl, by rw [List.getElem?_map, hx]; rfl, hx1, hh.sub _ _ hc⟩
theorem natL_ints (l : List Nat) : natL l = (l.map fun (x : Nat) => (x : Int)).map V.int := by
  unfold natL
  rw [List.map_map]
  rfl
section
variable {P : Program} {w : World} {K : PySem.W.Frag} {mg : Str → Option Value} {base : Heap}
theorem ok_TellNode (T : Tx K mg) (t0 : Addr) : FnOk P w K mg base CX0 1 T.fTellNode T.dTellNode ["house", "args"] (sp1 (T.c t0) .nodeIs) := by
  refine T.FTellNode.ok scTellNode (fun vs H Q E h => ?_) (fun cdv A outer s H vs Q E hr h => ?_)
  · obtain ⟨a, ag, G, h, dx, l, q, g, x, rfl, _⟩ := h
    rfl
  · obtain ⟨a, ag, G, h, dx, l, q, g, i, rfl, hh, wf, hag, hi, hb, _, k⟩ := h
    refine ⟨_, (pss_cons (ps_set (i := 2) scTellNode.nd rfl (Or.inl rfl) (pe_ix ix_list (pe_fld (pv 0) rfl) (pe_ix ix_list (pv 1) pe_int (fun _ _ => rfl)) (fun _ _ => rfl)))
      (pss_cons (ps_if (pt_cmpR op_eq (pe_fld (pv 2) rfl) (pe_glob (v := V.int (0)) rfl T.gLEAF ⟨_, rfl⟩) (nomark _)) (pss_one (ps_ret (pe_lst (pa_cons (pe_glob (v := V.int (0)) rfl T.gLEAF ⟨_, rfl⟩) (pa_cons (pe_fld (pv 2) rfl) (pa_cons (pe_fld (pv 2) rfl) pa_nil))))))
      pss_nil)
      (pss_one (ps_ret (pe_op op_cat (pe_lst (pa_cons (pe_fld (pv 2) rfl) pa_nil)) (pe_fld (pv 2) rfl)))))), ?_⟩
    have hi : i < cnt h := hi
    rw [st_nodeIs, if_neg (Nat.not_le.mpr hi)] at k
    have k := k h rfl
    have hA := hh.sub _ _ hag
    obtain ⟨as, x, dn, cn, hl, hx, hx1, hc1⟩ := hh.node hi
    refine ⟨_, rfl, a, T.cHouse, dx, _, _, rfl, hh.obj, T.clHouse, T.nHouse_nodes, hF_nodes, _, rfl, ag, _, _, _, rfl, rfl, SqL.of hA, atI_nat (j := 0) (v := V.int (i : Int)) rfl, l, _, _, _, rfl, rfl, SqL.of hl, atI_nat hx, ?_⟩
    refine ⟨_, rfl, x, T.cNode, dn, _, _, rfl, hx1, T.clNode, T.nNode_kind, nF_kind, rfl, _, rfl, ?_⟩
    refine ite2 (fun e => ?_) (fun e => ?_)
    · have e : (nodeAt h.desk.tree i).kind = 0 := by simp at e; omega
      dsimp only at k
      rw [if_pos e, e] at k
      refine ⟨_, rfl, x, T.cNode, dn, _, _, rfl, hx1, T.clNode, T.nNode_so, nF_so, _, rfl, x, T.cNode, dn, _, _, rfl, hx1, T.clNode, T.nNode_wrong, nF_wrong, (by show 3 ≤ sizeLine; decide), fun r hr => ?_⟩
      exact k.new (Same.refl _) hh hr
    · have e : ¬ (nodeAt h.desk.tree i).kind = 0 := fun q => e (by simp [q])
      dsimp only at k
      rw [if_neg e] at k
      refine ⟨_, rfl, x, T.cNode, dn, _, _, rfl, hx1, T.clNode, T.nNode_kind, nF_kind, (by show 1 ≤ sizeLine; decide), fun r hr => ?_⟩
      have sr : Same H (upd H r (.lst [.int (nodeAt h.desk.tree i).kind])) := Same.new hr
      refine ⟨_, rfl, x, T.cNode, dn, _, _, rfl, sr _ _ hx1, T.clNode, T.nNode_children, nF_children, r, cn, _, _, rfl, rfl, upd_same, sr _ _ hc1, ?_, fun r2 hr2 => ?_⟩
      · show 1 + (natL (nodeAt h.desk.tree i).kids).length ≤ sizeLine
        unfold natL
        rw [List.length_map]
        have := wf.tree.klen i
        exact Nat.le_of_lt (Nat.lt_of_le_of_lt (show 1 + _ ≤ 100 by omega) (by decide))
      have e2 : ([V.int ((nodeAt h.desk.tree i).kind : Int)] ++ natL (nodeAt h.desk.tree i).kids) = (((nodeAt h.desk.tree i).kind : Int) :: (nodeAt h.desk.tree i).kids.map fun (x : Nat) => (x : Int)).map V.int := by
        rw [natL_ints]
        rfl
      show Q (.ref r2) (upd _ r2 (.lst ([V.int ((nodeAt h.desk.tree i).kind : Int)] ++ natL (nodeAt h.desk.tree i).kids)))
      rw [e2]
      exact k.new (Same.refl _) (hh.same sr) hr2
theorem ok_TellMisread (T : Tx K mg) (t0 : Addr) : FnOk P w K mg base CX0 2 T.fTellMisread T.dTellMisread ["house", "args"] (sp1 (T.c t0) .misread) := by
  have GFraction := ok_Fraction (P := P) (w := w) (base := base) T
  have GMisreadOf := ok_MisreadOf (P := P) (w := w) (base := base) T
  refine T.FTellMisread.ok scTellMisread (fun vs H Q E h => ?_) (fun cdv A outer s H vs Q E hr h => ?_)
  · obtain ⟨a, ag, G, h, dx, l, q, g, x, rfl, _⟩ := h
    rfl
  · obtain ⟨a, ag, G, h, dx, l, q, g, i, rfl, hh, wf, hag, hi, hb, _, k⟩ := h
    refine ⟨_, (pss_cons (ps_set (i := 2) scTellMisread.nd rfl (Or.inl rfl) (pe_ix ix_list (pe_fld (pv 0) rfl) (pe_ix ix_list (pv 1) pe_int (fun _ _ => rfl)) (fun _ _ => rfl)))
      (pss_cons (ps_if (pt_cmpR op_ne (pe_fld (pv 2) rfl) (pe_glob (v := V.int (0)) rfl T.gLEAF ⟨_, rfl⟩) (nomark _)) (pss_one (ps_ret (pe_lst (pa_cons (pe_glob (v := V.int (-33)) rfl T.gNO_FIT ⟨_, rfl⟩) pa_nil))))
      pss_nil)
      (pss_one (ps_ret (pe_op op_cat (pe_lst (pa_cons pe_int pa_nil)) (pe_call GFraction (hr.mono (by decide)) rfl T.gFraction T.FFraction.kp T.bFraction .nil pass0 (pa_cons (pe_call GMisreadOf (hr.mono (by decide)) rfl T.gMisreadOf T.FMisreadOf.kp T.bMisreadOf .nil pass0 (pa_cons (pv 2) (pa_cons (pe_fld (pv 2) rfl) pa_nil))) (pa_cons (pe_glob (v := V.int (1000000)) rfl T.gWHOLE ⟨_, rfl⟩) pa_nil)))))))), ?_⟩
    have hi : i < cnt h := hi
    rw [st_misread, if_neg (Nat.not_le.mpr hi)] at k
    have k := k h rfl
    have hA := hh.sub _ _ hag
    obtain ⟨as, x, dn, cn, hl, hx, hx1, hc1⟩ := hh.node hi
    refine ⟨_, rfl, a, T.cHouse, dx, _, _, rfl, hh.obj, T.clHouse, T.nHouse_nodes, hF_nodes, _, rfl, ag, _, _, _, rfl, rfl, SqL.of hA, atI_nat (j := 0) (v := V.int (i : Int)) rfl, l, _, _, _, rfl, rfl, SqL.of hl, atI_nat hx, ?_⟩
    refine ⟨_, rfl, x, T.cNode, dn, _, _, rfl, hx1, T.clNode, T.nNode_kind, nF_kind, rfl, _, rfl, ?_⟩
    refine ite2 (fun e => ?_) (fun e => ?_)
    · have e : (nodeAt h.desk.tree i).kind ≠ 0 := fun q => by rw [q] at e; exact absurd e (by decide)
      dsimp only at k
      rw [if_pos e] at k
      exact ⟨(by show 1 ≤ sizeLine; decide), fun r hr => k.new (Same.refl _) hh hr⟩
    · have e : (nodeAt h.desk.tree i).kind = 0 := by simp at e; omega
      dsimp only at k
      rw [if_neg (by simp [e])] at k
      refine ⟨(by show 1 ≤ sizeLine; decide), fun r hr => ?_⟩
      have sr : Same H (upd H r (.lst [.int 0])) := Same.new hr
      have hw : (nodeAt h.desk.tree i).wrong ≤ 100 := by
        rcases wf.tree.kind i with z | z
        · exact z.2.2.2
        · omega
      refine ⟨_, rfl, _, rfl, x, T.cNode, dn, _, _, rfl, sr _ _ hx1, T.clNode, T.nNode_thrice, nF_thrice, x, _, _, _, _, rfl, ⟨dn, cn, sr _ _ hx1, sr _ _ hc1⟩, hw, ?_⟩
      show spFraction [V.int (misW (nodeAt h.desk.tree i).wrong (h.desk.thrice.testBit i)), V.int 1000000] (upd H r (.lst [.int 0])) (fun y H2 => rCat (V.ref r) y H2 Q) E0
      refine frac_use (misW_bounds _ _ hw).1 fun r1 hr1 => ?_
      have s1 := sr.trans (Same.new (o := .lst ((frL (misI h.desk h.desk.thrice i)).map V.int)) hr1)
      refine ⟨r, r1, _, _, rfl, rfl, Same.new hr1 _ _ upd_same, upd_same, (by show 3 ≤ sizeLine; decide), fun r2 hr2 => ?_⟩
      exact k.new (Same.refl _) (hh.same s1) hr2
theorem ok_TellTruth (T : Tx K mg) (t0 : Addr) : FnOk P w K mg base CX0 2 T.fTellTruth T.dTellTruth ["house", "args"] (sp1 (T.c t0) .true_) := by
  have GTruths := ok_Truths (P := P) (w := w) (base := base) T
  refine T.FTellTruth.ok scTellTruth (fun vs H Q E h => ?_) (fun cdv A outer s H vs Q E hr h => ?_)
  · obtain ⟨a, ag, G, h, dx, l, q, g, x, rfl, _⟩ := h
    rfl
  · obtain ⟨a, ag, G, h, dx, l, q, g, i, rfl, hh, wf, hag, hi, hb, _, k⟩ := h
    refine ⟨_, (pss_one (ps_ret (pe_lst (pa_cons (pe_ifExp (pt_val (pe_ix ix_list (pe_call GTruths (hr.mono (by decide)) rfl T.gTruths T.FTruths.kp T.bTruths .nil pass0 (pa_cons (pe_fld (pv 0) rfl) pa_nil)) (pe_ix ix_list (pv 1) pe_int (fun _ _ => rfl)) (fun _ _ => rfl))) pe_int pe_int) pa_nil)))), ?_⟩
    have hi : i < cnt h := hi
    rw [st_true, if_neg (Nat.not_le.mpr hi)] at k
    have k := k h rfl
    have hA := hh.sub _ _ hag
    refine ⟨_, rfl, a, T.cHouse, dx, _, _, rfl, hh.obj, T.clHouse, T.nHouse_nodes, hF_nodes, l, h.desk, rfl, hh.treeAt, wf.tree, fun H1 p s1 hp hp1 => ?_⟩
    refine ⟨_, rfl, ag, _, _, _, rfl, rfl, SqL.of (s1 _ _ hA), atI_nat (j := 0) (v := V.int (i : Int)) rfl, p, _, _, _, rfl, rfl, SqL.of hp1, atI_nat (v := V.bl (isTrue h.desk.tree i)) (by rw [List.getElem?_map, trL_get hi]; rfl), _, rfl, ?_⟩
    cases e : isTrue h.desk.tree i with
    | true =>
      rw [e] at k
      exact iteT ⟨(by show 1 ≤ sizeLine; decide), fun r hr => k.new (Same.refl _) (hh.same s1) hr⟩
    | false =>
      rw [e] at k
      exact iteF ⟨(by show 1 ≤ sizeLine; decide), fun r hr => k.new (Same.refl _) (hh.same s1) hr⟩
theorem ok_TellRight (T : Tx K mg) (t0 : Addr) : FnOk P w K mg base CX0 5 T.fTellRight T.dTellRight ["house", "args"] (sp1 (T.c t0) .right) := by
  have GFraction := ok_Fraction (P := P) (w := w) (base := base) T
  have GRightOf := ok_RightOf (P := P) (w := w) (base := base) T
  refine T.FTellRight.ok scTellRight (fun vs H Q E h => ?_) (fun cdv A outer s H vs Q E hr h => ?_)
  · obtain ⟨a, ag, G, h, dx, l, q, g, x, rfl, _⟩ := h
    rfl
  · obtain ⟨a, ag, G, h, dx, l, q, g, i, rfl, hh, wf, hag, hi, hb, _, k⟩ := h
    refine ⟨_, (pss_one (ps_ret (pe_op op_cat (pe_lst (pa_cons pe_int pa_nil)) (pe_call GFraction (hr.mono (by decide)) rfl T.gFraction T.FFraction.kp T.bFraction .nil pass0 (pa_cons (pe_call GRightOf (hr.mono (by decide)) rfl T.gRightOf T.FRightOf.kp T.bRightOf .nil pass0 (pa_cons (pe_fld (pv 0) rfl) (pa_cons (pe_ix ix_list (pv 1) pe_int (fun _ _ => rfl)) pa_nil))) (pa_cons (pe_glob (v := V.int (1000000)) rfl T.gWHOLE ⟨_, rfl⟩) pa_nil)))))), ?_⟩
    have hi : i < cnt h := hi
    rw [st_right, if_neg (Nat.not_le.mpr hi)] at k
    have k := k h rfl
    have hA := hh.sub _ _ hag
    refine ⟨(by show 1 ≤ sizeLine; decide), fun r hr => ?_⟩
    have sr : Same H (upd H r (.lst [.int 0])) := Same.new hr
    have hh1 := hh.same sr
    refine ⟨_, rfl, a, T.cHouse, dx, _, _, rfl, hh1.obj, T.clHouse, T.nHouse_nodes, hF_nodes, _, rfl, ag, _, _, _, rfl, rfl, SqL.of (sr _ _ hA), atI_nat (j := 0) (v := V.int (i : Int)) rfl, l, h.desk, i, rfl, hh1.treeAt, wf.tree, hi, fun H2 s2 => ?_⟩
    show spFraction [V.int (rI h.desk h.desk.thrice i), V.int 1000000] H2 (fun y H2 => rCat (V.ref r) y H2 Q) E0
    refine frac_use (rI_bounds wf.tree _ _).1 fun r1 hr1 => ?_
    have s3 : Same H2 (upd H2 r1 (.lst ((frL (rI h.desk h.desk.thrice i)).map V.int))) := Same.new hr1
    refine ⟨r, r1, _, _, rfl, rfl, s3 _ _ (s2 _ _ upd_same), upd_same, (by show 3 ≤ sizeLine; decide), fun r2 hr2 => ?_⟩
    exact k.new (Same.refl _) (hh1.same (s2.trans s3)) hr2
theorem ok_TellEnd (T : Tx K mg) (t0 : Addr) : FnOk P w K mg base CX0 5 T.fTellEnd T.dTellEnd ["house", "args"] (sp1 (T.c t0) .ends) := by
  have GEndOf := ok_EndOf (P := P) (w := w) (base := base) T
  refine T.FTellEnd.ok scTellEnd (fun vs H Q E h => ?_) (fun cdv A outer s H vs Q E hr h => ?_)
  · obtain ⟨a, ag, G, h, dx, l, q, g, x, rfl, _⟩ := h
    rfl
  · obtain ⟨a, ag, G, h, dx, l, q, g, i, rfl, hh, wf, hag, hi, hb, _, k⟩ := h
    refine ⟨_, (pss_one (ps_ret (pe_lst (pa_cons (pe_call GEndOf (hr.mono (by decide)) rfl T.gEndOf T.FEndOf.kp T.bEndOf .nil pass0 (pa_cons (pe_fld (pv 0) rfl) (pa_cons (pe_ix ix_list (pv 1) pe_int (fun _ _ => rfl)) pa_nil))) pa_nil)))), ?_⟩
    have hi : i < cnt h := hi
    rw [st_ends, if_neg (Nat.not_le.mpr hi)] at k
    have k := k h rfl
    have hA := hh.sub _ _ hag
    refine ⟨_, rfl, a, T.cHouse, dx, _, _, rfl, hh.obj, T.clHouse, T.nHouse_nodes, hF_nodes, _, rfl, ag, _, _, _, rfl, rfl, SqL.of hA, atI_nat (j := 0) (v := V.int (i : Int)) rfl, l, h.desk, i, rfl, hh.treeAt, wf.tree, hi, fun H2 s2 => ?_⟩
    exact ⟨(by show 1 ≤ sizeLine; decide), fun r hr => k.new (Same.refl _) (hh.same s2) hr⟩
theorem ok_TellTightest (T : Tx K mg) (t0 : Addr) : FnOk P w K mg base CX0 5 T.fTellTightest T.dTellTightest ["house", "args"] (sp1 (T.c t0) .tightest) := by
  have GRightOf := ok_RightOf (P := P) (w := w) (base := base) T
  refine T.FTellTightest.ok scTellTightest (fun vs H Q E h => ?_) (fun cdv A outer s H vs Q E hr h => ?_)
  · obtain ⟨a, ag, G, h, dx, l, q, g, x, rfl, _⟩ := h
    rfl
  · obtain ⟨a, ag, G, h, dx, l, q, g, i, rfl, hh, wf, hag, hi, hb, _, k⟩ := h
    refine ⟨_, (pss_one (ps_ret (pe_lst (pa_cons (pe_op op_fdivN (pe_call GRightOf (hr.mono (by decide)) rfl T.gRightOf T.FRightOf.kp T.bRightOf .nil pass0 (pa_cons (pe_fld (pv 0) rfl) (pa_cons (pe_ix ix_list (pv 1) pe_int (fun _ _ => rfl)) pa_nil))) (pe_glob (v := V.int (10000)) rfl T.gHUNDREDTH ⟨_, rfl⟩)) pa_nil)))), ?_⟩
    have hi : i < cnt h := hi
    rw [st_tightest, if_neg (Nat.not_le.mpr hi), floor_div] at k
    have k := k h rfl
    have hA := hh.sub _ _ hag
    refine ⟨_, rfl, a, T.cHouse, dx, _, _, rfl, hh.obj, T.clHouse, T.nHouse_nodes, hF_nodes, _, rfl, ag, _, _, _, rfl, rfl, SqL.of hA, atI_nat (j := 0) (v := V.int (i : Int)) rfl, l, h.desk, i, rfl, hh.treeAt, wf.tree, hi, fun H2 s2 => ?_⟩
    exact ⟨_, _, rfl, rfl, ⟨by decide, by decide⟩, (by show 1 ≤ sizeLine; decide), fun r hr => k.new (Same.refl _) (hh.same s2) hr⟩
end
end Sg

namespace Sg
open PySem PySem.Spec PyProof.Rows L2
open Kp365 (nodeAt isTrue)
open Kp367 (House Heard)
def refuse (d : Kp366.Desk) (t : Nat) (cs : List Nat) : V := if Kp366.okClaims d cs = false ∨ 100 < t then .int (-22) else if 10 < (Kp366.allLeaves d cs).length then .int (-28) else .non
def spRefusal (C : Addr) : Sp := fun vs H Q _ => ∃ (l ag : Addr) (d : Kp366.Desk) (t : Nat) (cs : List Nat), vs = [.ref l, .ref ag] ∧ TreeAt C H l d ∧ WFT d.tree ∧ H ag = some (.lst (natL (t :: cs))) ∧ cs.length ≤ 1000 ∧
  ∀ H', Same H H' → Q (refuse d t cs) H'
def spCheap (c : Cl) : Sp := spH (α := Nat × List Nat) c (fun x => x.1 :: x.2) (fun x => .cheapest x.1 x.2) (fun _ _ => True)
def spBuy (c : Cl) : Sp := spH (α := Nat × List Nat) c (fun x => x.1 :: x.2) (fun x => .buy x.1 x.2) (fun _ _ => True)
theorem claims_in {d : Kp366.Desk} {cs : List Nat} (h : Kp366.okClaims d cs = true) : ∀ c ∈ cs, c < d.tree.nodes.length := fun c hc => by
  unfold Kp366.okClaims at h
  rw [Bool.and_eq_true] at h
  exact of_decide_eq_true (List.all_eq_true.mp h.2 c hc)
section
variable {P : Program} {w : World} {K : PySem.W.Frag} {mg : Str → Option Value} {base : Heap}
theorem ok_RefusalOfClaims (T : Tx K mg) : FnOk P w K mg base CX0 2 T.fRefusalOfClaims T.dRefusalOfClaims ["nodes", "args"] (spRefusal T.cNode) := by
  have GAreNodes := ok_AreNodes (P := P) (w := w) (base := base) T
  have GLeavesOf := ok_LeavesOf (P := P) (w := w) (base := base) T
  refine T.FRefusalOfClaims.ok scRefusalOfClaims (fun vs H Q E h => ?_) (fun cdv A outer s H vs Q E hr h => ?_)
  · obtain ⟨l, ag, d, t, cs, rfl, _⟩ := h
    rfl
  · obtain ⟨l, ag, d, t, cs, rfl, hT, wf, hA, hcs, k⟩ := h
    refine ⟨_, (pss_cons (ps_if (PW.pt (pw_or (pt_cmpR op_gt (pe_ix ix_list (pv 1) pe_int (fun _ _ => rfl)) (pe_glob (v := V.int (100)) rfl T.gMOST_HUNDREDTHS ⟨_, rfl⟩) (nomark _)) (pw_or1 (pt_not (pt_val (pe_call GAreNodes (hr.mono (by decide)) rfl T.gAreNodes T.FAreNodes.kp T.bAreNodes .nil pass0 (pa_cons (pv 0) (pa_cons (pe_slice sl_list (pv 1) (po_some pe_int) po_none) pa_nil)))))))) (pss_one (ps_ret (pe_glob (v := V.int (-22)) rfl T.gNOT_AS_TOLD ⟨_, rfl⟩)))
      pss_nil)
      (pss_cons (ps_if (pt_cmpR op_gt (pe_callB call_len_seq (by rfl) T.b_len (by decide +kernel) (pa_cons (pe_call GLeavesOf (hr.mono (by decide)) rfl T.gLeavesOf T.FLeavesOf.kp T.bLeavesOf .nil pass0 (pa_cons (pv 0) (pa_cons (pe_slice sl_list (pv 1) (po_some pe_int) po_none) pa_nil))) pa_nil)) (pe_glob (v := V.int (10)) rfl T.gMOST_LEAVES ⟨_, rfl⟩) (nomark _)) (pss_one (ps_ret (pe_glob (v := V.int (-28)) rfl T.gFULL ⟨_, rfl⟩)))
      pss_nil)
      (pss_one (ps_ret pe_non)))), ?_⟩
    unfold refuse at k
    refine ⟨_, rfl, ag, _, _, _, rfl, rfl, SqL.of hA, atI_nat (j := 0) (v := V.int (t : Int)) rfl, _, _, rfl, rfl, _, rfl, ?_⟩
    refine ite2 (fun e => ?_) (fun e => ?_)
    · rw [if_pos (Or.inr (by simp at e; omega))] at k
      exact iteT (k _ (Same.refl _))
    have e : ¬ 100 < t := by simp at e; omega
    refine ⟨_, rfl, _, rfl, _, rfl, ag, _, rfl, SqL.of hA, fun r hr => ?_⟩
    have ec : cutV (natL (t :: cs)) (some 1) none = natL cs := cut_tail _ _
    rw [ec]
    have sr : Same H (upd H r (.lst (natL cs))) := Same.new hr
    refine ⟨l, r, d, cs, rfl, hT.same sr, SqL.of upd_same, hcs, fun H1 s1 => ⟨_, rfl, ?_⟩⟩
    cases e1 : Kp366.okClaims d cs with
    | false =>
      rw [if_pos (Or.inl e1)] at k
      exact iteT (k _ (sr.trans s1))
    | true =>
      rw [if_neg (by rw [e1]; intro z; rcases z with z | z; cases z; omega)] at k
      refine iteF ?_
      have s01 := sr.trans s1
      refine ⟨_, rfl, _, rfl, _, rfl, ag, _, rfl, SqL.of (s01 _ _ hA), fun r2 hr2 => ?_⟩
      rw [ec]
      have sr2 : Same H1 (upd H1 r2 (.lst (natL cs))) := Same.new hr2
      refine ⟨l, r2, d, cs, rfl, hT.same (s01.trans sr2), wf, SqL.of upd_same, claims_in e1, fun H3 r3 s3 hr3 hr33 => ?_⟩
      refine ⟨r3, _, rfl, .inl (SqL.of hr33), _, _, rfl, rfl, _, rfl, ?_⟩
      have el : (natL (Kp366.allLeaves d cs)).length = (Kp366.allLeaves d cs).length := by unfold natL; rw [List.length_map]
      rw [el]
      have s03 := (s01.trans sr2).trans s3
      refine ite2 (fun e2 => ?_) (fun e2 => ?_)
      · rw [if_pos (by simp at e2; omega)] at k
        exact k _ s03
      · rw [if_neg (by simp at e2; omega)] at k
        exact k _ s03
theorem ok_TellCheapest (T : Tx K mg) (t0 : Addr) : FnOk P w K mg base CX0 5 T.fTellCheapest T.dTellCheapest ["house", "args"] (spCheap (T.c t0)) := by
  have GCheapestSet := ok_CheapestSet (P := P) (w := w) (base := base) T
  have GRefusalOfClaims := ok_RefusalOfClaims (P := P) (w := w) (base := base) T
  refine T.FTellCheapest.ok scTellCheapest (fun vs H Q E h => ?_) (fun cdv A outer s H vs Q E hr h => ?_)
  · obtain ⟨a, ag, G, h, dx, l, q, g, x, rfl, _⟩ := h
    rfl
  · obtain ⟨a, ag, G, h, dx, l, q, g, ⟨t, cs⟩, rfl, hh, wf, hag, _, hb, hlen, k⟩ := h
    refine ⟨_, (pss_cons (ps_set (i := 2) scTellCheapest.nd rfl (Or.inl rfl) (pe_call GRefusalOfClaims (hr.mono (by decide)) rfl T.gRefusalOfClaims T.FRefusalOfClaims.kp T.bRefusalOfClaims .nil pass0 (pa_cons (pe_fld (pv 0) rfl) (pa_cons (pv 1) pa_nil))))
      (pss_cons (ps_if (pt_cmpR op_notN (pv 2) pe_non (nomark _)) (pss_one (ps_ret (pe_lst (pa_cons (pv 2) pa_nil))))
      pss_nil)
      (pss_cons (ps_set (i := 3) scTellCheapest.nd rfl (Or.inl rfl) (pe_call GCheapestSet (hr.mono (by decide)) rfl T.gCheapestSet T.FCheapestSet.kp T.bCheapestSet .nil pass0 (pa_cons (pe_fld (pv 0) rfl) (pa_cons (pe_slice sl_list (pv 1) (po_some pe_int) po_none) (pa_cons (pe_ix ix_list (pv 1) pe_int (fun _ _ => rfl)) pa_nil)))))
      (pss_cons (ps_if (pt_cmpR op_isN (pv 3) pe_non (nomark _)) (pss_one (ps_ret (pe_lst (pa_cons (pe_glob (v := V.int (-33)) rfl T.gNO_FIT ⟨_, rfl⟩) pa_nil))))
      pss_nil)
      (pss_one (ps_ret (pe_callTy call_list_of (by rfl) T.b_list (by decide +kernel) (pa_cons (pv 3) pa_nil)))))))), ?_⟩
    have k : ∀ h', (Kp367.step (some h) (.cheapest t cs)).1 = some h' → Done (T.c t0) G a Q true h' ((Kp367.step (some h) (.cheapest t cs)).2.num :: (Kp367.step (some h) (.cheapest t cs)).2.nums) := k
    rw [st_cheapest] at k
    have k := k h rfl
    have hA := hh.sub _ _ hag
    have hlen : cs.length + 1 ≤ 7 := hlen
    refine ⟨_, rfl, a, T.cHouse, dx, _, _, rfl, hh.obj, T.clHouse, T.nHouse_nodes, hF_nodes, _, rfl, l, ag, h.desk, t, cs, rfl, hh.treeAt, wf.tree, hA, by omega, fun H1 s1 => ?_⟩
    have hh1 := hh.same s1
    dsimp only at k
    by_cases c1 : badClaims h t cs
    · have er : refuse h.desk t cs = .int (-22) := if_pos c1
      rw [if_pos c1] at k
      rw [er]
      refine ⟨_, rfl, rfl, _, rfl, iteT ⟨_, rfl, (by show 1 ≤ sizeLine; decide), fun r hr => ?_⟩⟩
      exact k.new (Same.refl _) hh1 hr
    · rw [if_neg c1] at k
      by_cases c2 : 10 < (Kp366.allLeaves h.desk cs).length
      · have er : refuse h.desk t cs = .int (-28) := (if_neg c1).trans (if_pos c2)
        rw [if_pos c2] at k
        rw [er]
        refine ⟨_, rfl, rfl, _, rfl, iteT ⟨_, rfl, (by show 1 ≤ sizeLine; decide), fun r hr => ?_⟩⟩
        exact k.new (Same.refl _) hh1 hr
      · have er : refuse h.desk t cs = .non := (if_neg c1).trans (if_neg c2)
        rw [if_neg c2] at k
        rw [er]
        refine ⟨_, rfl, rfl, _, rfl, iteF ?_⟩
        have c1' : Kp366.okClaims h.desk cs = true ∧ t ≤ 100 := by
          unfold badClaims at c1
          constructor
          · cases z : Kp366.okClaims h.desk cs with
            | true => rfl
            | false => exact absurd (Or.inl z) c1
          · omega
        refine ⟨_, rfl, a, T.cHouse, dx, _, _, rfl, hh1.obj, T.clHouse, T.nHouse_nodes, hF_nodes, _, rfl, _, rfl, ag, _, rfl, SqL.of (s1 _ _ hA), fun r hr => ?_⟩
        have ec : cutV (natL (t :: cs)) (some 1) none = natL cs := cut_tail _ _
        show tCons _ _ _ (upd H1 r (.lst (cutV (natL (t :: cs)) (some 1) none))) _
        rw [ec]
        have sr : Same H1 (upd H1 r (.lst (natL cs))) := Same.new hr
        have s01 := s1.trans sr
        refine ⟨_, rfl, ag, _, _, _, rfl, rfl, SqL.of (s01 _ _ hA), atI_nat (j := 0) (v := V.int (t : Int)) rfl, ?_⟩
        refine ⟨l, r, h.desk, cs, t, rfl, (hh1.same sr).treeAt, wf.tree, fun p hp => (wf.pr1 p hp).2, SqL.of upd_same, claims_in c1'.1, by omega, by omega, c1'.2, ?_⟩
        cases e : Kp366.cheapest h.desk cs t with
        | none =>
          rw [e] at k
          intro H2 s2
          refine ⟨_, rfl, rfl, _, rfl, iteT ⟨(by show 1 ≤ sizeLine; decide), fun r2 hr2 => ?_⟩⟩
          exact k.new (Same.refl _) (hh.same (s01.trans s2)) hr2
        | some s =>
          rw [e] at k
          intro H2 r2 s2 nr2 hr2
          refine ⟨_, rfl, rfl, _, rfl, iteF ?_⟩
          refine ⟨_, rfl, r2, _, rfl, .inr (SqT.of hr2), fun r3 hr3 => ?_⟩
          exact k.new (Same.refl _) (hh.same (s01.trans s2)) hr3
theorem ok_BuyLooks (T : Tx K mg) (t0 : Addr) : FnOk P w K mg base CX0 7 T.fBuyLooks T.dBuyLooks ["house", "args"] (spBuy (T.c t0)) := by
  have GChange := ok_Change (P := P) (w := w) (base := base) T t0
  have GCopiesReadBy := ok_CopiesReadBy (P := P) (w := w) (base := base) T
  have GReadsOf := ok_ReadsOf (P := P) (w := w) (base := base) T
  have GTellCheapest := ok_TellCheapest (P := P) (w := w) (base := base) T t0
  refine T.FBuyLooks.ok scBuyLooks (fun vs H Q E h => ?_) (fun cdv A outer s H vs Q E hr h => ?_)
  · obtain ⟨a, ag, G, h, dx, l, q, g, x, rfl, _⟩ := h
    rfl
  · obtain ⟨a, ag, G, h, dx, l, q, g, ⟨t, cs⟩, rfl, hh, wf, hag, _, hb, hlen, k⟩ := h
    refine ⟨_, (pss_cons (ps_set (i := 2) scBuyLooks.nd rfl (Or.inl rfl) (pe_call GTellCheapest (hr.mono (by decide)) rfl T.gTellCheapest T.FTellCheapest.kp T.bTellCheapest .nil pass0 (pa_cons (pv 0) (pa_cons (pv 1) pa_nil))))
      (pss_cons (ps_if (pt_cmpR op_lt (pe_ix ix_list (pv 2) pe_int (fun _ _ => rfl)) pe_int (nomark _)) (pss_one (ps_ret (pv 2)))
      pss_nil)
      (pss_cons (ps_set (i := 3) scBuyLooks.nd rfl (Or.inl rfl) (pe_call GCopiesReadBy (hr.mono (by decide)) rfl T.gCopiesReadBy T.FCopiesReadBy.kp T.bCopiesReadBy .nil pass0 (pa_cons (pe_fld (pv 0) rfl) (pa_cons (pe_call GReadsOf (hr.mono (by decide)) rfl T.gReadsOf T.FReadsOf.kp T.bReadsOf .nil pass0 (pa_cons (pe_ix ix_list (pv 2) pe_int (fun _ _ => rfl)) (pa_cons (pe_callB call_len_seq (by rfl) T.b_len (by decide +kernel) (pa_cons (pe_fld (pv 0) rfl) pa_nil)) pa_nil))) pa_nil))))
      (pss_one (ps_ret (pe_call GChange (hr.mono (by decide)) rfl T.gChange T.FChange.kp T.bChange .nil pass0 (pa_cons (pv 0) (pa_cons (pv 3) (pa_cons (pe_ix ix_list (pv 2) pe_int (fun _ _ => rfl)) pa_nil))))))))), ?_⟩
    have k : ∀ h', (Kp367.step (some h) (.buy t cs)).1 = some h' → Done (T.c t0) G a Q true h' ((Kp367.step (some h) (.buy t cs)).2.num :: (Kp367.step (some h) (.buy t cs)).2.nums) := k
    rw [st_buy] at k
    refine ⟨_, rfl, _, rfl, a, ag, G, h, dx, l, q, g, (t, cs), rfl, hh, wf, hag, trivial, hb, hlen, ?_⟩
    rw [st_cheapest]
    intro h' eh G1 H1 p sG hx gp hp
    cases eh
    obtain ⟨dx1, l1, q1, g1, hh1⟩ := hx
    dsimp only at hp
    by_cases c1 : badClaims h t cs
    · rw [if_pos c1] at k hp
      refine ⟨_, rfl, p, _, _, _, rfl, rfl, SqL.of hp, atI_nat (j := 0) (v := V.int (-22)) rfl, _, _, rfl, rfl, _, rfl, ?_⟩
      exact iteT ⟨_, rfl, (k h rfl).old sG hh1 gp hp⟩
    rw [if_neg c1] at k hp
    by_cases c2 : 10 < (Kp366.allLeaves h.desk cs).length
    · rw [if_pos c2] at k hp
      refine ⟨_, rfl, p, _, _, _, rfl, rfl, SqL.of hp, atI_nat (j := 0) (v := V.int (-28)) rfl, _, _, rfl, rfl, _, rfl, ?_⟩
      exact iteT ⟨_, rfl, (k h rfl).old sG hh1 gp hp⟩
    rw [if_neg c2] at k hp
    cases e : Kp366.cheapest h.desk cs t with
    | none =>
      rw [e] at k hp
      refine ⟨_, rfl, p, _, _, _, rfl, rfl, SqL.of hp, atI_nat (j := 0) (v := V.int (-33)) rfl, _, _, rfl, rfl, _, rfl, ?_⟩
      exact iteT ⟨_, rfl, (k h rfl).old sG hh1 gp hp⟩
    | some s =>
      rw [e] at k hp
      refine ⟨_, rfl, p, _, _, _, rfl, rfl, SqL.of hp, atI_nat (j := 0) (v := V.int ((Kp366.costOf h.desk s : Nat) : Int)) rfl, _, _, rfl, rfl, _, rfl, ?_⟩
      refine ite2 (fun z => absurd (of_decide_eq_true z) (by omega)) (fun _ => ?_)
      obtain ⟨xs, hl1, hl2⟩ := hh1.nodesLen
      refine ⟨_, rfl, a, T.cHouse, dx1, _, _, rfl, hh1.obj, T.clHouse, T.nHouse_nodes, hF_nodes, _, rfl, p, _, _, _, rfl, rfl, SqL.of hp, atI_nat (j := 1) (v := V.int (s : Int)) rfl, _, rfl, a, T.cHouse, dx1, _, _, rfl, hh1.obj, T.clHouse, T.nHouse_nodes, hF_nodes, l1, _, rfl, .inl (SqL.of hl1), s, cnt h, ?_, wf.tree.len, fun H2 r s2 hr hr2 => ?_⟩
      · rw [hl2]
        rfl
      have hh2 := hh1.same s2
      refine ⟨l1, r, h.desk, s, rfl, hh2.treeAt, wf.tree.len, hr2, fun H3 p3 s3 ht3 => ?_⟩
      refine ⟨_, rfl, _, rfl, _, rfl, p, _, _, _, rfl, rfl, SqL.of (s3 _ _ (s2 _ _ hp)), atI_nat (j := 0) (v := V.int ((Kp366.costOf h.desk s : Nat) : Int)) rfl, ?_⟩
      exact join hh2 s3 ht3 wf.tree wf (guard_mono (guard_done k) sG)
end
end Sg

namespace Sg
open PySem PySem.Spec PyProof.Rows L2
open Kp365 (nodeAt isTrue)
open Kp367 (House Heard)
/-! ### promises -/
def pd (p : Nat × Nat) : PyData := .tuple [.int (p.1 : Int), .int (p.2 : Int)]
theorem pd_shaped (p : Nat × Nat) : SeqAt.shaped (pd p) = true := by
  unfold SeqAt.shaped pd
  simp [PyData.canLay0, PyData.canLayAll0, PyData.depth, PyData.depthAll]
theorem pds_lay : ∀ ps : List (Nat × Nat), PyData.canLayAll0 (ps.map pd) = true ∧ PyData.depthAll (ps.map pd) ≤ 1
  | [] => ⟨by simp [PyData.canLayAll0], by simp [PyData.depthAll]⟩
  | p :: r => by
    have ih := pds_lay r
    constructor
    · rw [List.map_cons, PyData.canLayAll0, ih.1]
      simp [pd, PyData.canLay0, PyData.canLayAll0]
    · rw [List.map_cons, PyData.depthAll]
      have : PyData.depth (pd p) = 1 := by simp [pd, PyData.depth, PyData.depthAll]
      omega
theorem pds_shaped (ps : List (Nat × Nat)) : SeqAt.shaped (.list (ps.map pd)) = true := by
  unfold SeqAt.shaped
  have h := pds_lay ps
  rw [PyData.canLay0, h.1, PyData.depth]
  exact decide_eq_true (by omega)
theorem pd_eqv (p q : Nat × Nat) : PyData.eqv (pd p) (pd q) = decide (p = q) := by
  unfold pd
  simp [PyData.eqv, PyData.eqvAll]
  rw [Bool.eq_iff_iff, Bool.and_eq_true, beq_iff_eq, beq_iff_eq, decide_eq_true_eq, Prod.ext_iff]
  omega
theorem pds_in (ps : List (Nat × Nat)) (p : Nat × Nat) : ((ps.map pd).any fun z => PyData.eqv z (pd p)) = ps.contains p := by
  induction ps with
  | nil => rfl
  | cons x r ih =>
    rw [List.map_cons, List.any_cons, ih, pd_eqv, List.contains_cons]
    congr 1
    rw [Bool.eq_iff_iff, decide_eq_true_eq, beq_iff_eq]
    exact ⟨fun z => z.symm, fun z => z.symm⟩
theorem dp_proms {K : PySem.W.Frag} {H : Hp} : ∀ {qs : List Addr} {ps : List (Nat × Nat)}, qs.length = ps.length → (∀ (j : Nat) t p, qs[j]? = some t → ps[j]? = some p → H t = some (.tup [.int (p.1 : Int), .int (p.2 : Int)])) → DpAll K H (qs.map V.ref) (ps.map pd)
  | [], [], _, _ => .nil
  | t :: qs, p :: ps, hl, h => .cons (.tup (SqT.of (h 0 t p rfl rfl)) (.cons (.int _) (.cons (.int _) .nil))) (dp_proms (by simpa using hl) fun j t' p' e1 e2 => h (j + 1) t' p' (by simpa using e1) (by simpa using e2))
  | [], _ :: _, hl, _ => by simp at hl
  | _ :: _, [], hl, _ => by simp at hl
theorem seqIndex_nat {n m : Nat} (h : n < m) : seqIndex? (n : Int) m = some n := by
  unfold seqIndex?
  have h1 : ¬ (n : Int) < 0 := by omega
  simp only [if_neg h1]
  have h2 : (decide ((0 : Int) ≤ (n : Int)) && decide ((n : Int) < (m : Int))) = true := by
    rw [decide_eq_true (by omega), decide_eq_true (by omega)]
    rfl
  rw [if_pos h2]
  rfl
def spPromise (c : Cl) : Sp := spH (α := Nat × Nat) c (fun x => [x.1, x.2]) (fun x => .promise x.1 x.2) (fun h x => x.1 < cnt h)
def sp1any (c : Cl) (call : Nat → Kp367.Call) : Sp := spH (α := Nat) c (fun x => [x]) call (fun _ _ => True)
section
variable {P : Program} {w : World} {K : PySem.W.Frag} {mg : Str → Option Value} {base : Heap}
theorem ok_PutPromise (T : Tx K mg) (t0 : Addr) : FnOk P w K mg base CX0 6 T.fPutPromise T.dPutPromise ["house", "args"] (spPromise (T.c t0)) := by
  have GIsKept := ok_IsKept (P := P) (w := w) (base := base) T
  refine T.FPutPromise.ok scPutPromise (fun vs H Q E h => ?_) (fun cdv A outer s H vs Q E hr h => ?_)
  · obtain ⟨a, ag, G, h, dx, l, q, g, x, rfl, _⟩ := h
    rfl
  · obtain ⟨a, ag, G, h, dx, l, q, g, ⟨i, t⟩, rfl, hh, wf, hag, hi, hb, _, k⟩ := h
    refine ⟨_, (pss_cons (ps_set (i := 2) scPutPromise.nd rfl (Or.inl rfl) (pe_tup (pa_cons (pe_ix ix_list (pv 1) pe_int (fun _ _ => rfl)) (pa_cons (pe_ix ix_list (pv 1) pe_int (fun _ _ => rfl)) pa_nil))))
      (pss_cons (ps_if (pt_cmpR op_gt (pe_ix ix_list (pv 1) pe_int (fun _ _ => rfl)) (pe_glob (v := V.int (100)) rfl T.gMOST_HUNDREDTHS ⟨_, rfl⟩) (nomark _)) (pss_one (ps_ret (pe_lst (pa_cons (pe_glob (v := V.int (-22)) rfl T.gNOT_AS_TOLD ⟨_, rfl⟩) pa_nil))))
      pss_nil)
      (pss_cons (ps_if (pt_cmpR (op_inD (hu65 hr)) (pv 2) (pe_fld (pv 0) rfl) (by with_unfolding_all rfl)) (pss_one (ps_ret (pe_lst (pa_cons (pe_glob (v := V.int (-17)) rfl T.gSO_ALREADY ⟨_, rfl⟩) pa_nil))))
      pss_nil)
      (pss_cons (ps_if (pt_not (pt_val (pe_call GIsKept (hr.mono (by decide)) rfl T.gIsKept T.FIsKept.kp T.bIsKept .nil pass0 (pa_cons (pe_fld (pv 0) rfl) (pa_cons (pe_ix ix_list (pv 1) pe_int (fun _ _ => rfl)) (pa_cons (pe_ix ix_list (pv 1) pe_int (fun _ _ => rfl)) pa_nil)))))) (pss_one (ps_ret (pe_lst (pa_cons (pe_glob (v := V.int (-30)) rfl T.gNOT_KEPT ⟨_, rfl⟩) pa_nil))))
      pss_nil)
      (pss_cons (ps_if (pt_cmpR op_eq (pe_callB call_len_seq (by rfl) T.b_len (by decide +kernel) (pa_cons (pe_fld (pv 0) rfl) pa_nil)) (pe_glob (v := V.int (4)) rfl T.gMOST_PROMISES ⟨_, rfl⟩) (nomark _)) (pss_one (ps_ret (pe_lst (pa_cons (pe_glob (v := V.int (-28)) rfl T.gFULL ⟨_, rfl⟩) pa_nil))))
      pss_nil)
      (pss_cons (ps_expr (pe_bm PySem.F.plainAttrs_list PySem.F.slot_list_append PySem.F.type_list_append mt_append (pe_fld (pv 0) rfl) (pa_cons (pv 2) pa_nil)))
      (pss_one (ps_ret (pe_lst (pa_cons (pe_op op_sub (pe_callB call_len_seq (by rfl) T.b_len (by decide +kernel) (pa_cons (pe_fld (pv 0) rfl) pa_nil)) pe_int) pa_nil)))))))))), ?_⟩
    have hi : i < cnt h := hi
    have hb32 : t < 4294967296 := hb t (by show t ∈ [i, t]; simp)
    have k : ∀ h', (Kp367.step (some h) (.promise i t)).1 = some h' → Done (T.c t0) G a Q true h' ((Kp367.step (some h) (.promise i t)).2.num :: (Kp367.step (some h) (.promise i t)).2.nums) := k
    rw [st_promise, if_neg (Nat.not_le.mpr hi)] at k
    have hA := hh.sub _ _ hag
    refine ⟨_, rfl, ag, _, _, _, rfl, rfl, SqL.of hA, atI_nat (j := 0) (v := V.int (i : Int)) rfl, _, rfl, ag, _, _, _, rfl, rfl, SqL.of hA, atI_nat (j := 1) (v := V.int (t : Int)) rfl, (by show 2 ≤ sizeLine; decide), fun tp htp => ?_⟩
    have s1 : Same H (upd H tp (.tup [.int (i : Int), .int (t : Int)])) := Same.new htp
    have htp1 : (upd H tp (.tup [.int (i : Int), .int (t : Int)])) tp = some (.tup [.int (i : Int), .int (t : Int)]) := upd_same
    have eG : Ext G (upd G tp (.tup [.int (i : Int), .int (t : Int)])) H := Ext.put hh.sub htp
    generalize upd H tp (.tup [.int (i : Int), .int (t : Int)]) = H1 at s1 htp1
    have hh1 := hh.move s1 eG (put_sub (hh.sub.trans s1) htp1)
    have hA1 := s1 _ _ hA
    refine ⟨_, rfl, ag, _, _, _, rfl, rfl, SqL.of hA1, atI_nat (j := 1) (v := V.int (t : Int)) rfl, _, _, rfl, rfl, _, rfl, ?_⟩
    refine ite2 (fun e => ?_) (fun e => ?_)
    · rw [if_pos (by simp at e; omega)] at k
      exact ⟨(by show 1 ≤ sizeLine; decide), fun r hr => (k h rfl).new eG.1 hh1 hr⟩
    rw [if_neg (by simp at e; omega)] at k
    obtain ⟨gq, qs, hq1, hq2, hq3⟩ := id hh1.prom
    have hdp : Dp K H1 (.ref q) (.list (h.promises.map pd)) := .lst (SqL.of hq1) (dp_proms hq2 fun j t' p' e1 e2 => hh1.sub _ _ (hq3 j t' p' e1 e2))
    have hdt : Dp K H1 (.ref tp) (pd (i, t)) := .tup (SqT.of htp1) (.cons (.int _) (.cons (.int _) .nil))
    refine ⟨_, rfl, _, rfl, a, T.cHouse, dx, _, _, rfl, hh1.obj, T.clHouse, T.nHouse_promises, hF_promises, _, _, hdt, hdp, pd_shaped _, pds_shaped _, _, rfl, ?_⟩
    rw [pds_in]
    refine ite2 (fun e1 => ?_) (fun e1 => ?_)
    · rw [if_pos e1] at k
      exact ⟨(by show 1 ≤ sizeLine; decide), fun r hr => (k h rfl).new eG.1 hh1 hr⟩
    rw [if_neg e1] at k
    refine ⟨_, rfl, a, T.cHouse, dx, _, _, rfl, hh1.obj, T.clHouse, T.nHouse_nodes, hF_nodes, _, rfl, ag, _, _, _, rfl, rfl, SqL.of hA1, atI_nat (j := 0) (v := V.int (i : Int)) rfl, _, rfl, ag, _, _, _, rfl, rfl, SqL.of hA1, atI_nat (j := 1) (v := V.int (t : Int)) rfl, l, h.desk, i, t, rfl, hh1.treeAt, wf.tree, hb32, fun H2 s2 => ⟨_, rfl, ?_⟩⟩
    have hh2 := hh1.same s2
    have ek : keptD h.desk (i, t) = decide (10000 * (t : Int) ≤ rNow h i) := by
      unfold keptD
      rw [decide_eq_true (show (i, t).1 < h.desk.tree.nodes.length from hi), Bool.true_and]
    rw [ek]
    by_cases e2 : rNow h i < 10000 * (t : Int)
    · rw [if_pos e2] at k
      rw [decide_eq_false (by omega)]
      exact iteT ⟨(by show 1 ≤ sizeLine; decide), fun r hr => (k h rfl).new eG.1 hh2 hr⟩
    rw [if_neg e2] at k
    rw [decide_eq_true (by omega)]
    refine iteF ?_
    have h4 := wf.proms
    have hq12 := s2 _ _ hq1
    refine ⟨_, rfl, a, T.cHouse, dx, _, _, rfl, hh2.obj, T.clHouse, T.nHouse_promises, hF_promises, q, _, rfl, .inl (SqL.of hq12), rfl, _, rfl, ?_⟩
    rw [List.length_map, hq2]
    refine ite2 (fun e3 => ?_) (fun e3 => ?_)
    · rw [if_pos (by have := V.int.inj (of_decide_eq_true e3); omega)] at k
      exact ⟨(by show 1 ≤ sizeLine; decide), fun r hr => (k h rfl).new eG.1 hh2 hr⟩
    have e3 : ¬ 4 ≤ h.promises.length := fun z => e3 (by
      have : h.promises.length = 4 := by omega
      rw [this]
      rfl)
    rw [if_neg e3] at k
    refine ⟨_, rfl, a, T.cHouse, dx, _, _, rfl, hh2.obj, T.clHouse, T.nHouse_promises, hF_promises, .inl ⟨rfl, _, SqL.of hq12⟩, _, rfl, q, _, _, rfl, rfl, hq12, ?_, ?_⟩
    · rw [List.length_map, hq2]
      exact Nat.lt_of_le_of_lt h4 (by decide)
    have hP : PromIn (upd G tp (.tup [.int (i : Int), .int (t : Int)])) (upd H2 q (.lst (qs.map V.ref ++ [V.ref tp]))) q (h.promises ++ [(i, t)]) := by
      refine ⟨gq, qs ++ [tp], by rw [upd_same, List.map_append]; rfl, by rw [List.length_append, List.length_append, hq2]; rfl, fun j u p e1 e2 => ?_⟩
      rcases Nat.lt_or_ge j qs.length with hlt | hge
      · rw [List.getElem?_append_left hlt] at e1
        rw [List.getElem?_append_left (by rw [← hq2]; exact hlt)] at e2
        exact hq3 j u p e1 e2
      · rw [List.getElem?_append_right hge] at e1
        rw [List.getElem?_append_right (by rw [← hq2]; exact hge), ← hq2] at e2
        have hj0 : j - qs.length = 0 := by
          have := lt_of_at e1
          simp at this
          omega
        rw [hj0] at e1 e2
        cases e1
        cases e2
        exact upd_same
    have hh3 := hh2.list (h' := { h with promises := h.promises ++ [(i, t)] }) (xs := qs.map V.ref ++ [V.ref tp]) hq12 gq rfl (hh2.tree.upd hq12 hh.lq) hP (hh2.log.upd hh.qg.symm)
    refine ⟨_, rfl, a, T.cHouse, dx, _, _, rfl, hh3.obj, T.clHouse, T.nHouse_promises, hF_promises, q, _, rfl, .inl (SqL.of upd_same), _, _, rfl, rfl, (by show 1 ≤ sizeLine; decide), fun r hr => ?_⟩
    have e5 : (((qs.map V.ref ++ [V.ref tp]).length : Nat) : Int) - 1 = ((h.promises.length : Nat) : Int) := by
      rw [List.length_append, List.length_map, hq2]
      show ((h.promises.length + 1 : Nat) : Int) - 1 = _
      omega
    have k2 := (k _ rfl).new eG.1 hh3 hr
    rw [show Kp367.say ((h.promises.length : Nat) : Int) = ⟨(((qs.map V.ref ++ [V.ref tp]).length : Nat) : Int) - 1, []⟩ by rw [e5]; rfl] at k2
    exact k2
theorem ok_TakeBackPromise (T : Tx K mg) (t0 : Addr) : FnOk P w K mg base CX0 1 T.fTakeBackPromise T.dTakeBackPromise ["house", "args"] (sp1any (T.c t0) .unpromise) := by
  refine T.FTakeBackPromise.ok scTakeBackPromise (fun vs H Q E h => ?_) (fun cdv A outer s H vs Q E hr h => ?_)
  · obtain ⟨a, ag, G, h, dx, l, q, g, x, rfl, _⟩ := h
    rfl
  · obtain ⟨a, ag, G, h, dx, l, q, g, n, rfl, hh, wf, hag, hi, hb, _, k⟩ := h
    refine ⟨_, (pss_cons (ps_if (pt_cmpR op_ge (pe_ix ix_list (pv 1) pe_int (fun _ _ => rfl)) (pe_callB call_len_seq (by rfl) T.b_len (by decide +kernel) (pa_cons (pe_fld (pv 0) rfl) pa_nil)) (nomark _)) (pss_one (ps_ret (pe_lst (pa_cons (pe_glob (v := V.int (-2)) rfl T.gNO_SUCH ⟨_, rfl⟩) pa_nil))))
      pss_nil)
      (pss_cons (ps_expr (pe_bm PySem.F.plainAttrs_list PySem.F.slot_list_pop PySem.F.type_list_pop mt_popAt (pe_fld (pv 0) rfl) (pa_cons (pe_ix ix_list (pv 1) pe_int (fun _ _ => rfl)) pa_nil)))
      (pss_one (ps_ret (pe_lst (pa_cons (pe_callB call_len_seq (by rfl) T.b_len (by decide +kernel) (pa_cons (pe_fld (pv 0) rfl) pa_nil)) pa_nil)))))), ?_⟩
    rw [st_unpromise] at k
    have hA := hh.sub _ _ hag
    obtain ⟨gq, qs, hq1, hq2, hq3⟩ := id hh.prom
    refine ⟨_, rfl, ag, _, _, _, rfl, rfl, SqL.of hA, atI_nat (j := 0) (v := V.int (n : Int)) rfl, _, rfl, a, T.cHouse, dx, _, _, rfl, hh.obj, T.clHouse, T.nHouse_promises, hF_promises, q, _, rfl, .inl (SqL.of hq1), _, _, rfl, rfl, _, rfl, ?_⟩
    rw [List.length_map, hq2]
    refine ite2 (fun e => ?_) (fun e => ?_)
    · rw [if_pos (by simp at e; omega)] at k
      exact ⟨(by show 1 ≤ sizeLine; decide), fun r hr => (k h rfl).new (Same.refl _) hh hr⟩
    have e : n < h.promises.length := by simp at e; omega
    rw [if_neg (by omega)] at k
    have h4 := wf.proms
    obtain ⟨tq, htq⟩ : ∃ tq, qs[n]? = some tq := ⟨_, List.getElem?_eq_getElem (by omega)⟩
    refine ⟨_, rfl, a, T.cHouse, dx, _, _, rfl, hh.obj, T.clHouse, T.nHouse_promises, hF_promises, .inl ⟨rfl, _, SqL.of hq1⟩, _, rfl, ag, _, _, _, rfl, rfl, SqL.of hA, atI_nat (j := 0) (v := V.int (n : Int)) rfl, q, _, _, n, .ref tq, rfl, rfl, hq1, by omega, by omega, ?_, ?_, ?_⟩
    · rw [List.length_map, hq2]
      exact seqIndex_nat e
    · rw [List.getElem?_map, htq]
      rfl
    have eer : (qs.map V.ref).eraseIdx n = (qs.eraseIdx n).map V.ref := by
      rw [List.eraseIdx_eq_take_drop_succ, List.eraseIdx_eq_take_drop_succ, List.map_append, List.map_take, List.map_drop]
    rw [eer]
    have hP : PromIn G (upd H q (.lst ((qs.eraseIdx n).map V.ref))) q (h.promises.take n ++ h.promises.drop (n + 1)) := by
      rw [take_drop_eraseIdx]
      refine ⟨gq, qs.eraseIdx n, upd_same, ?_, fun j u p e1 e2 => ?_⟩
      · rw [List.length_eraseIdx, List.length_eraseIdx, hq2]
      · rw [List.getElem?_eraseIdx] at e1 e2
        by_cases c : j < n
        · rw [if_pos c] at e1 e2
          exact hq3 _ _ _ e1 e2
        · rw [if_neg c] at e1 e2
          exact hq3 _ _ _ e1 e2
    have hh3 := hh.list (h' := { h with promises := h.promises.take n ++ h.promises.drop (n + 1) }) (xs := (qs.eraseIdx n).map V.ref) hq1 gq rfl (hh.tree.upd hq1 hh.lq) hP (hh.log.upd hh.qg.symm)
    refine ⟨_, rfl, a, T.cHouse, dx, _, _, rfl, hh3.obj, T.clHouse, T.nHouse_promises, hF_promises, q, _, rfl, .inl (SqL.of upd_same), (by show 1 ≤ sizeLine; decide), fun r hr => ?_⟩
    have e5 : ((((qs.eraseIdx n).map V.ref).length : Nat) : Int) = ((h.promises.length - 1 : Nat) : Int) := by
      rw [List.length_map, List.length_eraseIdx, if_pos (by omega), hq2]
    have k2 := (k _ rfl).new (Same.refl _) hh3 hr
    rw [show Kp367.say ((h.promises.length - 1 : Nat) : Int) = ⟨((((qs.eraseIdx n).map V.ref).length : Nat) : Int), []⟩ by rw [e5]; rfl] at k2
    exact k2
theorem ok_TellPromise (T : Tx K mg) (t0 : Addr) : FnOk P w K mg base CX0 1 T.fTellPromise T.dTellPromise ["house", "args"] (sp1any (T.c t0) .promiseIs) := by
  refine T.FTellPromise.ok scTellPromise (fun vs H Q E h => ?_) (fun cdv A outer s H vs Q E hr h => ?_)
  · obtain ⟨a, ag, G, h, dx, l, q, g, x, rfl, _⟩ := h
    rfl
  · obtain ⟨a, ag, G, h, dx, l, q, g, n, rfl, hh, wf, hag, hi, hb, _, k⟩ := h
    refine ⟨_, (pss_cons (ps_if (pt_cmpR op_ge (pe_ix ix_list (pv 1) pe_int (fun _ _ => rfl)) (pe_callB call_len_seq (by rfl) T.b_len (by decide +kernel) (pa_cons (pe_fld (pv 0) rfl) pa_nil)) (nomark _)) (pss_one (ps_ret (pe_lst (pa_cons (pe_glob (v := V.int (-2)) rfl T.gNO_SUCH ⟨_, rfl⟩) pa_nil))))
      pss_nil)
      (pss_one (ps_ret (pe_callTy call_list_of (by rfl) T.b_list (by decide +kernel) (pa_cons (pe_ix ix_list (pe_fld (pv 0) rfl) (pe_ix ix_list (pv 1) pe_int (fun _ _ => rfl)) (fun _ _ => rfl)) pa_nil))))), ?_⟩
    rw [st_promiseIs] at k
    have k := k h rfl
    dsimp only at k
    have hA := hh.sub _ _ hag
    obtain ⟨gq, qs, hq1, hq2, hq3⟩ := id hh.prom
    refine ⟨_, rfl, ag, _, _, _, rfl, rfl, SqL.of hA, atI_nat (j := 0) (v := V.int (n : Int)) rfl, _, rfl, a, T.cHouse, dx, _, _, rfl, hh.obj, T.clHouse, T.nHouse_promises, hF_promises, q, _, rfl, .inl (SqL.of hq1), _, _, rfl, rfl, _, rfl, ?_⟩
    rw [List.length_map, hq2]
    refine ite2 (fun e => ?_) (fun e => ?_)
    · rw [if_pos (by simp at e; omega)] at k
      exact ⟨(by show 1 ≤ sizeLine; decide), fun r hr => k.new (Same.refl _) hh hr⟩
    have e : n < h.promises.length := by simp at e; omega
    rw [if_neg (by omega)] at k
    obtain ⟨tq, htq⟩ : ∃ tq, qs[n]? = some tq := ⟨_, List.getElem?_eq_getElem (by omega)⟩
    have ep : h.promises[n]? = some h.promises[n] := List.getElem?_eq_getElem e
    rw [getD_some ep] at k
    generalize h.promises[n] = p at ep k
    have ht := hh.sub _ _ (hq3 n tq p htq ep)
    refine ⟨_, rfl, a, T.cHouse, dx, _, _, rfl, hh.obj, T.clHouse, T.nHouse_promises, hF_promises, _, rfl, ag, _, _, _, rfl, rfl, SqL.of hA, atI_nat (j := 0) (v := V.int (n : Int)) rfl, q, _, _, _, rfl, rfl, SqL.of hq1, atI_nat (v := V.ref tq) (by rw [List.getElem?_map, htq]; rfl), tq, _, rfl, .inr (SqT.of ht), fun r hr => ?_⟩
    exact k.new (Same.refl _) hh hr
end
end Sg

namespace Sg
open PySem PySem.Spec PyProof.Rows L2
open Kp365 (nodeAt isTrue)
open Kp367 (House Heard)
def spHear (c : Cl) : Sp := spH (α := Nat × Nat × Nat) c (fun x => [x.1, x.2.1, x.2.2]) (fun x => .hear x.1 x.2.1 x.2.2) (fun h x => x.1 < cnt h)
def spIfHear (c : Cl) : Sp := spH (α := Nat × Nat × Nat) c (fun x => [x.1, x.2.1, x.2.2]) (fun x => .ifHear x.1 x.2.1 x.2.2) (fun h x => x.1 < cnt h)
def sp0 (c : Cl) (call : Kp367.Call) : Sp := spH (α := Unit) c (fun _ => []) (fun _ => call) (fun _ _ => True)
def spStakes (c : Cl) : Sp := spH (α := Nat × Nat) c (fun x => [x.1, x.2]) (fun x => .stakes x.1 x.2) (fun h x => x.1 < cnt h)
def spBegin (c : Cl) : Sp := fun vs H Q _ => ∃ (a ag : Addr) (G : Hp) (b : Bool) (h : House) (dx l q g : Addr) (m : Nat), vs = [.ref a, .ref ag] ∧ HouseIs c G H a b h dx l q g ∧ G ag = some (.lst (natL [m])) ∧
  (if 10000 < m then Done c G a Q b h [-22] else Done c G a Q true (fresh m) [0])
theorem LogIn.app {C g : Addr} {G H H' : Hp} {log : List Heard} {x : Addr} {y : Heard} {gs : List Addr} (h : LogIn C G H g log) (hg : H g = some (.lst (gs.map V.ref))) (hx : HeardIs C G x y) (hg' : H' g = some (.lst (gs.map V.ref ++ [V.ref x]))) : LogIn C G H' g (log ++ [y]) := by
  obtain ⟨g0, gs0, h1, h2, h3⟩ := h
  have eas : gs0 = gs := by
    rw [hg] at h1
    have e1 : gs.map V.ref = gs0.map V.ref := HO.lst.inj (Option.some.inj h1)
    have e2 : ∀ l : List Addr, (l.map V.ref).map (fun v => match v with | .ref a => a | _ => 0) = l := fun l => by
      rw [List.map_map]
      conv => rhs; rw [← List.map_id l]
      rfl
    rw [← e2 gs0, ← e1, e2]
  subst eas
  refine ⟨g0, gs0 ++ [x], by rw [hg', List.map_append]; rfl, by rw [List.length_append, List.length_append, h2]; rfl, fun j a z e1 e2 => ?_⟩
  rcases Nat.lt_or_ge j gs0.length with hlt | hge
  · rw [List.getElem?_append_left hlt] at e1
    rw [List.getElem?_append_left (by rw [← h2]; exact hlt)] at e2
    exact h3 j a z e1 e2
  · rw [List.getElem?_append_right hge] at e1
    rw [List.getElem?_append_right (by rw [← h2]; exact hge), ← h2] at e2
    have hj0 : j - gs0.length = 0 := by
      have := lt_of_at e1
      simp at this
      omega
    rw [hj0] at e1 e2
    cases e1
    cases e2
    exact hx
section
variable {P : Program} {w : World} {K : PySem.W.Frag} {mg : Str → Option Value} {base : Heap}
theorem ok_TellHearingAhead (T : Tx K mg) (t0 : Addr) : FnOk P w K mg base CX0 6 T.fTellHearingAhead T.dTellHearingAhead ["house", "args"] (spIfHear (T.c t0)) := by
  have GHoldHearing := ok_HoldHearing (P := P) (w := w) (base := base) T
  have GIsLuck := ok_IsLuck (P := P) (w := w) (base := base) T
  refine T.FTellHearingAhead.ok scTellHearingAhead (fun vs H Q E h => ?_) (fun cdv A outer s H vs Q E hr h => ?_)
  · obtain ⟨a, ag, G, h, dx, l, q, g, x, rfl, _⟩ := h
    rfl
  · obtain ⟨a, ag, G, h, dx, l, q, g, ⟨i, n, m⟩, rfl, hh, wf, hag, hi, hb, _, k⟩ := h
    refine ⟨_, (pss_cons (ps_if (pt_not (pt_val (pe_call GIsLuck (hr.mono (by decide)) rfl T.gIsLuck T.FIsLuck.kp T.bIsLuck .nil pass0 (pa_cons (pe_ix ix_list (pv 1) pe_int (fun _ _ => rfl)) (pa_cons (pe_ix ix_list (pv 1) pe_int (fun _ _ => rfl)) pa_nil))))) (pss_one (ps_ret (pe_lst (pa_cons (pe_glob (v := V.int (-22)) rfl T.gNOT_AS_TOLD ⟨_, rfl⟩) pa_nil))))
      pss_nil)
      (pss_cons (ps_set (i := 2) scTellHearingAhead.nd rfl (Or.inl rfl) (pe_call GHoldHearing (hr.mono (by decide)) rfl T.gHoldHearing T.FHoldHearing.kp T.bHoldHearing .nil pass0 (pa_cons (pe_fld (pv 0) rfl) (pa_cons (pe_ix ix_list (pv 1) pe_int (fun _ _ => rfl)) (pa_cons (pe_ix ix_list (pv 1) pe_int (fun _ _ => rfl)) (pa_cons (pe_ix ix_list (pv 1) pe_int (fun _ _ => rfl)) pa_nil))))))
      (pss_one (ps_ret (pe_lst (pa_cons (pe_fld (pv 2) rfl) (pa_cons (pe_fld (pv 2) rfl) (pa_cons (pe_fld (pv 2) rfl) pa_nil)))))))), ?_⟩
    have hi : i < cnt h := hi
    have k : ∀ h', (Kp367.step (some h) (.ifHear i n m)).1 = some h' → Done (T.c t0) G a Q true h' ((Kp367.step (some h) (.ifHear i n m)).2.num :: (Kp367.step (some h) (.ifHear i n m)).2.nums) := k
    rw [st_ifHear, if_neg (Nat.not_le.mpr hi)] at k
    have k := k h rfl
    dsimp only at k
    have hA := hh.sub _ _ hag
    refine ⟨_, rfl, ag, _, _, _, rfl, rfl, SqL.of hA, atI_nat (j := 1) (v := V.int (n : Int)) rfl, _, rfl, ag, _, _, _, rfl, rfl, SqL.of hA, atI_nat (j := 2) (v := V.int (m : Int)) rfl, n, m, rfl, _, rfl, ?_⟩
    by_cases e : badLuck n m
    · rw [if_pos e] at k
      rw [decide_eq_true e]
      exact iteT ⟨(by show 1 ≤ sizeLine; decide), fun r hr => k.new (Same.refl _) hh hr⟩
    rw [if_neg e] at k
    rw [decide_eq_false e]
    refine iteF ?_
    refine ⟨_, rfl, a, T.cHouse, dx, _, _, rfl, hh.obj, T.clHouse, T.nHouse_nodes, hF_nodes, _, rfl, ag, _, _, _, rfl, rfl, SqL.of hA, atI_nat (j := 0) (v := V.int (i : Int)) rfl, _, rfl, ag, _, _, _, rfl, rfl, SqL.of hA, atI_nat (j := 1) (v := V.int (n : Int)) rfl, _, rfl, ag, _, _, _, rfl, rfl, SqL.of hA, atI_nat (j := 2) (v := V.int (m : Int)) rfl, l, h, i, n, m, rfl, hh.treeAt, wf, hi, e, fun H1 x s1 hx hx1 => ?_⟩
    obtain ⟨dr, hx2⟩ := hx1
    refine ⟨_, rfl, x, T.cHearing, dr, _, _, rfl, hx2, T.clHearing, T.nHearing_held, rF_held, _, rfl, x, T.cHearing, dr, _, _, rfl, hx2, T.clHearing, T.nHearing_leaf, rF_leaf, _, rfl, x, T.cHearing, dr, _, _, rfl, hx2, T.clHearing, T.nHearing_cost, rF_cost, (by show 3 ≤ sizeLine; decide), fun r hr => ?_⟩
    exact k.new (Same.refl _) (hh.same s1) hr
theorem ok_Hear (T : Tx K mg) (t0 : Addr) : FnOk P w K mg base CX0 6 T.fHear T.dHear ["house", "args"] (spHear (T.c t0)) := by
  have GHoldHearing := ok_HoldHearing (P := P) (w := w) (base := base) T
  have GIsLuck := ok_IsLuck (P := P) (w := w) (base := base) T
  refine T.FHear.ok scHear (fun vs H Q E h => ?_) (fun cdv A outer s H vs Q E hr h => ?_)
  · obtain ⟨a, ag, G, h, dx, l, q, g, x, rfl, _⟩ := h
    rfl
  · obtain ⟨a, ag, G, h, dx, l, q, g, ⟨i, n, m⟩, rfl, hh, wf, hag, hi, hb, _, k⟩ := h
    refine ⟨_, (pss_cons (ps_if (pt_not (pt_val (pe_call GIsLuck (hr.mono (by decide)) rfl T.gIsLuck T.FIsLuck.kp T.bIsLuck .nil pass0 (pa_cons (pe_ix ix_list (pv 1) pe_int (fun _ _ => rfl)) (pa_cons (pe_ix ix_list (pv 1) pe_int (fun _ _ => rfl)) pa_nil))))) (pss_one (ps_ret (pe_lst (pa_cons (pe_glob (v := V.int (-22)) rfl T.gNOT_AS_TOLD ⟨_, rfl⟩) pa_nil))))
      pss_nil)
      (pss_cons (ps_if (pt_cmpR op_eq (pe_callB call_len_seq (by rfl) T.b_len (by decide +kernel) (pa_cons (pe_fld (pv 0) rfl) pa_nil)) (pe_glob (v := V.int (20)) rfl T.gMOST_HEARINGS ⟨_, rfl⟩) (nomark _)) (pss_one (ps_ret (pe_lst (pa_cons (pe_glob (v := V.int (-28)) rfl T.gFULL ⟨_, rfl⟩) pa_nil))))
      pss_nil)
      (pss_cons (ps_set (i := 2) scHear.nd rfl (Or.inl rfl) (pe_call GHoldHearing (hr.mono (by decide)) rfl T.gHoldHearing T.FHoldHearing.kp T.bHoldHearing .nil pass0 (pa_cons (pe_fld (pv 0) rfl) (pa_cons (pe_ix ix_list (pv 1) pe_int (fun _ _ => rfl)) (pa_cons (pe_ix ix_list (pv 1) pe_int (fun _ _ => rfl)) (pa_cons (pe_ix ix_list (pv 1) pe_int (fun _ _ => rfl)) pa_nil))))))
      (pss_cons (ps_if (pt_cmpR op_lt (pe_fld (pv 0) rfl) (pe_fld (pv 2) rfl) (nomark _)) (pss_one (ps_ret (pe_lst (pa_cons (pe_glob (v := V.int (-19)) rfl T.gTOO_LITTLE ⟨_, rfl⟩) pa_nil))))
      pss_nil)
      (pss_cons (ps_fld (pv 0) (pe_op op_sub (pe_fld (pv 0) rfl) (pe_fld (pv 2) rfl)) rfl)
      (pss_cons (ps_expr (pe_bm PySem.F.plainAttrs_list PySem.F.slot_list_append PySem.F.type_list_append mt_append (pe_fld (pv 0) rfl) (pa_cons (pv 2) pa_nil)))
      (pss_one (ps_ret (pe_lst (pa_cons (pe_fld (pv 2) rfl) (pa_cons (pe_fld (pv 2) rfl) (pa_cons (pe_fld (pv 2) rfl) pa_nil)))))))))))), ?_⟩
    have hi : i < cnt h := hi
    have k : ∀ h', (Kp367.step (some h) (.hear i n m)).1 = some h' → Done (T.c t0) G a Q true h' ((Kp367.step (some h) (.hear i n m)).2.num :: (Kp367.step (some h) (.hear i n m)).2.nums) := k
    rw [st_hear, if_neg (Nat.not_le.mpr hi)] at k
    have hA := hh.sub _ _ hag
    have h20 := wf.log
    refine ⟨_, rfl, ag, _, _, _, rfl, rfl, SqL.of hA, atI_nat (j := 1) (v := V.int (n : Int)) rfl, _, rfl, ag, _, _, _, rfl, rfl, SqL.of hA, atI_nat (j := 2) (v := V.int (m : Int)) rfl, n, m, rfl, _, rfl, ?_⟩
    by_cases e : badLuck n m
    · rw [if_pos e] at k
      rw [decide_eq_true e]
      exact iteT ⟨(by show 1 ≤ sizeLine; decide), fun r hr => (k h rfl).new (Same.refl _) hh hr⟩
    rw [if_neg e] at k
    rw [decide_eq_false e]
    refine iteF ?_
    obtain ⟨gg, gs, hg1, hg2, hg3⟩ := id hh.log
    refine ⟨_, rfl, a, T.cHouse, dx, _, _, rfl, hh.obj, T.clHouse, T.nHouse_log, hF_log, g, _, rfl, .inl (SqL.of hg1), rfl, _, rfl, ?_⟩
    rw [List.length_map, hg2]
    refine ite2 (fun e1 => ?_) (fun e1 => ?_)
    · rw [if_pos (by have := V.int.inj (of_decide_eq_true e1); omega)] at k
      exact ⟨(by show 1 ≤ sizeLine; decide), fun r hr => (k h rfl).new (Same.refl _) hh hr⟩
    have e1 : ¬ 20 ≤ h.log.length := fun z => e1 (by
      have : h.log.length = 20 := by omega
      rw [this]
      rfl)
    rw [if_neg e1] at k
    refine ⟨_, rfl, a, T.cHouse, dx, _, _, rfl, hh.obj, T.clHouse, T.nHouse_nodes, hF_nodes, _, rfl, ag, _, _, _, rfl, rfl, SqL.of hA, atI_nat (j := 0) (v := V.int (i : Int)) rfl, _, rfl, ag, _, _, _, rfl, rfl, SqL.of hA, atI_nat (j := 1) (v := V.int (n : Int)) rfl, _, rfl, ag, _, _, _, rfl, rfl, SqL.of hA, atI_nat (j := 2) (v := V.int (m : Int)) rfl, l, h, i, n, m, rfl, hh.treeAt, wf, hi, e, fun H1 x s1 hx hx1 => ?_⟩
    obtain ⟨dr, hx2⟩ := hx1
    have eG : Ext G (upd G x (.ins T.cHearing dr (rF (heardI h i n m)))) H := Ext.put hh.sub hx
    have hh1 := hh.move s1 eG (put_sub (hh.sub.trans s1) hx2)
    have gx1 : (upd G x (.ins T.cHearing dr (rF (heardI h i n m)))) x = some (.ins T.cHearing dr (rF (heardI h i n m))) := upd_same
    generalize heardI h i n m = y at *
    refine ⟨_, rfl, a, T.cHouse, dx, _, _, rfl, hh1.obj, T.clHouse, T.nHouse_purse, hF_purse, _, rfl, x, T.cHearing, dr, _, _, rfl, hx2, T.clHearing, T.nHearing_cost, rF_cost, _, _, rfl, rfl, _, rfl, ?_⟩
    refine ite2 (fun e2 => ?_) (fun e2 => ?_)
    · rw [if_pos (by simp at e2; omega)] at k
      exact ⟨(by show 1 ≤ sizeLine; decide), fun r hr => (k h rfl).new eG.1 hh1 hr⟩
    have e2 : ¬ h.purse < y.cost := by simp at e2; omega
    rw [if_neg e2] at k
    refine ⟨_, rfl, a, T.cHouse, dx, _, _, rfl, hh1.obj, T.clHouse, T.nHouse_purse, hF_purse, _, rfl, x, T.cHearing, dr, _, _, rfl, hx2, T.clHearing, T.nHearing_cost, rF_cost, _, _, rfl, rfl, _, rfl, a, T.cHouse, dx, _, rfl, hh1.obj, T.clHouse, T.nHouse_purse, hF_few, ?_⟩
    have ep : putF "purse" (.int ((h.purse : Int) - (y.cost : Int))) (hF true h.purse l q g) = hF true (h.purse - y.cost) l q g := by
      rw [show (h.purse : Int) - (y.cost : Int) = ((h.purse - y.cost : Nat) : Int) by omega, hF_putPurse]
    show tSeq _ _ _ _ (upd H1 a (.ins T.cHouse dx (putF "purse" (.int ((h.purse : Int) - (y.cost : Int))) (hF true h.purse l q g))))
    rw [ep]
    have hh2 := hh1.put (b' := true) (h' := { h with purse := h.purse - y.cost }) hh1.tree hh1.prom hh1.log hh.lq hh.lg hh.qg
    have hx3 := hh2.sub _ _ gx1
    have hg12 : (upd H1 a (.ins (T.c t0).H dx (hF true (h.purse - y.cost) l q g))) g = some (.lst (gs.map V.ref)) := by
      rw [upd_ne (ne_of (s1 _ _ hg1) hh1.obj (by intro z; cases z))]
      exact s1 _ _ hg1
    refine ⟨_, rfl, a, T.cHouse, dx, _, _, rfl, hh2.obj, T.clHouse, T.nHouse_log, hF_log, .inl ⟨rfl, _, SqL.of hg12⟩, _, rfl, g, _, _, rfl, rfl, hg12, ?_, ?_⟩
    · rw [List.length_map, hg2]
      exact Nat.lt_of_le_of_lt h20 (by decide)
    have hL : LogIn T.cHearing (upd G x (.ins T.cHearing dr (rF y))) (upd (upd H1 a (.ins (T.c t0).H dx (hF true (h.purse - y.cost) l q g))) g (.lst (gs.map V.ref ++ [V.ref x]))) g (h.log ++ [y]) := hh2.log.app hg12 ⟨dr, gx1⟩ upd_same
    have hh3 := hh2.list (h' := { h with purse := h.purse - y.cost, log := h.log ++ [y] }) (xs := gs.map V.ref ++ [V.ref x]) hg12 hh2.log.1 rfl (hh2.tree.upd hg12 hh.lg) (hh2.prom.upd hh.qg) hL
    have hx4 := hh3.sub _ _ gx1
    refine ⟨_, rfl, x, T.cHearing, dr, _, _, rfl, hx4, T.clHearing, T.nHearing_held, rF_held, _, rfl, x, T.cHearing, dr, _, _, rfl, hx4, T.clHearing, T.nHearing_leaf, rF_leaf, _, rfl, x, T.cHearing, dr, _, _, rfl, hx4, T.clHearing, T.nHearing_cost, rF_cost, (by show 3 ≤ sizeLine; decide), fun r hr => ?_⟩
    exact (k _ rfl).new eG.1 hh3 hr
end
end Sg

namespace Sg
open PySem PySem.Spec PyProof.Rows L2
open Kp365 (nodeAt isTrue)
open Kp367 (House Heard)
theorem sum_nonneg : ∀ (l : List Int), (∀ x ∈ l, 0 ≤ x) → 0 ≤ l.sum
  | [], _ => Int.le_refl _
  | x :: r, h => by
    rw [List.sum_cons]
    have h1 := h x (by simp)
    have h2 := sum_nonneg r fun y hy => h y (by simp [hy])
    omega
section
variable {P : Program} {w : World} {K : PySem.W.Frag} {mg : Str → Option Value} {base : Heap}
theorem ok_TellEntry (T : Tx K mg) (t0 : Addr) : FnOk P w K mg base CX0 2 T.fTellEntry T.dTellEntry ["house", "args"] (sp1any (T.c t0) .entry) := by
  have GFraction := ok_Fraction (P := P) (w := w) (base := base) T
  refine T.FTellEntry.ok scTellEntry (fun vs H Q E h => ?_) (fun cdv A outer s H vs Q E hr h => ?_)
  · obtain ⟨a, ag, G, h, dx, l, q, g, x, rfl, _⟩ := h
    rfl
  · obtain ⟨a, ag, G, h, dx, l, q, g, n, rfl, hh, wf, hag, hi, hb, _, k⟩ := h
    refine ⟨_, (pss_cons (ps_if (pt_cmpR op_ge (pe_ix ix_list (pv 1) pe_int (fun _ _ => rfl)) (pe_callB call_len_seq (by rfl) T.b_len (by decide +kernel) (pa_cons (pe_fld (pv 0) rfl) pa_nil)) (nomark _)) (pss_one (ps_ret (pe_lst (pa_cons (pe_glob (v := V.int (-2)) rfl T.gNO_SUCH ⟨_, rfl⟩) pa_nil))))
      pss_nil)
      (pss_cons (ps_set (i := 2) scTellEntry.nd rfl (Or.inl rfl) (pe_ix ix_list (pe_fld (pv 0) rfl) (pe_ix ix_list (pv 1) pe_int (fun _ _ => rfl)) (fun _ _ => rfl)))
      (pss_one (ps_ret (pe_op op_cat (pe_lst (pa_cons (pe_fld (pv 2) rfl) (pa_cons (pe_fld (pv 2) rfl) (pa_cons (pe_fld (pv 2) rfl) (pa_cons (pe_fld (pv 2) rfl) pa_nil))))) (pe_call GFraction (hr.mono (by decide)) rfl T.gFraction T.FFraction.kp T.bFraction .nil pass0 (pa_cons (pe_fld (pv 2) rfl) (pa_cons (pe_glob (v := V.int (1000000)) rfl T.gWHOLE ⟨_, rfl⟩) pa_nil)))))))), ?_⟩
    rw [st_entry] at k
    have k := k h rfl
    dsimp only at k
    have hA := hh.sub _ _ hag
    obtain ⟨gg, gs, hg1, hg2, hg3⟩ := id hh.log
    refine ⟨_, rfl, ag, _, _, _, rfl, rfl, SqL.of hA, atI_nat (j := 0) (v := V.int (n : Int)) rfl, _, rfl, a, T.cHouse, dx, _, _, rfl, hh.obj, T.clHouse, T.nHouse_log, hF_log, g, _, rfl, .inl (SqL.of hg1), _, _, rfl, rfl, _, rfl, ?_⟩
    rw [List.length_map, hg2]
    refine ite2 (fun e => ?_) (fun e => ?_)
    · rw [if_pos (by simp at e; omega)] at k
      exact ⟨(by show 1 ≤ sizeLine; decide), fun r hr => k.new (Same.refl _) hh hr⟩
    have e : n < h.log.length := by simp at e; omega
    rw [if_neg (by omega)] at k
    obtain ⟨x, hx⟩ : ∃ x, gs[n]? = some x := ⟨_, List.getElem?_eq_getElem (by omega)⟩
    have ey : h.log[n]? = some h.log[n] := List.getElem?_eq_getElem e
    rw [getD_some ey] at k
    have hm := List.mem_of_getElem? ey
    generalize h.log[n] = y at ey k hm
    obtain ⟨dr, hx1⟩ := (hg3 n x y hx ey).same hh.sub
    obtain ⟨hz, hz0, hz1⟩ := wf.zs hm
    refine ⟨_, rfl, a, T.cHouse, dx, _, _, rfl, hh.obj, T.clHouse, T.nHouse_log, hF_log, _, rfl, ag, _, _, _, rfl, rfl, SqL.of hA, atI_nat (j := 0) (v := V.int (n : Int)) rfl, g, _, _, _, rfl, rfl, SqL.of hg1, atI_nat (v := V.ref x) (by rw [List.getElem?_map, hx]; rfl), ?_⟩
    refine ⟨_, rfl, x, T.cHearing, dr, _, _, rfl, hx1, T.clHearing, T.nHearing_node, rF_node, _, rfl, x, T.cHearing, dr, _, _, rfl, hx1, T.clHearing, T.nHearing_leaf, rF_leaf, _, rfl, x, T.cHearing, dr, _, _, rfl, hx1, T.clHearing, T.nHearing_held, rF_held, _, rfl, x, T.cHearing, dr, _, _, rfl, hx1, T.clHearing, T.nHearing_cost, rF_cost, (by show 4 ≤ sizeLine; decide), fun r hr => ?_⟩
    have sr : Same H (upd H r (.lst [.int (y.node : Int), .int (y.leaf : Int), .int (oneZero y.held), .int (y.cost : Int)])) := Same.new hr
    refine ⟨_, rfl, x, T.cHearing, dr, _, _, rfl, sr _ _ hx1, T.clHearing, T.nHearing_wrong, rF_wrong, ?_⟩
    show spFraction [V.int (zOf y), V.int 1000000] (upd H r (.lst [.int (y.node : Int), .int (y.leaf : Int), .int (oneZero y.held), .int (y.cost : Int)])) (fun y H2 => rCat (V.ref r) y H2 Q) E0
    refine frac_use hz0 fun r1 hr1 => ?_
    have s3 := sr.trans (Same.new (o := .lst ((frL (zOf y)).map V.int)) hr1)
    refine ⟨r, r1, _, _, rfl, rfl, Same.new hr1 _ _ upd_same, upd_same, (by show 6 ≤ sizeLine; decide), fun r2 hr2 => ?_⟩
    rw [hz] at k
    exact k.new (Same.refl _) (hh.same s3) hr2
theorem ok_TellTally (T : Tx K mg) (t0 : Addr) : FnOk P w K mg base CX0 3 T.fTellTally T.dTellTally ["house", "args"] (sp0 (T.c t0) .tally) := by
  have GCostOfHearings := ok_CostOfHearings (P := P) (w := w) (base := base) T
  have GWellHeld := ok_WellHeld (P := P) (w := w) (base := base) T
  refine T.FTellTally.ok scTellTally (fun vs H Q E h => ?_) (fun cdv A outer s H vs Q E hr h => ?_)
  · obtain ⟨a, ag, G, h, dx, l, q, g, x, rfl, _⟩ := h
    rfl
  · obtain ⟨a, ag, G, h, dx, l, q, g, x, rfl, hh, wf, hag, _, hb, _, k⟩ := h
    refine ⟨_, (pss_one (ps_ret (pe_lst (pa_cons (pe_callB call_len_seq (by rfl) T.b_len (by decide +kernel) (pa_cons (pe_fld (pv 0) rfl) pa_nil)) (pa_cons (pe_call GWellHeld (hr.mono (by decide)) rfl T.gWellHeld T.FWellHeld.kp T.bWellHeld .nil pass0 (pa_cons (pe_fld (pv 0) rfl) (pa_cons (pe_fld (pv 0) rfl) pa_nil))) (pa_cons (pe_fld (pv 0) rfl) (pa_cons (pe_call GCostOfHearings (hr.mono (by decide)) rfl T.gCostOfHearings T.FCostOfHearings.kp T.bCostOfHearings .nil pass0 (pa_cons (pe_fld (pv 0) rfl) pa_nil)) pa_nil))))))), ?_⟩
    have k : ∀ h', (Kp367.step (some h) .tally).1 = some h' → Done (T.c t0) G a Q true h' ((Kp367.step (some h) .tally).2.num :: (Kp367.step (some h) .tally).2.nums) := k
    rw [st_tally] at k
    have k := k h rfl
    obtain ⟨gg, gs, hg1, hg2, hg3⟩ := id hh.log
    refine ⟨_, rfl, a, T.cHouse, dx, _, _, rfl, hh.obj, T.clHouse, T.nHouse_log, hF_log, g, _, rfl, .inl (SqL.of hg1), ?_⟩
    refine ⟨_, rfl, a, T.cHouse, dx, _, _, rfl, hh.obj, T.clHouse, T.nHouse_nodes, hF_nodes, _, rfl, a, T.cHouse, dx, _, _, rfl, hh.obj, T.clHouse, T.nHouse_log, hF_log, l, g, h, rfl, hh.treeAt, hh.logAt, wf, fun H1 s1 => ?_⟩
    have hh1 := hh.same s1
    refine ⟨_, rfl, a, T.cHouse, dx, _, _, rfl, hh1.obj, T.clHouse, T.nHouse_purse, hF_purse, ?_⟩
    refine ⟨_, rfl, a, T.cHouse, dx, _, _, rfl, hh1.obj, T.clHouse, T.nHouse_log, hF_log, g, h.log, rfl, hh1.logAt, wf.log, fun H2 s2 => ?_⟩
    refine ⟨(by show 4 ≤ sizeLine; decide), fun r hr => ?_⟩
    rw [List.length_map, hg2]
    exact k.new (Same.refl _) (hh1.same s2) hr
theorem ok_TellOwed (T : Tx K mg) (t0 : Addr) : FnOk P w K mg base CX0 2 T.fTellOwed T.dTellOwed ["house", "args"] (sp0 (T.c t0) .owed) := by
  have GFraction := ok_Fraction (P := P) (w := w) (base := base) T
  have GWrongTogether := ok_WrongTogether (P := P) (w := w) (base := base) T
  refine T.FTellOwed.ok scTellOwed (fun vs H Q E h => ?_) (fun cdv A outer s H vs Q E hr h => ?_)
  · obtain ⟨a, ag, G, h, dx, l, q, g, x, rfl, _⟩ := h
    rfl
  · obtain ⟨a, ag, G, h, dx, l, q, g, x, rfl, hh, wf, hag, _, hb, _, k⟩ := h
    refine ⟨_, (pss_one (ps_ret (pe_op op_cat (pe_lst (pa_cons (pe_callB call_len_seq (by rfl) T.b_len (by decide +kernel) (pa_cons (pe_fld (pv 0) rfl) pa_nil)) pa_nil)) (pe_call GFraction (hr.mono (by decide)) rfl T.gFraction T.FFraction.kp T.bFraction .nil pass0 (pa_cons (pe_call GWrongTogether (hr.mono (by decide)) rfl T.gWrongTogether T.FWrongTogether.kp T.bWrongTogether .nil pass0 (pa_cons (pe_fld (pv 0) rfl) pa_nil)) (pa_cons (pe_glob (v := V.int (1000000)) rfl T.gWHOLE ⟨_, rfl⟩) pa_nil)))))), ?_⟩
    have k : ∀ h', (Kp367.step (some h) .owed).1 = some h' → Done (T.c t0) G a Q true h' ((Kp367.step (some h) .owed).2.num :: (Kp367.step (some h) .owed).2.nums) := k
    have ez : h.log.map (fun x => x.wrong) = (h.log.map zOf).map ml := by
      rw [List.map_map]
      exact List.map_congr_left fun y hy => (wf.zs hy).1
    rw [st_owed h _ ez] at k
    have k := k h rfl
    obtain ⟨gg, gs, hg1, hg2, hg3⟩ := id hh.log
    refine ⟨_, rfl, a, T.cHouse, dx, _, _, rfl, hh.obj, T.clHouse, T.nHouse_log, hF_log, g, _, rfl, .inl (SqL.of hg1), (by show 1 ≤ sizeLine; decide), fun r hr => ?_⟩
    rw [List.length_map, hg2]
    have sr : Same H (upd H r (.lst [.int ((h.log.length : Nat) : Int)])) := Same.new hr
    have hh1 := hh.same sr
    refine ⟨_, rfl, a, T.cHouse, dx, _, _, rfl, hh1.obj, T.clHouse, T.nHouse_log, hF_log, g, h.log, rfl, hh1.logAt, wf.log, fun H2 s2 => ?_⟩
    show spFraction [V.int (h.log.map zOf).sum, V.int 1000000] H2 (fun y H2 => rCat (V.ref r) y H2 Q) E0
    have hs0 : 0 ≤ (h.log.map zOf).sum := sum_nonneg _ fun z hz => by
      obtain ⟨y, hy, rfl⟩ := List.mem_map.mp hz
      exact (wf.zs hy).2.1
    refine frac_use hs0 fun r1 hr1 => ?_
    have s3 : Same H2 (upd H2 r1 (.lst ((frL (h.log.map zOf).sum).map V.int))) := Same.new hr1
    refine ⟨r, r1, _, _, rfl, rfl, s3 _ _ (s2 _ _ upd_same), upd_same, (by show 3 ≤ sizeLine; decide), fun r2 hr2 => ?_⟩
    exact k.new (Same.refl _) (hh1.same (s2.trans s3)) hr2
theorem ok_PayIn (T : Tx K mg) (t0 : Addr) : FnOk P w K mg base CX0 1 T.fPayIn T.dPayIn ["house", "args"] (sp1any (T.c t0) .pay) := by
  refine T.FPayIn.ok scPayIn (fun vs H Q E h => ?_) (fun cdv A outer s H vs Q E hr h => ?_)
  · obtain ⟨a, ag, G, h, dx, l, q, g, x, rfl, _⟩ := h
    rfl
  · obtain ⟨a, ag, G, h, dx, l, q, g, m, rfl, hh, wf, hag, hi, hb, _, k⟩ := h
    refine ⟨_, (pss_cons (ps_if (PW.pt (pw_or (pt_cmpR op_gt (pe_ix ix_list (pv 1) pe_int (fun _ _ => rfl)) (pe_glob (v := V.int (10000)) rfl T.gMOST_AT_ONCE ⟨_, rfl⟩) (nomark _)) (pw_or1 (pt_cmpR op_gt (pe_op op_add (pe_fld (pv 0) rfl) (pe_ix ix_list (pv 1) pe_int (fun _ _ => rfl))) (pe_glob (v := V.int (100000)) rfl T.gMOST_IN_PURSE ⟨_, rfl⟩) (nomark _))))) (pss_one (ps_ret (pe_lst (pa_cons (pe_glob (v := V.int (-22)) rfl T.gNOT_AS_TOLD ⟨_, rfl⟩) pa_nil))))
      pss_nil)
      (pss_cons (ps_fld (pv 0) (pe_op op_add (pe_fld (pv 0) rfl) (pe_ix ix_list (pv 1) pe_int (fun _ _ => rfl))) rfl)
      (pss_one (ps_ret (pe_lst (pa_cons (pe_fld (pv 0) rfl) pa_nil)))))), ?_⟩
    rw [st_pay] at k
    have hA := hh.sub _ _ hag
    refine ⟨_, rfl, ag, _, _, _, rfl, rfl, SqL.of hA, atI_nat (j := 0) (v := V.int (m : Int)) rfl, _, _, rfl, rfl, _, rfl, ?_⟩
    refine ite2 (fun e => ?_) (fun e => ?_)
    · rw [if_pos (Or.inl (by simp at e; omega))] at k
      exact iteT ⟨(by show 1 ≤ sizeLine; decide), fun r hr => (k h rfl).new (Same.refl _) hh hr⟩
    have e : ¬ 10000 < m := by simp at e; omega
    refine ⟨_, rfl, a, T.cHouse, dx, _, _, rfl, hh.obj, T.clHouse, T.nHouse_purse, hF_purse, _, rfl, ag, _, _, _, rfl, rfl, SqL.of hA, atI_nat (j := 0) (v := V.int (m : Int)) rfl, _, _, rfl, rfl, _, _, rfl, rfl, _, rfl, ?_⟩
    refine ite2 (fun e1 => ?_) (fun e1 => ?_)
    · rw [if_pos (Or.inr (by simp at e1; omega))] at k
      exact ⟨(by show 1 ≤ sizeLine; decide), fun r hr => (k h rfl).new (Same.refl _) hh hr⟩
    have e1 : ¬ 100000 < h.purse + m := by simp at e1; omega
    rw [if_neg (by omega)] at k
    refine ⟨_, rfl, a, T.cHouse, dx, _, _, rfl, hh.obj, T.clHouse, T.nHouse_purse, hF_purse, _, rfl, ag, _, _, _, rfl, rfl, SqL.of hA, atI_nat (j := 0) (v := V.int (m : Int)) rfl, _, _, rfl, rfl, _, rfl, a, T.cHouse, dx, _, rfl, hh.obj, T.clHouse, T.nHouse_purse, hF_few, ?_⟩
    have ep : putF "purse" (.int ((h.purse : Int) + (m : Int))) (hF true h.purse l q g) = hF true (h.purse + m) l q g := hF_putPurse (h.purse + m)
    simp only [ep]
    have hh2 := hh.put (b' := true) (h' := { h with purse := h.purse + m }) hh.tree hh.prom hh.log hh.lq hh.lg hh.qg
    refine ⟨_, rfl, a, T.cHouse, dx, _, _, rfl, hh2.obj, T.clHouse, T.nHouse_purse, hF_purse, (by show 1 ≤ sizeLine; decide), fun r hr => ?_⟩
    exact (k _ rfl).new (Same.refl _) hh2 hr
theorem ok_TellStakes (T : Tx K mg) (t0 : Addr) : FnOk P w K mg base CX0 5 T.fTellStakes T.dTellStakes ["house", "args"] (spStakes (T.c t0)) := by
  have GLeastStakes := ok_LeastStakes (P := P) (w := w) (base := base) T
  have GRightOf := ok_RightOf (P := P) (w := w) (base := base) T
  refine T.FTellStakes.ok scTellStakes (fun vs H Q E h => ?_) (fun cdv A outer s H vs Q E hr h => ?_)
  · obtain ⟨a, ag, G, h, dx, l, q, g, x, rfl, _⟩ := h
    rfl
  · obtain ⟨a, ag, G, h, dx, l, q, g, ⟨i, n⟩, rfl, hh, wf, hag, hi, hb, _, k⟩ := h
    refine ⟨_, (pss_cons (ps_if (pt_cmpR op_gt (pe_ix ix_list (pv 1) pe_int (fun _ _ => rfl)) (pe_glob (v := V.int (1000)) rfl T.gMOST_GAIN ⟨_, rfl⟩) (nomark _)) (pss_one (ps_ret (pe_lst (pa_cons (pe_glob (v := V.int (-22)) rfl T.gNOT_AS_TOLD ⟨_, rfl⟩) pa_nil))))
      pss_nil)
      (pss_cons (ps_set (i := 2) scTellStakes.nd rfl (Or.inl rfl) (pe_call GLeastStakes (hr.mono (by decide)) rfl T.gLeastStakes T.FLeastStakes.kp T.bLeastStakes .nil pass0 (pa_cons (pe_call GRightOf (hr.mono (by decide)) rfl T.gRightOf T.FRightOf.kp T.bRightOf .nil pass0 (pa_cons (pe_fld (pv 0) rfl) (pa_cons (pe_ix ix_list (pv 1) pe_int (fun _ _ => rfl)) pa_nil))) (pa_cons (pe_ix ix_list (pv 1) pe_int (fun _ _ => rfl)) pa_nil))))
      (pss_cons (ps_if (pt_cmpR op_isN (pv 2) pe_non (nomark _)) (pss_one (ps_ret (pe_lst (pa_cons (pe_glob (v := V.int (-33)) rfl T.gNO_FIT ⟨_, rfl⟩) pa_nil))))
      pss_nil)
      (pss_one (ps_ret (pe_callTy call_list_of (by rfl) T.b_list (by decide +kernel) (pa_cons (pv 2) pa_nil))))))), ?_⟩
    have hi : i < cnt h := hi
    have k : ∀ h', (Kp367.step (some h) (.stakes i n)).1 = some h' → Done (T.c t0) G a Q true h' ((Kp367.step (some h) (.stakes i n)).2.num :: (Kp367.step (some h) (.stakes i n)).2.nums) := k
    rw [st_stakes, if_neg (Nat.not_le.mpr hi)] at k
    have k := k h rfl
    dsimp only at k
    have hA := hh.sub _ _ hag
    refine ⟨_, rfl, ag, _, _, _, rfl, rfl, SqL.of hA, atI_nat (j := 1) (v := V.int (n : Int)) rfl, _, _, rfl, rfl, _, rfl, ?_⟩
    refine ite2 (fun e => ?_) (fun e => ?_)
    · rw [if_pos (by simp at e; omega)] at k
      exact ⟨(by show 1 ≤ sizeLine; decide), fun r hr => k.new (Same.refl _) hh hr⟩
    rw [if_neg (by simp at e; omega)] at k
    have hrb := rI_bounds wf.tree h.desk.thrice i
    refine ⟨_, rfl, a, T.cHouse, dx, _, _, rfl, hh.obj, T.clHouse, T.nHouse_nodes, hF_nodes, _, rfl, ag, _, _, _, rfl, rfl, SqL.of hA, atI_nat (j := 0) (v := V.int (i : Int)) rfl, l, h.desk, i, rfl, hh.treeAt, wf.tree, hi, fun H1 s1 => ?_⟩
    refine ⟨_, rfl, ag, _, _, _, rfl, rfl, SqL.of (s1 _ _ hA), atI_nat (j := 1) (v := V.int (n : Int)) rfl, rI h.desk h.desk.thrice i, n, rfl, hrb.1, hrb.2, ?_⟩
    cases es : stakesI (rI h.desk h.desk.thrice i) n with
    | none =>
      rw [show stakesI (rNow h i) n = none from es] at k
      intro H2 s2
      exact ⟨_, rfl, rfl, _, rfl, iteT ⟨(by show 1 ≤ sizeLine; decide), fun r hr => k.new (Same.refl _) (hh.same (s1.trans s2)) hr⟩⟩
    | some p =>
      rw [show stakesI (rNow h i) n = some p from es] at k
      intro H2 t s2 nt ht
      refine ⟨_, rfl, rfl, _, rfl, iteF ⟨_, rfl, t, _, rfl, .inr (SqT.of ht), fun r hr => ?_⟩⟩
      exact k.new (Same.refl _) (hh.same (s1.trans s2)) hr
theorem ok_Begin (T : Tx K mg) (t0 : Addr) : FnOk P w K mg base CX0 1 T.fBegin T.dBegin ["house", "args"] (spBegin (T.c t0)) := by
  refine T.FBegin.ok scBegin (fun vs H Q E h => ?_) (fun cdv A outer s H vs Q E hr h => ?_)
  · obtain ⟨a, ag, G, b, h, dx, l, q, g, m, rfl, _⟩ := h
    rfl
  · obtain ⟨a, ag, G, b, h, dx, l, q, g, m, rfl, hh, hag, k⟩ := h
    refine ⟨_, (pss_cons (ps_if (pt_cmpR op_gt (pe_ix ix_list (pv 1) pe_int (fun _ _ => rfl)) (pe_glob (v := V.int (10000)) rfl T.gMOST_AT_ONCE ⟨_, rfl⟩) (nomark _)) (pss_one (ps_ret (pe_lst (pa_cons (pe_glob (v := V.int (-22)) rfl T.gNOT_AS_TOLD ⟨_, rfl⟩) pa_nil))))
      pss_nil)
      (pss_cons (ps_fld (pv 0) pe_bl rfl)
      (pss_cons (ps_fld (pv 0) (pe_ix ix_list (pv 1) pe_int (fun _ _ => rfl)) rfl)
      (pss_cons (ps_fld (pv 0) (pe_lst pa_nil) rfl)
      (pss_cons (ps_fld (pv 0) (pe_lst pa_nil) rfl)
      (pss_cons (ps_fld (pv 0) (pe_lst pa_nil) rfl)
      (pss_one (ps_ret (pe_lst (pa_cons pe_int pa_nil)))))))))), ?_⟩
    have hA := hh.sub _ _ hag
    refine ⟨_, rfl, ag, _, _, _, rfl, rfl, SqL.of hA, atI_nat (j := 0) (v := V.int (m : Int)) rfl, _, _, rfl, rfl, _, rfl, ?_⟩
    refine ite2 (fun e => ?_) (fun e => ?_)
    · rw [if_pos (by simp at e; omega)] at k
      exact ⟨(by show 1 ≤ sizeLine; decide), fun r hr => k.new (Same.refl _) hh hr⟩
    rw [if_neg (by simp at e; omega)] at k
    refine ⟨_, rfl, a, T.cHouse, dx, _, rfl, hh.obj, T.clHouse, T.nHouse_begun, hF_few, ?_⟩
    rw [hF_putBegun]
    have h1 := hh.put (b' := true) (h' := h) hh.tree hh.prom hh.log hh.lq hh.lg hh.qg
    refine ⟨_, rfl, ag, _, _, _, rfl, rfl, SqL.of (h1.sub _ _ hag), atI_nat (j := 0) (v := V.int (m : Int)) rfl, _, rfl, a, T.cHouse, dx, _, rfl, upd_same, T.clHouse, T.nHouse_purse, hF_few, ?_⟩
    rw [hF_putPurse]
    have h2 := h1.put (b' := true) (h' := { h with purse := m }) h1.tree h1.prom h1.log hh.lq hh.lg hh.qg
    refine ⟨Nat.zero_le _, fun l1 hl1 => ?_⟩
    have h3 := h2.same (Same.new (o := .lst []) hl1)
    refine ⟨_, rfl, a, T.cHouse, dx, _, rfl, h3.obj, T.clHouse, T.nHouse_nodes, hF_few, ?_⟩
    rw [hF_putNodes]
    obtain ⟨_, qs, hq1, _⟩ := id h2.prom
    obtain ⟨_, gs, hg1, _⟩ := id h2.log
    have lq1 : l1 ≠ q := (ne_of_none hq1 hl1).symm
    have lg1 : l1 ≠ g := (ne_of_none hg1 hl1).symm
    have h4 := h3.put (b' := true) (h' := { h with purse := m, desk := ⟨⟨[]⟩, 0, []⟩ }) (l' := l1) ⟨h2.sub.free hl1, [], upd_same, rfl, List.nodup_nil, fun j x e => by simp at e⟩ h3.prom h3.log lq1 lg1 hh.qg
    refine ⟨Nat.zero_le _, fun q1 hq1 => ?_⟩
    have h5 := h4.same (Same.new (o := .lst []) hq1)
    refine ⟨_, rfl, a, T.cHouse, dx, _, rfl, h5.obj, T.clHouse, T.nHouse_promises, hF_few, ?_⟩
    rw [hF_putPromises]
    obtain ⟨_, ls4, hl4, _⟩ := id h4.tree
    obtain ⟨_, gs4, hg4, _⟩ := id h4.log
    have lq2 : l1 ≠ q1 := ne_of_none hl4 hq1
    have qg2 : q1 ≠ g := (ne_of_none hg4 hq1).symm
    have h6 := h5.put (b' := true) (h' := { h with purse := m, desk := ⟨⟨[]⟩, 0, []⟩, promises := [] }) (q' := q1) h5.tree ⟨h4.sub.free hq1, [], upd_same, rfl, fun j t p e => by simp at e⟩ h5.log lq2 lg1 qg2
    refine ⟨Nat.zero_le _, fun g1 hg1' => ?_⟩
    have h7 := h6.same (Same.new (o := .lst []) hg1')
    refine ⟨_, rfl, a, T.cHouse, dx, _, rfl, h7.obj, T.clHouse, T.nHouse_log, hF_few, ?_⟩
    rw [hF_putLog]
    obtain ⟨_, ls6, hl6, _⟩ := id h6.tree
    obtain ⟨_, qs6, hq6, _⟩ := id h6.prom
    have h8 := h7.put (b' := true) (h' := fresh m) (g' := g1) h7.tree h7.prom ⟨h6.sub.free hg1', [], upd_same, rfl, fun j t p e => by simp at e⟩ lq2 (ne_of_none hl6 hg1') (ne_of_none hq6 hg1')
    exact ⟨(by show 1 ≤ sizeLine; decide), fun r hr => k.new (Same.refl _) h8 hr⟩
end
end Sg

namespace Sg
open PySem PySem.Spec PyProof.Rows L2
open Kp365 (nodeAt isTrue)
open Kp367 (House Heard)
/-! ### one call -/
inductive Hand {K : PySem.W.Frag} {mg : Str → Option Value} (T : Tx K mg) (t0 : Addr) : Addr → Sp → Prop
  | begin_ : Hand T t0 T.fBegin (spBegin (T.c t0))
  | leaf : Hand T t0 T.fPutLeaf (spLeaf (T.c t0))
  | all_ : Hand T t0 T.fPutAllOf (spAllOf (T.c t0))
  | some_ : Hand T t0 T.fPutSomeOf (spSomeOf (T.c t0))
  | pop : Hand T t0 T.fPopNode (spPop (T.c t0))
  | nodeIs : Hand T t0 T.fTellNode (sp1 (T.c t0) .nodeIs)
  | flip : Hand T t0 T.fFlipLeaf (sp1 (T.c t0) .flip)
  | price : Hand T t0 T.fSetPrice (spPrice (T.c t0))
  | thrice : Hand T t0 T.fReadThrice (sp1 (T.c t0) .thrice)
  | once : Hand T t0 T.fReadOnce (sp1 (T.c t0) .once)
  | misread : Hand T t0 T.fTellMisread (sp1 (T.c t0) .misread)
  | true_ : Hand T t0 T.fTellTruth (sp1 (T.c t0) .true_)
  | right : Hand T t0 T.fTellRight (sp1 (T.c t0) .right)
  | ends : Hand T t0 T.fTellEnd (sp1 (T.c t0) .ends)
  | cheapest : Hand T t0 T.fTellCheapest (spCheap (T.c t0))
  | buy : Hand T t0 T.fBuyLooks (spBuy (T.c t0))
  | promise : Hand T t0 T.fPutPromise (spPromise (T.c t0))
  | unpromise : Hand T t0 T.fTakeBackPromise (sp1any (T.c t0) .unpromise)
  | promiseIs : Hand T t0 T.fTellPromise (sp1any (T.c t0) .promiseIs)
  | tightest : Hand T t0 T.fTellTightest (sp1 (T.c t0) .tightest)
  | hear : Hand T t0 T.fHear (spHear (T.c t0))
  | ifHear : Hand T t0 T.fTellHearingAhead (spIfHear (T.c t0))
  | entry : Hand T t0 T.fTellEntry (sp1any (T.c t0) .entry)
  | tally : Hand T t0 T.fTellTally (sp0 (T.c t0) .tally)
  | owed : Hand T t0 T.fTellOwed (sp0 (T.c t0) .owed)
  | pay : Hand T t0 T.fPayIn (sp1any (T.c t0) .pay)
  | stakes : Hand T t0 T.fTellStakes (spStakes (T.c t0))
def St (b : Bool) (h : House) : Option House := if b then some h else none
def aboutL : List Int := [5, 6, 7, 8, 9, 10, 11, 12, 13, 16, 19, 20, 21, 26]
def isAbout (n : Nat) : Bool := decide ((n : Int) ∈ aboutL)
theorem about_in {n : Nat} (h : n < 27) : inV (.int (n : Int)) (aboutL.map V.int) = isAbout n := by
  have key : ∀ q : Fin 27, inV (.int (q.1 : Int)) (aboutL.map V.int) = isAbout q.1 := by decide +kernel
  exact key ⟨n, h⟩
theorem Told.lt {n : Nat} {ns : List Nat} {x : Kp367.Call} (h : Told n ns x) : n < 27 := by
  cases h <;> decide
/-- of a call about a node: its first number is that node's -/
theorem Told.about {n : Nat} {ns : List Nat} {x : Kp367.Call} (h : Told n ns x) (ha : isAbout n = true) {hs : House} (wf : WFH hs) : ∃ i r, ns = i :: r ∧ (cnt hs ≤ i → Kp367.step (some hs) x = (some hs, Kp367.say (-2))) := by
  cases h with
  | begin_ _ => exact absurd ha (by decide +kernel)
  | leaf _ _ => exact absurd ha (by decide +kernel)
  | all_ _ => exact absurd ha (by decide +kernel)
  | some_ _ => exact absurd ha (by decide +kernel)
  | pop => exact absurd ha (by decide +kernel)
  | nodeIs a => exact ⟨a, [], rfl, fun c => by rw [st_nodeIs, if_pos c]⟩
  | flip a => exact ⟨a, [], rfl, fun c => by rw [st_flip, if_pos c]⟩
  | price a b => exact ⟨a, [b], rfl, fun c => by rw [st_price wf, if_pos c]⟩
  | thrice a => exact ⟨a, [], rfl, fun c => by rw [st_thrice, if_pos c]⟩
  | once a => exact ⟨a, [], rfl, fun c => by rw [st_once, if_pos c]⟩
  | misread a => exact ⟨a, [], rfl, fun c => by rw [st_misread, if_pos c]⟩
  | true_ a => exact ⟨a, [], rfl, fun c => by rw [st_true, if_pos c]⟩
  | right a => exact ⟨a, [], rfl, fun c => by rw [st_right, if_pos c]⟩
  | ends a => exact ⟨a, [], rfl, fun c => by rw [st_ends, if_pos c]⟩
  | cheapest _ _ => exact absurd ha (by decide +kernel)
  | buy _ _ => exact absurd ha (by decide +kernel)
  | promise a b => exact ⟨a, [b], rfl, fun c => by rw [st_promise, if_pos c]⟩
  | unpromise _ => exact absurd ha (by decide +kernel)
  | promiseIs _ => exact absurd ha (by decide +kernel)
  | tightest a => exact ⟨a, [], rfl, fun c => by rw [st_tightest, if_pos c]⟩
  | hear a b c => exact ⟨a, [b, c], rfl, fun c => by rw [st_hear, if_pos c]⟩
  | ifHear a b c => exact ⟨a, [b, c], rfl, fun c => by rw [st_ifHear, if_pos c]⟩
  | entry _ => exact absurd ha (by decide +kernel)
  | tally => exact absurd ha (by decide +kernel)
  | owed => exact absurd ha (by decide +kernel)
  | pay _ => exact absurd ha (by decide +kernel)
  | stakes a b => exact ⟨a, [b], rfl, fun c => by rw [st_stakes, if_pos c]⟩
def spAnswerTo (c : Cl) : Sp := fun vs H Q _ => ∃ (a ag : Addr) (G : Hp) (b : Bool) (h : House) (dx l q g : Addr) (n : Nat) (ns : List Nat) (x : Kp367.Call), vs = [.ref a, .int (n : Int), .ref ag] ∧ HouseIs c G H a b h dx l q g ∧ (b = true → WFH h) ∧ G ag = some (.lst (natL ns)) ∧ Told n ns x ∧ (∀ z ∈ ns, z < 4294967296) ∧ ns.length ≤ 7 ∧
  ∀ b' h', (Kp367.step (St b h) x).1 = St b' h' → (b' = false → h' = h) → Done c G a Q b' h' ((Kp367.step (St b h) x).2.num :: (Kp367.step (St b h) x).2.nums)
section
variable {P : Program} {w : World} {K : PySem.W.Frag} {mg : Str → Option Value} {base : Heap}
theorem hand_known (T : Tx K mg) (t0 : Addr) : ∀ f sp, Hand T t0 f sp → Known P w K mg base 7 f sp := by
  intro f sp h
  cases h with
  | begin_ => exact ⟨T.dBegin, _, (ok_Begin T t0).mono (by decide), T.FBegin.kp, T.bBegin⟩
  | leaf => exact ⟨T.dPutLeaf, _, (ok_PutLeaf T t0).mono (by decide), T.FPutLeaf.kp, T.bPutLeaf⟩
  | all_ => exact ⟨T.dPutAllOf, _, (ok_PutAllOf T t0).mono (by decide), T.FPutAllOf.kp, T.bPutAllOf⟩
  | some_ => exact ⟨T.dPutSomeOf, _, (ok_PutSomeOf T t0).mono (by decide), T.FPutSomeOf.kp, T.bPutSomeOf⟩
  | pop => exact ⟨T.dPopNode, _, (ok_PopNode T t0).mono (by decide), T.FPopNode.kp, T.bPopNode⟩
  | nodeIs => exact ⟨T.dTellNode, _, (ok_TellNode T t0).mono (by decide), T.FTellNode.kp, T.bTellNode⟩
  | flip => exact ⟨T.dFlipLeaf, _, (ok_FlipLeaf T t0).mono (by decide), T.FFlipLeaf.kp, T.bFlipLeaf⟩
  | price => exact ⟨T.dSetPrice, _, (ok_SetPrice T t0).mono (by decide), T.FSetPrice.kp, T.bSetPrice⟩
  | thrice => exact ⟨T.dReadThrice, _, (ok_ReadThrice T t0).mono (by decide), T.FReadThrice.kp, T.bReadThrice⟩
  | once => exact ⟨T.dReadOnce, _, (ok_ReadOnce T t0).mono (by decide), T.FReadOnce.kp, T.bReadOnce⟩
  | misread => exact ⟨T.dTellMisread, _, (ok_TellMisread T t0).mono (by decide), T.FTellMisread.kp, T.bTellMisread⟩
  | true_ => exact ⟨T.dTellTruth, _, (ok_TellTruth T t0).mono (by decide), T.FTellTruth.kp, T.bTellTruth⟩
  | right => exact ⟨T.dTellRight, _, (ok_TellRight T t0).mono (by decide), T.FTellRight.kp, T.bTellRight⟩
  | ends => exact ⟨T.dTellEnd, _, (ok_TellEnd T t0).mono (by decide), T.FTellEnd.kp, T.bTellEnd⟩
  | cheapest => exact ⟨T.dTellCheapest, _, (ok_TellCheapest T t0).mono (by decide), T.FTellCheapest.kp, T.bTellCheapest⟩
  | buy => exact ⟨T.dBuyLooks, _, (ok_BuyLooks T t0).mono (by decide), T.FBuyLooks.kp, T.bBuyLooks⟩
  | promise => exact ⟨T.dPutPromise, _, (ok_PutPromise T t0).mono (by decide), T.FPutPromise.kp, T.bPutPromise⟩
  | unpromise => exact ⟨T.dTakeBackPromise, _, (ok_TakeBackPromise T t0).mono (by decide), T.FTakeBackPromise.kp, T.bTakeBackPromise⟩
  | promiseIs => exact ⟨T.dTellPromise, _, (ok_TellPromise T t0).mono (by decide), T.FTellPromise.kp, T.bTellPromise⟩
  | tightest => exact ⟨T.dTellTightest, _, (ok_TellTightest T t0).mono (by decide), T.FTellTightest.kp, T.bTellTightest⟩
  | hear => exact ⟨T.dHear, _, (ok_Hear T t0).mono (by decide), T.FHear.kp, T.bHear⟩
  | ifHear => exact ⟨T.dTellHearingAhead, _, (ok_TellHearingAhead T t0).mono (by decide), T.FTellHearingAhead.kp, T.bTellHearingAhead⟩
  | entry => exact ⟨T.dTellEntry, _, (ok_TellEntry T t0).mono (by decide), T.FTellEntry.kp, T.bTellEntry⟩
  | tally => exact ⟨T.dTellTally, _, (ok_TellTally T t0).mono (by decide), T.FTellTally.kp, T.bTellTally⟩
  | owed => exact ⟨T.dTellOwed, _, (ok_TellOwed T t0).mono (by decide), T.FTellOwed.kp, T.bTellOwed⟩
  | pay => exact ⟨T.dPayIn, _, (ok_PayIn T t0).mono (by decide), T.FPayIn.kp, T.bPayIn⟩
  | stakes => exact ⟨T.dTellStakes, _, (ok_TellStakes T t0).mono (by decide), T.FTellStakes.kp, T.bTellStakes⟩
theorem ok_AnswerTo (T : Tx K mg) (t0 : Addr) : FnOk P w K mg base CX0 8 T.fAnswerTo T.dAnswerTo ["house", "number", "args"] (spAnswerTo (T.c t0)) := by
  refine T.FAnswerTo.ok scAnswerTo (fun vs H Q E h => ?_) (fun cdv A outer s H vs Q E hr h => ?_)
  · obtain ⟨a, ag, G, b, h, dx, l, q, g, n, ns, x, rfl, _⟩ := h
    rfl
  · obtain ⟨a, ag, G, b, h, dx, l, q, g, n, ns, x, rfl, hh, wf, hag, hT, hb, hlen, k⟩ := h
    have GAll := hand_known (P := P) (w := w) (base := base) T t0
    refine ⟨_, (pss_cons (ps_if (PW.pt (pw_and (pt_cmpR op_ne (pv 1) (pe_glob (v := V.int (0)) rfl T.gBEGIN ⟨_, rfl⟩) (nomark _)) (pw_and1 (pt_not (pt_val (pe_fld (pv 0) rfl)))))) (pss_one (ps_ret (pe_lst (pa_cons (pe_glob (v := V.int (-11)) rfl T.gNOT_BEGUN ⟨_, rfl⟩) pa_nil))))
      pss_nil)
      (pss_cons (ps_if (PW.pt (pw_and (pt_cmpR op_in_seq (pv 1) (pe_glob (v := V.ref T.aABOUT_A_NODE) rfl T.gABOUT_A_NODE rfl) (by with_unfolding_all rfl)) (pw_and1 (pt_cmpR op_ge (pe_ix ix_list (pv 2) pe_int (fun _ _ => rfl)) (pe_callB call_len_seq (by rfl) T.b_len (by decide +kernel) (pa_cons (pe_fld (pv 0) rfl) pa_nil)) (nomark _))))) (pss_one (ps_ret (pe_lst (pa_cons (pe_glob (v := V.int (-2)) rfl T.gNO_SUCH ⟨_, rfl⟩) pa_nil))))
      pss_nil)
      (pss_one (ps_ret (pe_callIx GAll (hr.mono (by decide)) (pe_ix ix_tup (pe_glob (v := V.ref T.aANSWERED_BY) rfl T.gANSWERED_BY rfl) (pv 1) (fun _ _ => rfl)) (pa_cons (pv 0) (pa_cons (pv 2) pa_nil))))))), ?_⟩
    have hA := hh.sub _ _ hag
    have hn := hT.lt
    -- the call itself, once the two tests are behind it
    have go : (n = 0 ∨ (b = true ∧ (isAbout n = true → ∀ i r, ns = i :: r → i < cnt h))) → tRet (tCallIx (Hand T t0) (tOp (rIxT K) (tC (V.ref T.aANSWERED_BY)) (tVar 1)) (tCons (tVar 0) (tCons (tVar 2) tNil))) { nx := fun _ H' => Q V.non H', rt := Q } [some (.ref a), some (.int (n : Int)), some (.ref ag)] H := by
      intro hg
      cases hT with
      | begin_ i =>
        refine ⟨_, rfl, T.aANSWERED_BY, _, _, _, rfl, rfl, T.sANSWERED_BY _, atI_nat (j := 0) (v := V.ref T.fBegin) rfl, T.fBegin, _, rfl, .begin_, _, rfl, _, rfl, a, ag, G, b, h, dx, l, q, g, i, rfl, hh, hag, ?_⟩
        have k : ∀ b' h', (Kp367.step (St b h) (.begin_ i)).1 = St b' h' → (b' = false → h' = h) → Done (T.c t0) G a Q b' h' ((Kp367.step (St b h) (.begin_ i)).2.num :: (Kp367.step (St b h) (.begin_ i)).2.nums) := k
        rw [st_begin] at k
        by_cases e : 10000 < i
        · rw [if_pos e] at k ⊢
          exact k b h rfl fun _ => rfl
        · rw [if_neg e] at k ⊢
          exact k true (fresh i) rfl fun z => nomatch z
      | leaf i u =>
        obtain ⟨rfl, h2⟩ := hg.resolve_left (by decide)
        exact ⟨_, rfl, T.aANSWERED_BY, _, _, _, rfl, rfl, T.sANSWERED_BY _, atI_nat (j := 1) (v := V.ref T.fPutLeaf) rfl, T.fPutLeaf, _, rfl, .leaf, _, rfl, _, rfl, a, ag, G, h, dx, l, q, g, (i, u), rfl, hh, wf rfl, hag, trivial, hb, hlen, fun h' e => k true h' e fun z => nomatch z⟩
      | all_ ks =>
        obtain ⟨rfl, h2⟩ := hg.resolve_left (by decide)
        exact ⟨_, rfl, T.aANSWERED_BY, _, _, _, rfl, rfl, T.sANSWERED_BY _, atI_nat (j := 2) (v := V.ref T.fPutAllOf) rfl, T.fPutAllOf, _, rfl, .all_, _, rfl, _, rfl, a, ag, G, h, dx, l, q, g, ns, rfl, hh, wf rfl, hag, trivial, hb, hlen, fun h' e => k true h' e fun z => nomatch z⟩
      | some_ ks =>
        obtain ⟨rfl, h2⟩ := hg.resolve_left (by decide)
        exact ⟨_, rfl, T.aANSWERED_BY, _, _, _, rfl, rfl, T.sANSWERED_BY _, atI_nat (j := 3) (v := V.ref T.fPutSomeOf) rfl, T.fPutSomeOf, _, rfl, .some_, _, rfl, _, rfl, a, ag, G, h, dx, l, q, g, ns, rfl, hh, wf rfl, hag, trivial, hb, hlen, fun h' e => k true h' e fun z => nomatch z⟩
      | pop =>
        obtain ⟨rfl, h2⟩ := hg.resolve_left (by decide)
        exact ⟨_, rfl, T.aANSWERED_BY, _, _, _, rfl, rfl, T.sANSWERED_BY _, atI_nat (j := 4) (v := V.ref T.fPopNode) rfl, T.fPopNode, _, rfl, .pop, _, rfl, _, rfl, a, ag, G, h, dx, l, q, g, (), rfl, hh, wf rfl, hag, trivial, hb, hlen, fun h' e => k true h' e fun z => nomatch z⟩
      | nodeIs i =>
        obtain ⟨rfl, h2⟩ := hg.resolve_left (by decide)
        exact ⟨_, rfl, T.aANSWERED_BY, _, _, _, rfl, rfl, T.sANSWERED_BY _, atI_nat (j := 5) (v := V.ref T.fTellNode) rfl, T.fTellNode, _, rfl, .nodeIs, _, rfl, _, rfl, a, ag, G, h, dx, l, q, g, i, rfl, hh, wf rfl, hag, h2 (by decide +kernel) i _ rfl, hb, hlen, fun h' e => k true h' e fun z => nomatch z⟩
      | flip i =>
        obtain ⟨rfl, h2⟩ := hg.resolve_left (by decide)
        exact ⟨_, rfl, T.aANSWERED_BY, _, _, _, rfl, rfl, T.sANSWERED_BY _, atI_nat (j := 6) (v := V.ref T.fFlipLeaf) rfl, T.fFlipLeaf, _, rfl, .flip, _, rfl, _, rfl, a, ag, G, h, dx, l, q, g, i, rfl, hh, wf rfl, hag, h2 (by decide +kernel) i _ rfl, hb, hlen, fun h' e => k true h' e fun z => nomatch z⟩
      | price i u =>
        obtain ⟨rfl, h2⟩ := hg.resolve_left (by decide)
        exact ⟨_, rfl, T.aANSWERED_BY, _, _, _, rfl, rfl, T.sANSWERED_BY _, atI_nat (j := 7) (v := V.ref T.fSetPrice) rfl, T.fSetPrice, _, rfl, .price, _, rfl, _, rfl, a, ag, G, h, dx, l, q, g, (i, u), rfl, hh, wf rfl, hag, h2 (by decide +kernel) i _ rfl, hb, hlen, fun h' e => k true h' e fun z => nomatch z⟩
      | thrice i =>
        obtain ⟨rfl, h2⟩ := hg.resolve_left (by decide)
        exact ⟨_, rfl, T.aANSWERED_BY, _, _, _, rfl, rfl, T.sANSWERED_BY _, atI_nat (j := 8) (v := V.ref T.fReadThrice) rfl, T.fReadThrice, _, rfl, .thrice, _, rfl, _, rfl, a, ag, G, h, dx, l, q, g, i, rfl, hh, wf rfl, hag, h2 (by decide +kernel) i _ rfl, hb, hlen, fun h' e => k true h' e fun z => nomatch z⟩
      | once i =>
        obtain ⟨rfl, h2⟩ := hg.resolve_left (by decide)
        exact ⟨_, rfl, T.aANSWERED_BY, _, _, _, rfl, rfl, T.sANSWERED_BY _, atI_nat (j := 9) (v := V.ref T.fReadOnce) rfl, T.fReadOnce, _, rfl, .once, _, rfl, _, rfl, a, ag, G, h, dx, l, q, g, i, rfl, hh, wf rfl, hag, h2 (by decide +kernel) i _ rfl, hb, hlen, fun h' e => k true h' e fun z => nomatch z⟩
      | misread i =>
        obtain ⟨rfl, h2⟩ := hg.resolve_left (by decide)
        exact ⟨_, rfl, T.aANSWERED_BY, _, _, _, rfl, rfl, T.sANSWERED_BY _, atI_nat (j := 10) (v := V.ref T.fTellMisread) rfl, T.fTellMisread, _, rfl, .misread, _, rfl, _, rfl, a, ag, G, h, dx, l, q, g, i, rfl, hh, wf rfl, hag, h2 (by decide +kernel) i _ rfl, hb, hlen, fun h' e => k true h' e fun z => nomatch z⟩
      | true_ i =>
        obtain ⟨rfl, h2⟩ := hg.resolve_left (by decide)
        exact ⟨_, rfl, T.aANSWERED_BY, _, _, _, rfl, rfl, T.sANSWERED_BY _, atI_nat (j := 11) (v := V.ref T.fTellTruth) rfl, T.fTellTruth, _, rfl, .true_, _, rfl, _, rfl, a, ag, G, h, dx, l, q, g, i, rfl, hh, wf rfl, hag, h2 (by decide +kernel) i _ rfl, hb, hlen, fun h' e => k true h' e fun z => nomatch z⟩
      | right i =>
        obtain ⟨rfl, h2⟩ := hg.resolve_left (by decide)
        exact ⟨_, rfl, T.aANSWERED_BY, _, _, _, rfl, rfl, T.sANSWERED_BY _, atI_nat (j := 12) (v := V.ref T.fTellRight) rfl, T.fTellRight, _, rfl, .right, _, rfl, _, rfl, a, ag, G, h, dx, l, q, g, i, rfl, hh, wf rfl, hag, h2 (by decide +kernel) i _ rfl, hb, hlen, fun h' e => k true h' e fun z => nomatch z⟩
      | ends i =>
        obtain ⟨rfl, h2⟩ := hg.resolve_left (by decide)
        exact ⟨_, rfl, T.aANSWERED_BY, _, _, _, rfl, rfl, T.sANSWERED_BY _, atI_nat (j := 13) (v := V.ref T.fTellEnd) rfl, T.fTellEnd, _, rfl, .ends, _, rfl, _, rfl, a, ag, G, h, dx, l, q, g, i, rfl, hh, wf rfl, hag, h2 (by decide +kernel) i _ rfl, hb, hlen, fun h' e => k true h' e fun z => nomatch z⟩
      | cheapest i ks =>
        obtain ⟨rfl, h2⟩ := hg.resolve_left (by decide)
        exact ⟨_, rfl, T.aANSWERED_BY, _, _, _, rfl, rfl, T.sANSWERED_BY _, atI_nat (j := 14) (v := V.ref T.fTellCheapest) rfl, T.fTellCheapest, _, rfl, .cheapest, _, rfl, _, rfl, a, ag, G, h, dx, l, q, g, (i, ks), rfl, hh, wf rfl, hag, trivial, hb, hlen, fun h' e => k true h' e fun z => nomatch z⟩
      | buy i ks =>
        obtain ⟨rfl, h2⟩ := hg.resolve_left (by decide)
        exact ⟨_, rfl, T.aANSWERED_BY, _, _, _, rfl, rfl, T.sANSWERED_BY _, atI_nat (j := 15) (v := V.ref T.fBuyLooks) rfl, T.fBuyLooks, _, rfl, .buy, _, rfl, _, rfl, a, ag, G, h, dx, l, q, g, (i, ks), rfl, hh, wf rfl, hag, trivial, hb, hlen, fun h' e => k true h' e fun z => nomatch z⟩
      | promise i u =>
        obtain ⟨rfl, h2⟩ := hg.resolve_left (by decide)
        exact ⟨_, rfl, T.aANSWERED_BY, _, _, _, rfl, rfl, T.sANSWERED_BY _, atI_nat (j := 16) (v := V.ref T.fPutPromise) rfl, T.fPutPromise, _, rfl, .promise, _, rfl, _, rfl, a, ag, G, h, dx, l, q, g, (i, u), rfl, hh, wf rfl, hag, h2 (by decide +kernel) i _ rfl, hb, hlen, fun h' e => k true h' e fun z => nomatch z⟩
      | unpromise i =>
        obtain ⟨rfl, h2⟩ := hg.resolve_left (by decide)
        exact ⟨_, rfl, T.aANSWERED_BY, _, _, _, rfl, rfl, T.sANSWERED_BY _, atI_nat (j := 17) (v := V.ref T.fTakeBackPromise) rfl, T.fTakeBackPromise, _, rfl, .unpromise, _, rfl, _, rfl, a, ag, G, h, dx, l, q, g, i, rfl, hh, wf rfl, hag, trivial, hb, hlen, fun h' e => k true h' e fun z => nomatch z⟩
      | promiseIs i =>
        obtain ⟨rfl, h2⟩ := hg.resolve_left (by decide)
        exact ⟨_, rfl, T.aANSWERED_BY, _, _, _, rfl, rfl, T.sANSWERED_BY _, atI_nat (j := 18) (v := V.ref T.fTellPromise) rfl, T.fTellPromise, _, rfl, .promiseIs, _, rfl, _, rfl, a, ag, G, h, dx, l, q, g, i, rfl, hh, wf rfl, hag, trivial, hb, hlen, fun h' e => k true h' e fun z => nomatch z⟩
      | tightest i =>
        obtain ⟨rfl, h2⟩ := hg.resolve_left (by decide)
        exact ⟨_, rfl, T.aANSWERED_BY, _, _, _, rfl, rfl, T.sANSWERED_BY _, atI_nat (j := 19) (v := V.ref T.fTellTightest) rfl, T.fTellTightest, _, rfl, .tightest, _, rfl, _, rfl, a, ag, G, h, dx, l, q, g, i, rfl, hh, wf rfl, hag, h2 (by decide +kernel) i _ rfl, hb, hlen, fun h' e => k true h' e fun z => nomatch z⟩
      | hear i u v =>
        obtain ⟨rfl, h2⟩ := hg.resolve_left (by decide)
        exact ⟨_, rfl, T.aANSWERED_BY, _, _, _, rfl, rfl, T.sANSWERED_BY _, atI_nat (j := 20) (v := V.ref T.fHear) rfl, T.fHear, _, rfl, .hear, _, rfl, _, rfl, a, ag, G, h, dx, l, q, g, (i, u, v), rfl, hh, wf rfl, hag, h2 (by decide +kernel) i _ rfl, hb, hlen, fun h' e => k true h' e fun z => nomatch z⟩
      | ifHear i u v =>
        obtain ⟨rfl, h2⟩ := hg.resolve_left (by decide)
        exact ⟨_, rfl, T.aANSWERED_BY, _, _, _, rfl, rfl, T.sANSWERED_BY _, atI_nat (j := 21) (v := V.ref T.fTellHearingAhead) rfl, T.fTellHearingAhead, _, rfl, .ifHear, _, rfl, _, rfl, a, ag, G, h, dx, l, q, g, (i, u, v), rfl, hh, wf rfl, hag, h2 (by decide +kernel) i _ rfl, hb, hlen, fun h' e => k true h' e fun z => nomatch z⟩
      | entry i =>
        obtain ⟨rfl, h2⟩ := hg.resolve_left (by decide)
        exact ⟨_, rfl, T.aANSWERED_BY, _, _, _, rfl, rfl, T.sANSWERED_BY _, atI_nat (j := 22) (v := V.ref T.fTellEntry) rfl, T.fTellEntry, _, rfl, .entry, _, rfl, _, rfl, a, ag, G, h, dx, l, q, g, i, rfl, hh, wf rfl, hag, trivial, hb, hlen, fun h' e => k true h' e fun z => nomatch z⟩
      | tally =>
        obtain ⟨rfl, h2⟩ := hg.resolve_left (by decide)
        exact ⟨_, rfl, T.aANSWERED_BY, _, _, _, rfl, rfl, T.sANSWERED_BY _, atI_nat (j := 23) (v := V.ref T.fTellTally) rfl, T.fTellTally, _, rfl, .tally, _, rfl, _, rfl, a, ag, G, h, dx, l, q, g, (), rfl, hh, wf rfl, hag, trivial, hb, hlen, fun h' e => k true h' e fun z => nomatch z⟩
      | owed =>
        obtain ⟨rfl, h2⟩ := hg.resolve_left (by decide)
        exact ⟨_, rfl, T.aANSWERED_BY, _, _, _, rfl, rfl, T.sANSWERED_BY _, atI_nat (j := 24) (v := V.ref T.fTellOwed) rfl, T.fTellOwed, _, rfl, .owed, _, rfl, _, rfl, a, ag, G, h, dx, l, q, g, (), rfl, hh, wf rfl, hag, trivial, hb, hlen, fun h' e => k true h' e fun z => nomatch z⟩
      | pay i =>
        obtain ⟨rfl, h2⟩ := hg.resolve_left (by decide)
        exact ⟨_, rfl, T.aANSWERED_BY, _, _, _, rfl, rfl, T.sANSWERED_BY _, atI_nat (j := 25) (v := V.ref T.fPayIn) rfl, T.fPayIn, _, rfl, .pay, _, rfl, _, rfl, a, ag, G, h, dx, l, q, g, i, rfl, hh, wf rfl, hag, trivial, hb, hlen, fun h' e => k true h' e fun z => nomatch z⟩
      | stakes i u =>
        obtain ⟨rfl, h2⟩ := hg.resolve_left (by decide)
        exact ⟨_, rfl, T.aANSWERED_BY, _, _, _, rfl, rfl, T.sANSWERED_BY _, atI_nat (j := 26) (v := V.ref T.fTellStakes) rfl, T.fTellStakes, _, rfl, .stakes, _, rfl, _, rfl, a, ag, G, h, dx, l, q, g, (i, u), rfl, hh, wf rfl, hag, h2 (by decide +kernel) i _ rfl, hb, hlen, fun h' e => k true h' e fun z => nomatch z⟩
    refine ⟨_, rfl, rfl, _, rfl, ?_⟩
    by_cases e0 : n = 0
    · have hg : n = 0 ∨ b = true := Or.inl e0
      refine ite2 (fun z => absurd z (by rw [e0]; decide)) (fun _ => ?_)
      refine iteF ?_
      refine ⟨_, rfl, T.aABOUT_A_NODE, _, rfl, .inr (T.sABOUT_A_NODE _), rfl, by decide +kernel, _, rfl, ?_⟩
      show if (inV (.int (n : Int)) (aboutL.map V.int)) = true then _ else _
      rw [about_in hn]
      refine ite2 (fun e3 => ?_) (fun e3 => ?_)
      · have hbt : b = true := hg.resolve_left fun z => by rw [z] at e3; exact absurd e3 (by decide +kernel)
        subst hbt
        obtain ⟨i, r, ei, hst⟩ := hT.about e3 (wf rfl)
        obtain ⟨xs, hl1, hl2⟩ := hh.nodesLen
        have hA' : H ag = some (.lst (natL (i :: r))) := by rw [← ei]; exact hA
        refine ⟨_, rfl, ag, _, _, _, rfl, rfl, SqL.of hA', atI_nat (j := 0) (v := V.int (i : Int)) rfl, _, rfl, a, T.cHouse, dx, _, _, rfl, hh.obj, T.clHouse, T.nHouse_nodes, hF_nodes, l, _, rfl, .inl (SqL.of hl1), _, _, rfl, rfl, _, rfl, ?_⟩
        rw [hl2]
        refine ite2 (fun e4 => ?_) (fun e4 => ?_)
        · have e4 : cnt h ≤ i := by simp at e4; omega
          have k2 := k true h
          rw [show St true h = some h from rfl, hst e4] at k2
          exact ⟨(by show 1 ≤ sizeLine; decide), fun p hp => (k2 rfl fun _ => rfl).new (Same.refl _) hh hp⟩
        · have e4 : i < cnt h := by simp at e4; omega
          exact go (Or.inr ⟨rfl, fun _ i' r' e5 => by rw [ei] at e5; cases e5; exact e4⟩)
      · refine iteF ?_
        exact go (hg.elim Or.inl fun z => Or.inr ⟨z, fun z2 => absurd z2 e3⟩)
    · refine ite2 (fun _ => ?_) (fun z => absurd (show (!decide (V.int (n : Int) = V.int 0)) = true by rw [decide_eq_false (fun z => e0 (by have := V.int.inj z; omega))]; rfl) z)
      refine ⟨_, rfl, a, T.cHouse, dx, _, _, rfl, hh.obj, T.clHouse, T.nHouse_begun, hF_begun, _, rfl, ?_⟩
      cases b with
      | false =>
        refine iteT ⟨(by show 1 ≤ sizeLine; decide), fun p hp => ?_⟩
        have e1 : Kp367.step (St false h) x = (none, Kp367.say (-11)) := by
          cases hT <;> first | rfl | exact absurd rfl e0
        have k2 := k false h
        rw [e1] at k2
        exact (k2 rfl fun _ => rfl).new (Same.refl _) hh hp
      | true =>
        have hg : n = 0 ∨ true = true := Or.inr rfl
        refine iteF ?_
        refine ⟨_, rfl, T.aABOUT_A_NODE, _, rfl, .inr (T.sABOUT_A_NODE _), rfl, by decide +kernel, _, rfl, ?_⟩
        show if (inV (.int (n : Int)) (aboutL.map V.int)) = true then _ else _
        rw [about_in hn]
        refine ite2 (fun e3 => ?_) (fun e3 => ?_)
        · skip
          obtain ⟨i, r, ei, hst⟩ := hT.about e3 (wf rfl)
          obtain ⟨xs, hl1, hl2⟩ := hh.nodesLen
          have hA' : H ag = some (.lst (natL (i :: r))) := by rw [← ei]; exact hA
          refine ⟨_, rfl, ag, _, _, _, rfl, rfl, SqL.of hA', atI_nat (j := 0) (v := V.int (i : Int)) rfl, _, rfl, a, T.cHouse, dx, _, _, rfl, hh.obj, T.clHouse, T.nHouse_nodes, hF_nodes, l, _, rfl, .inl (SqL.of hl1), _, _, rfl, rfl, _, rfl, ?_⟩
          rw [hl2]
          refine ite2 (fun e4 => ?_) (fun e4 => ?_)
          · have e4 : cnt h ≤ i := by simp at e4; omega
            have k2 := k true h
            rw [show St true h = some h from rfl, hst e4] at k2
            exact ⟨(by show 1 ≤ sizeLine; decide), fun p hp => (k2 rfl fun _ => rfl).new (Same.refl _) hh hp⟩
          · have e4 : i < cnt h := by simp at e4; omega
            exact go (Or.inr ⟨rfl, fun _ i' r' e5 => by rw [ei] at e5; cases e5; exact e4⟩)
        · refine iteF ?_
          exact go (hg.elim Or.inl fun z => Or.inr ⟨z, fun z2 => absurd z2 e3⟩)
end
end Sg

namespace Sg
open PySem PySem.Spec PyProof.Rows L2
open Kp365 (nodeAt isTrue)
open Kp367 (House Heard)
open PyFlat (put put1 putRows putRow okCall played told)
theorem fnok_ex {P : Program} {w : World} {K : PySem.W.Frag} {mg : Str → Option Value} {base : Heap} {k : Nat} {f : Addr} {fd : FuncData} {ps : List Str} {sp : Addr → Sp} (F : ∀ t, FnOk P w K mg base CX0 k f fd ps (sp t)) : FnOk P w K mg base CX0 k f fd ps (fun vs H Q E => ∃ t, sp t vs H Q E) :=
  ⟨fun vs H Q E ⟨t, h⟩ => (F t).len vs H Q E h, fun A outer s H args us vs Q E hr he hb hv ⟨t, hs⟩ => (F t).run A outer s H args us vs Q E hr he hb hv hs⟩
/-! ### the calls one after another -/
def after (s : Kp367.State) (cs : List (List (List Int))) : Kp367.State := cs.foldl (fun s c => (Kp367Neutral.step s c).1) s
theorem after_snoc (s : Kp367.State) (cs : List (List (List Int))) (c : List (List Int)) : after s (cs ++ [c]) = (Kp367Neutral.step (after s cs) c).1 := by
  unfold after
  rw [List.foldl_append]
  rfl
theorem played_snoc : ∀ (cs : List (List (List Int))) (s : Kp367.State) (c : List (List Int)), played Kp367Neutral.step s (cs ++ [c]) = played Kp367Neutral.step s cs ++ [(Kp367Neutral.step (after s cs) c).2]
  | [], _, _ => rfl
  | d :: r, s, c => by
    show (Kp367Neutral.step s d).2 :: played Kp367Neutral.step (Kp367Neutral.step s d).1 (r ++ [c]) = _
    rw [played_snoc r]
    rfl
theorem told_snoc (l : List (List Int)) (a : List Int) : told (l ++ [a]) = told l ++ ((a.length : Int) :: a) := by
  unfold told
  rw [List.flatMap_append]
  simp
theorem told_le (l m : List (List Int)) : (told l).length ≤ (told (l ++ m)).length := by
  unfold told
  rw [List.flatMap_append, List.length_append]
  omega
theorem played_split : ∀ (cs ds : List (List (List Int))) (s : Kp367.State), played Kp367Neutral.step s (cs ++ ds) = played Kp367Neutral.step s cs ++ played Kp367Neutral.step (after s cs) ds
  | [], _, _ => rfl
  | d :: r, ds, s => by
    show (Kp367Neutral.step s d).2 :: played Kp367Neutral.step (Kp367Neutral.step s d).1 (r ++ ds) = _
    rw [played_split r ds]
    rfl
theorem step_call {s : Kp367.State} {c : List (List Int)} {x : Kp367.Call} (h : Kp367Neutral.callOf c = some x) : Kp367Neutral.step s c = ((Kp367.step s x).1, (Kp367.step s x).2.num :: (Kp367.step s x).2.nums) := by
  unfold Kp367Neutral.step
  rw [h]
/-- the house behind a call -/
theorem next_house {b : Bool} {h : House} {n : Nat} {ns : List Nat} {x : Kp367.Call} (hT : Told n ns x) (wf : b = true → WFH h) : ∃ b' h', (Kp367.step (St b h) x).1 = St b' h' ∧ (b' = false → h' = h) ∧ (b' = true → WFH h') := by
  cases b with
  | true =>
    obtain ⟨h', e, w'⟩ := wfh_step (wf rfl) x
    exact ⟨true, h', e, (fun z => nomatch z), fun _ => w'⟩
  | false =>
    by_cases e0 : n = 0
    · subst e0
      cases hT with
      | begin_ m =>
        rw [st_begin]
        by_cases e : 10000 < m
        · rw [if_pos e]
          exact ⟨false, h, rfl, fun _ => rfl, fun z => nomatch z⟩
        · rw [if_neg e]
          exact ⟨true, fresh m, rfl, (fun z => nomatch z), fun _ => wfh_fresh (by omega)⟩
    · have e1 : Kp367.step (St false h) x = (none, Kp367.say (-11)) := by
        cases hT <;> first | rfl | exact absurd rfl e0
      rw [e1]
      exact ⟨false, h, rfl, fun _ => rfl, fun z => nomatch z⟩
def spAns (K : PySem.W.Frag) : Sp := fun vs H Q _ => ∃ (a : Addr) (ns : List Int), vs = [.ref a] ∧ SqL K H a (ns.map V.int) ∧ ns.length ≤ 540 ∧ PyKp367.answers_asked ns = true ∧
  ∀ (H' : Hp) (p : Addr), H' p = some (.lst ((PyKp367.answers ns).map V.int)) → Q (.ref p) H'
/-- what is asked of a list of calls -/
theorem asked_raw {ns : List Int} (h : PyKp367.answers_asked ns = true) : ∃ raw : List (List (List Int)), ns = put raw ∧ (∀ c ∈ raw, okCall PyKp367.shape c) ∧ (∀ c ∈ raw, Kp367Neutral.asked1 (PyKp367.whole c) = true) ∧ PyKp367.answers ns = told (played Kp367Neutral.step none (raw.map PyKp367.whole)) ∧ (PyKp367.answers ns).length ≤ 10000000 := by
  unfold PyKp367.answers_asked at h
  cases e : PyFlat.calls PyKp367.shape ns.length ns with
  | none => rw [e] at h; cases h
  | some raw =>
    rw [e] at h
    simp only [Bool.and_eq_true] at h
    obtain ⟨⟨_, h4⟩, h5⟩ := h
    obtain ⟨e1, e2⟩ := PyFlat.put_calls _ _ _ e
    refine ⟨raw, e1, e2, fun c hc => ?_, ?_, of_decide_eq_true h5⟩
    · unfold Kp367Neutral.asked at h4
      simp only [Bool.and_eq_true] at h4
      exact List.all_eq_true.mp h4.2.2 _ (List.mem_map.mpr ⟨c, hc, rfl⟩)
    · unfold PyKp367.answers PyKp367.calls
      rw [e]
      rfl
section
variable {P : Program} {w : World} {K : PySem.W.Frag} {mg : Str → Option Value} {base : Heap}
theorem ok_Answers (T : Tx K mg) : FnOk P w K mg base CX0 9 T.fAnswers T.dAnswers ["calls"] (spAns K) := by
  have GAnswerTo := ok_AnswerTo (P := P) (w := w) (base := base) T
  have GHouseInit := ok_HouseInit (P := P) (w := w) (base := base) T
  have GSplitCalls := ok_SplitCalls (P := P) (w := w) (base := base) T
  refine T.FAnswers.ok scAnswers (fun vs H Q E h => ?_) (fun cdv A outer s H vs Q E hr h => ?_)
  · obtain ⟨ca, ns, rfl, _⟩ := h
    rfl
  · obtain ⟨ca, ns, rfl, hS, h540, hask, k⟩ := h
    have GAnswerTo := fnok_ex GAnswerTo
    obtain ⟨raw, hput, hok, hask1, hans, hlen⟩ := asked_raw hask
    subst hput
    rw [hans] at k hlen
    refine ⟨_, (pss_cons (ps_set (i := 1) scAnswers.nd rfl (Or.inl rfl) (pe_make0 T.mkHouse GHouseInit (hr.mono (by decide)) rfl T.gHouse T.bHouseInit .nil pass0))
      (pss_cons (ps_set (i := 2) scAnswers.nd rfl (Or.inl rfl) (pe_lst pa_nil))
      (pss_cons (ps_for PassesOwn.never rfl (pi_list (pe_call GSplitCalls (hr.mono (by decide)) rfl T.gSplitCalls T.FSplitCalls.kp T.bSplitCalls .nil pass0 (pa_cons (pv 0) pa_nil))) (pg_tup rfl (pgs_cons (pg_name (i := 3) scAnswers.nd rfl (Or.inl rfl)) (pgs_cons (pg_name (i := 4) scAnswers.nd rfl (Or.inl rfl)) pgs_nil)))
      (pss_cons (ps_set (i := 5) scAnswers.nd rfl (Or.inl rfl) (pe_call GAnswerTo (hr.mono (by decide)) rfl T.gAnswerTo T.FAnswerTo.kp T.bAnswerTo .nil pass0 (pa_cons (pv 1) (pa_cons (pv 3) (pa_cons (pv 4) pa_nil)))))
      (pss_cons (ps_expr (pe_bm PySem.F.plainAttrs_list PySem.F.slot_list_append PySem.F.type_list_append mt_append (pv 2) (pa_cons (pe_callB call_len_seq (by rfl) T.b_len (by decide +kernel) (pa_cons (pv 5) pa_nil)) pa_nil)))
      (pss_one (ps_expr (pe_bm PySem.F.plainAttrs_list PySem.F.slot_list_extend PySem.F.type_list_extend mt_extend (pv 2) (pa_cons (pv 5) pa_nil)))))))
      (pss_one (ps_ret (pv 2)))))), ?_⟩
    intro a dx na nd ne
    refine ⟨a, dx, rfl, upd_same, fun H1 l q g h1 l0 q0 g0 lq lg qg hl hq hg hk => ⟨rfl, ?_⟩⟩
    have s1 : Same H H1 := fun b o e => by
      have ba := ne_of_none e na
      refine hk b o ?_ ba
      rw [upd_ne ba, upd_ne (ne_of_none e nd)]
      exact e
    refine ⟨Nat.zero_le _, fun tt htt => ?_⟩
    have s2 : Same H1 (upd H1 tt (.lst [])) := Same.new htt
    have ht2 : (upd H1 tt (.lst [])) tt = some (.lst []) := upd_same
    generalize upd H1 tt (.lst []) = H2 at s2 ht2
    refine ⟨_, rfl, ca, raw, rfl, (s1.trans s2).seq hS, hok, h540, fun H3 sp ts s3 hsp hsp3 hto => ?_⟩
    have s23 := s2.trans s3
    have ht3 := s3 _ _ ht2
    have nn : ∀ x o, H1 x = some o → ∀ y, H1 y = none → y ≠ x := fun x o e y ny z => by
      rw [z, e] at ny
      cases ny
    have ta : tt ≠ a := nn _ _ h1 _ htt
    have tl : tt ≠ l := nn _ _ hl _ htt
    have tq : tt ≠ q := nn _ _ hq _ htt
    have tg : tt ≠ g := nn _ _ hg _ htt
    obtain ⟨G0, hG0⟩ : ∃ G0 : Hp, G0 = fun b => if b = a ∨ b = l ∨ b = q ∨ b = g then none else H3 b := ⟨_, rfl⟩
    have gIn : ∀ x, x = a ∨ x = l ∨ x = q ∨ x = g → G0 x = none := fun x hx => by rw [hG0]; exact if_pos hx
    have gOut : ∀ x, ¬ (x = a ∨ x = l ∨ x = q ∨ x = g) → G0 x = H3 x := fun x hx => by rw [hG0]; exact if_neg hx
    have gNew : ∀ x, H2 x = none → G0 x = H3 x := fun x hx => gOut x fun z => by
      have hx1 := s2.free hx
      rcases z with z | z | z | z
      · rw [z, h1] at hx1; cases hx1
      · rw [z, hl] at hx1; cases hx1
      · rw [z, hq] at hx1; cases hx1
      · rw [z, hg] at hx1; cases hx1
    have gt : G0 tt = some (.lst []) := by
      rw [gOut tt fun z => by rcases z with z | z | z | z; exact ta z; exact tl z; exact tq z; exact tg z]
      exact ht3
    have sub0 : Same G0 H3 := fun x o e => by
      by_cases z : x = a ∨ x = l ∨ x = q ∨ x = g
      · rw [gIn x z] at e
        cases e
      · rw [gOut x z] at e
        exact e
    have hh0 : HouseIs (T.c tt) G0 H3 a false (fresh 0) dx l q g := by
      refine ⟨sub0, s23 _ _ h1, gIn a (Or.inl rfl), ⟨gIn l (Or.inr (Or.inl rfl)), [], s23 _ _ hl, rfl, List.nodup_nil, fun j x e => by simp at e⟩, ⟨gIn q (Or.inr (Or.inr (Or.inl rfl))), [], s23 _ _ hq, rfl, fun j x p e => by simp at e⟩, ⟨gIn g (Or.inr (Or.inr (Or.inr rfl))), [], s23 _ _ hg, rfl, fun j x p e => by simp at e⟩, lq, lg, qg, ⟨_, gt⟩⟩
    have spt : sp ≠ tt := fun z => by rw [z, ht2] at hsp; cases hsp
    refine ⟨sp, rfl, ⟨_, SqL.of hsp3⟩, for_list (K := K) (a := sp) (xs := ts.map V.ref) (fun j σ H' => ∃ (v3 v4 v5 : Option V) (G : Hp) (b : Bool) (h : House) (dx l q g : Addr), σ = [some (.ref ca), some (.ref a), some (.ref tt), v3, v4, v5] ∧ HouseIs (T.c tt) G H' a b h dx l q g ∧ (b = true → WFH h) ∧ St b h = after none ((raw.take j).map PyKp367.whole) ∧
        G tt = some (.lst ((told (played Kp367Neutral.step none ((raw.take j).map PyKp367.whole))).map V.int)) ∧ (∀ x o, x ≠ tt → G0 x = some o → G x = some o))
      ⟨none, none, none, G0, false, fresh 0, dx, l, q, g, rfl, hh0, (fun z => nomatch z), rfl, gt, fun x o _ e => e⟩ ?_ ?_ ?_⟩
    · rintro j σ H' _ ⟨v3, v4, v5, G, b, h, dx, l, q, g, _, hh, _, _, _, hkeep⟩
      exact SqL.of (hh.sub _ _ (hkeep sp _ spt (by rw [gNew sp hsp]; exact hsp3)))
    · rintro j y σ H' hj ⟨v3, v4, v5, G, b, h, dx, l, q, g, rfl, hh, wf, hst, htold, hkeep⟩
      obtain ⟨t, ht, rfl⟩ := ref_at hj
      have hjr : j < raw.length := by rw [← hto.1]; exact lt_of_at ht
      have ec : raw[j]? = some raw[j] := List.getElem?_eq_getElem hjr
      have hcm := List.mem_of_getElem? ec
      generalize raw[j] = c at ec hcm
      obtain ⟨t0, ra, p, args, hw, ra0, _, ht1, hra1⟩ := hto.2 j t c ht ec
      obtain ⟨n, ns, x, hc1, hT, hcall, hb32, hl7⟩ := asked1_told (hask1 c hcm)
      rw [hw] at hc1
      have ep : p = (n : Int) ∧ args = ns.map fun (n : Nat) => (n : Int) := by
        have := (List.cons.inj hc1).1
        exact List.cons.inj this
      obtain ⟨rfl, rfl⟩ := ep
      have tt1 : t ≠ tt := fun z => by rw [z, ht2] at t0; cases t0
      have rt1 : ra ≠ tt := fun z => by rw [z, ht2] at ra0; cases ra0
      have gtup : G t = some (.tup [.int (n : Int), .ref ra]) := hkeep t _ tt1 (by rw [gNew t t0]; exact ht1)
      have gra : G ra = some (.lst (natL ns)) := hkeep ra _ rt1 (by rw [gNew ra ra0, hra1, natL_ints])
      refine ⟨t, _, rfl, SqT.of (hh.sub _ _ gtup), rfl, _, _, rfl, _, _, rfl, rfl, ?_⟩
      have etake : (raw.take (j + 1)).map PyKp367.whole = (raw.take j).map PyKp367.whole ++ [PyKp367.whole c] := by
        rw [take_more ec, List.map_append]
        rfl
      have estep := step_call (s := St b h) hcall
      obtain ⟨b1, h1', e1, e2, e3⟩ := next_house hT wf
      refine ⟨_, rfl, _, rfl, _, rfl, tt, a, ra, G, b, h, dx, l, q, g, n, ns, x, rfl, hh, wf, gra, hT, hb32, hl7, fun b' h' eb eh => ?_⟩
      have wf' : b' = true → WFH h' := fun z => by
        subst z
        rw [e1] at eb
        cases b1 with
        | true =>
          have e4 : h1' = h' := Option.some.inj eb
          rw [← e4]
          exact e3 rfl
        | false => cases eb
      intro G1 H5 r sG hx gr hr5
      obtain ⟨dx5, l5, q5, g5, hh5⟩ := hx
      have gt5 := sG _ _ htold
      have ht5 := hh5.sub _ _ gt5
      have rtt : r ≠ tt := fun z => by rw [z, gt5] at gr; cases gr
      obtain ⟨ans, hansw⟩ : ∃ ans, ans = (Kp367.step (St b h) x).2.num :: (Kp367.step (St b h) x).2.nums := ⟨_, rfl⟩
      rw [← hansw] at hr5
      have e5 : (Kp367Neutral.step (after none ((raw.take j).map PyKp367.whole)) (PyKp367.whole c)) = (St b' h', ans) := by
        rw [← hst, estep, eb, hansw]
      have epl : told (played Kp367Neutral.step none ((raw.take (j + 1)).map PyKp367.whole)) = told (played Kp367Neutral.step none ((raw.take j).map PyKp367.whole)) ++ ((ans.length : Int) :: ans) := by
        rw [etake, played_snoc, e5, told_snoc]
      have hle : (told (played Kp367Neutral.step none ((raw.take (j + 1)).map PyKp367.whole))).length ≤ 10000000 := by
        refine Nat.le_trans ?_ hlen
        have e6 : raw.map PyKp367.whole = (raw.take (j + 1)).map PyKp367.whole ++ (raw.drop (j + 1)).map PyKp367.whole := by
          rw [← List.map_append, List.take_append_drop]
        rw [e6, played_split]
        exact told_le _ _
      rw [epl, List.length_append, List.length_cons] at hle
      have hst' : St b' h' = after none ((raw.take (j + 1)).map PyKp367.whole) := by
        rw [etake, after_snoc, e5]
      generalize told (played Kp367Neutral.step none ((raw.take j).map PyKp367.whole)) = sofar at *
      refine ⟨_, rfl, .inl ⟨rfl, _, SqL.of ht5⟩, _, rfl, r, _, rfl, .inl (SqL.of hr5), tt, _, _, rfl, rfl, ht5, ?_, ?_⟩
      · rw [List.length_map]
        refine Nat.lt_of_le_of_lt (show sofar.length ≤ 10000000 by omega) ?_
        rw [sizeLine_eq]
        decide
      have hh6 := hh5.write (xs := sofar.map V.int ++ [V.int (((ans.map V.int).length : Nat) : Int)]) gt5
      have hr6 : (upd H5 tt (.lst (sofar.map V.int ++ [V.int (((ans.map V.int).length : Nat) : Int)]))) r = some (.lst (ans.map V.int)) := by
        rw [upd_ne rtt]
        exact hr5
      refine ⟨_, rfl, .inl ⟨rfl, _, SqL.of upd_same⟩, _, rfl, tt, r, _, _, rfl, rfl, upd_same, hr6, ?_, ?_⟩
      · rw [List.length_append, List.length_map, List.length_map]
        show sofar.length + 1 + ans.length ≤ sizeLine
        rw [sizeLine_eq]
        omega
      have hh7 := hh6.write (xs := sofar.map V.int ++ [V.int (((ans.map V.int).length : Nat) : Int)] ++ ans.map V.int) (upd_same (H := G1))
      refine ⟨_, _, _, _, b', h', dx5, l5, q5, g5, rfl, hh7, wf', hst', ?_, fun y o hy e => ?_⟩
      · show (upd (upd G1 tt _) tt _) tt = _
        rw [upd_same, epl, List.map_append, List.length_map, List.append_assoc]
        rfl
      · show (upd (upd G1 tt _) tt _) y = _
        rw [upd_ne hy, upd_ne hy]
        exact sG _ _ (hkeep y o hy e)
    · rintro σ H' ⟨v3, v4, v5, G, b, h, dx, l, q, g, rfl, hh, wf, hst, htold, hkeep⟩
      rw [List.length_map, hto.1, List.take_length] at htold
      exact ⟨_, rfl, k _ _ (hh.sub _ _ htold)⟩
end
end Sg

namespace Sg
open PySem PySem.Spec PyProof.Rows L2
def tx_mk {K : PySem.W.Frag} {h : Heap} {mg : Str → Option Value} (X : K.In h) (G : h.Ns mainGlobals mg)
    {tLEAF : Tok} {tALL_OF : Tok} {tSOME_OF : Tok}
    {tMOST_NODES : Tok} {tMOST_IN_ROW : Tok} {tWHOLE : Tok}
    {tHUNDREDTH : Tok} {tMOST_LUCK : Tok} {tMOST_STAKE : Tok}
    {tNO_SUCH : Tok} {tNOTHING_THERE : Tok} {tNOT_BEGUN : Tok}
    {tSO_ALREADY : Tok} {tTOO_LITTLE : Tok} {tNOT_AS_TOLD : Tok}
    {tFULL : Tok} {tNOT_KEPT : Tok} {tNO_FIT : Tok}
    {tMOST_AT_ONCE : Tok} {tMOST_IN_PURSE : Tok} {tMOST_HUNDREDTHS : Tok}
    {tMOST_PRICE : Tok} {tMOST_LEAVES : Tok} {tMOST_PROMISES : Tok}
    {tMOST_HEARINGS : Tok} {tMOST_GAIN : Tok} {tBEGIN : Tok}
    {cNode : Addr} {cHearing : Addr} {cHouse : Addr}
    {fNodeInit : Addr} {odNodeInit anNodeInit : Option Addr} {slNodeInit : Array (Option Value)} {ocNodeInit kVNodeInit dcNodeInit pmNodeInit cdNodeInit ctNodeInit : Value} {fNewLeaf : Addr} {odNewLeaf anNewLeaf : Option Addr} {slNewLeaf : Array (Option Value)} {ocNewLeaf kVNewLeaf dcNewLeaf pmNewLeaf cdNewLeaf ctNewLeaf : Value} {fNewBranch : Addr} {odNewBranch anNewBranch : Option Addr} {slNewBranch : Array (Option Value)} {ocNewBranch kVNewBranch dcNewBranch pmNewBranch cdNewBranch ctNewBranch : Value}
    {fCopyRead : Addr} {odCopyRead anCopyRead : Option Addr} {slCopyRead : Array (Option Value)} {ocCopyRead kVCopyRead dcCopyRead pmCopyRead cdCopyRead ctCopyRead : Value} {fCopiesReadBy : Addr} {odCopiesReadBy anCopiesReadBy : Option Addr} {slCopiesReadBy : Array (Option Value)} {ocCopiesReadBy kVCopiesReadBy dcCopiesReadBy pmCopiesReadBy cdCopiesReadBy ctCopiesReadBy : Value} {fCopiesOf : Addr} {odCopiesOf anCopiesOf : Option Addr} {slCopiesOf : Array (Option Value)} {ocCopiesOf kVCopiesOf dcCopiesOf pmCopiesOf cdCopiesOf ctCopiesOf : Value}
    {fAreNodes : Addr} {odAreNodes anAreNodes : Option Addr} {slAreNodes : Array (Option Value)} {ocAreNodes kVAreNodes dcAreNodes pmAreNodes cdAreNodes ctAreNodes : Value} {fIsChild : Addr} {odIsChild anIsChild : Option Addr} {slIsChild : Array (Option Value)} {ocIsChild kVIsChild dcIsChild pmIsChild cdIsChild ctIsChild : Value} {fMayBeChildren : Addr} {odMayBeChildren anMayBeChildren : Option Addr} {slMayBeChildren : Array (Option Value)} {ocMayBeChildren kVMayBeChildren dcMayBeChildren pmMayBeChildren cdMayBeChildren ctMayBeChildren : Value}
    {fReadsNow : Addr} {odReadsNow anReadsNow : Option Addr} {slReadsNow : Array (Option Value)} {ocReadsNow kVReadsNow dcReadsNow pmReadsNow cdReadsNow ctReadsNow : Value} {fCostOfAll : Addr} {odCostOfAll anCostOfAll : Option Addr} {slCostOfAll : Array (Option Value)} {ocCostOfAll kVCostOfAll dcCostOfAll pmCostOfAll cdCostOfAll ctCostOfAll : Value} {fMisreadOf : Addr} {odMisreadOf anMisreadOf : Option Addr} {slMisreadOf : Array (Option Value)} {ocMisreadOf kVMisreadOf dcMisreadOf pmMisreadOf cdMisreadOf ctMisreadOf : Value}
    {fTruths : Addr} {odTruths anTruths : Option Addr} {slTruths : Array (Option Value)} {ocTruths kVTruths dcTruths pmTruths cdTruths ctTruths : Value} {fHeldOfLeaf : Addr} {odHeldOfLeaf anHeldOfLeaf : Option Addr} {slHeldOfLeaf : Array (Option Value)} {ocHeldOfLeaf kVHeldOfLeaf dcHeldOfLeaf pmHeldOfLeaf cdHeldOfLeaf ctHeldOfLeaf : Value} {fAllHeld : Addr} {odAllHeld anAllHeld : Option Addr} {slAllHeld : Array (Option Value)} {ocAllHeld kVAllHeld dcAllHeld pmAllHeld cdAllHeld ctAllHeld : Value}
    {fRightWins : Addr} {odRightWins anRightWins : Option Addr} {slRightWins : Array (Option Value)} {ocRightWins kVRightWins dcRightWins pmRightWins cdRightWins ctRightWins : Value} {fRightOf : Addr} {odRightOf anRightOf : Option Addr} {slRightOf : Array (Option Value)} {ocRightOf kVRightOf dcRightOf pmRightOf cdRightOf ctRightOf : Value} {fEndOf : Addr} {odEndOf anEndOf : Option Addr} {slEndOf : Array (Option Value)} {ocEndOf kVEndOf dcEndOf pmEndOf cdEndOf ctEndOf : Value}
    {fFraction : Addr} {odFraction anFraction : Option Addr} {slFraction : Array (Option Value)} {ocFraction kVFraction dcFraction pmFraction cdFraction ctFraction : Value} {fHearingInit : Addr} {odHearingInit anHearingInit : Option Addr} {slHearingInit : Array (Option Value)} {ocHearingInit kVHearingInit dcHearingInit pmHearingInit cdHearingInit ctHearingInit : Value} {fIsLuck : Addr} {odIsLuck anIsLuck : Option Addr} {slIsLuck : Array (Option Value)} {ocIsLuck kVIsLuck dcIsLuck pmIsLuck cdIsLuck ctIsLuck : Value}
    {fHoldHearing : Addr} {odHoldHearing anHoldHearing : Option Addr} {slHoldHearing : Array (Option Value)} {ocHoldHearing kVHoldHearing dcHoldHearing pmHoldHearing cdHoldHearing ctHoldHearing : Value} {fWellHeld : Addr} {odWellHeld anWellHeld : Option Addr} {slWellHeld : Array (Option Value)} {ocWellHeld kVWellHeld dcWellHeld pmWellHeld cdWellHeld ctWellHeld : Value} {fCostOfHearings : Addr} {odCostOfHearings anCostOfHearings : Option Addr} {slCostOfHearings : Array (Option Value)} {ocCostOfHearings kVCostOfHearings dcCostOfHearings pmCostOfHearings cdCostOfHearings ctCostOfHearings : Value}
    {fWrongTogether : Addr} {odWrongTogether anWrongTogether : Option Addr} {slWrongTogether : Array (Option Value)} {ocWrongTogether kVWrongTogether dcWrongTogether pmWrongTogether cdWrongTogether ctWrongTogether : Value} {fLeavesOf : Addr} {odLeavesOf anLeavesOf : Option Addr} {slLeavesOf : Array (Option Value)} {ocLeavesOf kVLeavesOf dcLeavesOf pmLeavesOf cdLeavesOf ctLeavesOf : Value} {fSetsOf : Addr} {odSetsOf anSetsOf : Option Addr} {slSetsOf : Array (Option Value)} {ocSetsOf kVSetsOf dcSetsOf pmSetsOf cdSetsOf ctSetsOf : Value}
    {fReadsOf : Addr} {odReadsOf anReadsOf : Option Addr} {slReadsOf : Array (Option Value)} {ocReadsOf kVReadsOf dcReadsOf pmReadsOf cdReadsOf ctReadsOf : Value} {fCheapestSet : Addr} {odCheapestSet anCheapestSet : Option Addr} {slCheapestSet : Array (Option Value)} {ocCheapestSet kVCheapestSet dcCheapestSet pmCheapestSet cdCheapestSet ctCheapestSet : Value} {fAreFair : Addr} {odAreFair anAreFair : Option Addr} {slAreFair : Array (Option Value)} {ocAreFair kVAreFair dcAreFair pmAreFair cdAreFair ctAreFair : Value}
    {fLeastStakes : Addr} {odLeastStakes anLeastStakes : Option Addr} {slLeastStakes : Array (Option Value)} {ocLeastStakes kVLeastStakes dcLeastStakes pmLeastStakes cdLeastStakes ctLeastStakes : Value} {fHouseInit : Addr} {odHouseInit anHouseInit : Option Addr} {slHouseInit : Array (Option Value)} {ocHouseInit kVHouseInit dcHouseInit pmHouseInit cdHouseInit ctHouseInit : Value} {fBegin : Addr} {odBegin anBegin : Option Addr} {slBegin : Array (Option Value)} {ocBegin kVBegin dcBegin pmBegin cdBegin ctBegin : Value}
    {fIsKept : Addr} {odIsKept anIsKept : Option Addr} {slIsKept : Array (Option Value)} {ocIsKept kVIsKept dcIsKept pmIsKept cdIsKept ctIsKept : Value} {fChange : Addr} {odChange anChange : Option Addr} {slChange : Array (Option Value)} {ocChange kVChange dcChange pmChange cdChange ctChange : Value} {fPutNode : Addr} {odPutNode anPutNode : Option Addr} {slPutNode : Array (Option Value)} {ocPutNode kVPutNode dcPutNode pmPutNode cdPutNode ctPutNode : Value}
    {fPutLeaf : Addr} {odPutLeaf anPutLeaf : Option Addr} {slPutLeaf : Array (Option Value)} {ocPutLeaf kVPutLeaf dcPutLeaf pmPutLeaf cdPutLeaf ctPutLeaf : Value} {fPutBranch : Addr} {odPutBranch anPutBranch : Option Addr} {slPutBranch : Array (Option Value)} {ocPutBranch kVPutBranch dcPutBranch pmPutBranch cdPutBranch ctPutBranch : Value} {fPutAllOf : Addr} {odPutAllOf anPutAllOf : Option Addr} {slPutAllOf : Array (Option Value)} {ocPutAllOf kVPutAllOf dcPutAllOf pmPutAllOf cdPutAllOf ctPutAllOf : Value}
    {fPutSomeOf : Addr} {odPutSomeOf anPutSomeOf : Option Addr} {slPutSomeOf : Array (Option Value)} {ocPutSomeOf kVPutSomeOf dcPutSomeOf pmPutSomeOf cdPutSomeOf ctPutSomeOf : Value} {fPopNode : Addr} {odPopNode anPopNode : Option Addr} {slPopNode : Array (Option Value)} {ocPopNode kVPopNode dcPopNode pmPopNode cdPopNode ctPopNode : Value} {fTellNode : Addr} {odTellNode anTellNode : Option Addr} {slTellNode : Array (Option Value)} {ocTellNode kVTellNode dcTellNode pmTellNode cdTellNode ctTellNode : Value}
    {fFlipLeaf : Addr} {odFlipLeaf anFlipLeaf : Option Addr} {slFlipLeaf : Array (Option Value)} {ocFlipLeaf kVFlipLeaf dcFlipLeaf pmFlipLeaf cdFlipLeaf ctFlipLeaf : Value} {fSetPrice : Addr} {odSetPrice anSetPrice : Option Addr} {slSetPrice : Array (Option Value)} {ocSetPrice kVSetPrice dcSetPrice pmSetPrice cdSetPrice ctSetPrice : Value} {fReadThrice : Addr} {odReadThrice anReadThrice : Option Addr} {slReadThrice : Array (Option Value)} {ocReadThrice kVReadThrice dcReadThrice pmReadThrice cdReadThrice ctReadThrice : Value}
    {fReadOnce : Addr} {odReadOnce anReadOnce : Option Addr} {slReadOnce : Array (Option Value)} {ocReadOnce kVReadOnce dcReadOnce pmReadOnce cdReadOnce ctReadOnce : Value} {fTellMisread : Addr} {odTellMisread anTellMisread : Option Addr} {slTellMisread : Array (Option Value)} {ocTellMisread kVTellMisread dcTellMisread pmTellMisread cdTellMisread ctTellMisread : Value} {fTellTruth : Addr} {odTellTruth anTellTruth : Option Addr} {slTellTruth : Array (Option Value)} {ocTellTruth kVTellTruth dcTellTruth pmTellTruth cdTellTruth ctTellTruth : Value}
    {fTellRight : Addr} {odTellRight anTellRight : Option Addr} {slTellRight : Array (Option Value)} {ocTellRight kVTellRight dcTellRight pmTellRight cdTellRight ctTellRight : Value} {fTellEnd : Addr} {odTellEnd anTellEnd : Option Addr} {slTellEnd : Array (Option Value)} {ocTellEnd kVTellEnd dcTellEnd pmTellEnd cdTellEnd ctTellEnd : Value} {fRefusalOfClaims : Addr} {odRefusalOfClaims anRefusalOfClaims : Option Addr} {slRefusalOfClaims : Array (Option Value)} {ocRefusalOfClaims kVRefusalOfClaims dcRefusalOfClaims pmRefusalOfClaims cdRefusalOfClaims ctRefusalOfClaims : Value}
    {fTellCheapest : Addr} {odTellCheapest anTellCheapest : Option Addr} {slTellCheapest : Array (Option Value)} {ocTellCheapest kVTellCheapest dcTellCheapest pmTellCheapest cdTellCheapest ctTellCheapest : Value} {fBuyLooks : Addr} {odBuyLooks anBuyLooks : Option Addr} {slBuyLooks : Array (Option Value)} {ocBuyLooks kVBuyLooks dcBuyLooks pmBuyLooks cdBuyLooks ctBuyLooks : Value} {fPutPromise : Addr} {odPutPromise anPutPromise : Option Addr} {slPutPromise : Array (Option Value)} {ocPutPromise kVPutPromise dcPutPromise pmPutPromise cdPutPromise ctPutPromise : Value}
    {fTakeBackPromise : Addr} {odTakeBackPromise anTakeBackPromise : Option Addr} {slTakeBackPromise : Array (Option Value)} {ocTakeBackPromise kVTakeBackPromise dcTakeBackPromise pmTakeBackPromise cdTakeBackPromise ctTakeBackPromise : Value} {fTellPromise : Addr} {odTellPromise anTellPromise : Option Addr} {slTellPromise : Array (Option Value)} {ocTellPromise kVTellPromise dcTellPromise pmTellPromise cdTellPromise ctTellPromise : Value} {fTellTightest : Addr} {odTellTightest anTellTightest : Option Addr} {slTellTightest : Array (Option Value)} {ocTellTightest kVTellTightest dcTellTightest pmTellTightest cdTellTightest ctTellTightest : Value}
    {fHear : Addr} {odHear anHear : Option Addr} {slHear : Array (Option Value)} {ocHear kVHear dcHear pmHear cdHear ctHear : Value} {fTellHearingAhead : Addr} {odTellHearingAhead anTellHearingAhead : Option Addr} {slTellHearingAhead : Array (Option Value)} {ocTellHearingAhead kVTellHearingAhead dcTellHearingAhead pmTellHearingAhead cdTellHearingAhead ctTellHearingAhead : Value} {fTellEntry : Addr} {odTellEntry anTellEntry : Option Addr} {slTellEntry : Array (Option Value)} {ocTellEntry kVTellEntry dcTellEntry pmTellEntry cdTellEntry ctTellEntry : Value}
    {fTellTally : Addr} {odTellTally anTellTally : Option Addr} {slTellTally : Array (Option Value)} {ocTellTally kVTellTally dcTellTally pmTellTally cdTellTally ctTellTally : Value} {fTellOwed : Addr} {odTellOwed anTellOwed : Option Addr} {slTellOwed : Array (Option Value)} {ocTellOwed kVTellOwed dcTellOwed pmTellOwed cdTellOwed ctTellOwed : Value} {fPayIn : Addr} {odPayIn anPayIn : Option Addr} {slPayIn : Array (Option Value)} {ocPayIn kVPayIn dcPayIn pmPayIn cdPayIn ctPayIn : Value}
    {fTellStakes : Addr} {odTellStakes anTellStakes : Option Addr} {slTellStakes : Array (Option Value)} {ocTellStakes kVTellStakes dcTellStakes pmTellStakes cdTellStakes ctTellStakes : Value} {fSplitCalls : Addr} {odSplitCalls anSplitCalls : Option Addr} {slSplitCalls : Array (Option Value)} {ocSplitCalls kVSplitCalls dcSplitCalls pmSplitCalls cdSplitCalls ctSplitCalls : Value} {fAnswerTo : Addr} {odAnswerTo anAnswerTo : Option Addr} {slAnswerTo : Array (Option Value)} {ocAnswerTo kVAnswerTo dcAnswerTo pmAnswerTo cdAnswerTo ctAnswerTo : Value}
    {fAnswers : Addr} {odAnswers anAnswers : Option Addr} {slAnswers : Array (Option Value)} {ocAnswers kVAnswers dcAnswers pmAnswers cdAnswers ctAnswers : Value} {aPLAIN_NUMBERS : Addr} {odPLAIN_NUMBERS : Option Addr} {itsPLAIN_NUMBERS : Array Value} {nPLAIN_NUMBERS : Nat} {slPLAIN_NUMBERS : Array (Option Value)} {aWITH_A_ROW : Addr} {odWITH_A_ROW : Option Addr} {itsWITH_A_ROW : Array Value} {nWITH_A_ROW : Nat} {slWITH_A_ROW : Array (Option Value)}
    {aABOUT_A_NODE : Addr} {odABOUT_A_NODE : Option Addr} {itsABOUT_A_NODE : Array Value} {nABOUT_A_NODE : Nat} {slABOUT_A_NODE : Array (Option Value)} {aANSWERED_BY : Addr} {odANSWERED_BY : Option Addr} {itsANSWERED_BY : Array Value} {nANSWERED_BY : Nat} {slANSWERED_BY : Array (Option Value)}
    (aLEAF : PySem.W.nsIn K mainGlobals "LEAF" = some (some (.int 0 tLEAF)))
    (aALL_OF : PySem.W.nsIn K mainGlobals "ALL_OF" = some (some (.int 1 tALL_OF)))
    (aSOME_OF : PySem.W.nsIn K mainGlobals "SOME_OF" = some (some (.int 2 tSOME_OF)))
    (aMOST_NODES : PySem.W.nsIn K mainGlobals "MOST_NODES" = some (some (.int 20 tMOST_NODES)))
    (aMOST_IN_ROW : PySem.W.nsIn K mainGlobals "MOST_IN_ROW" = some (some (.int 4 tMOST_IN_ROW)))
    (aWHOLE : PySem.W.nsIn K mainGlobals "WHOLE" = some (some (.int 1000000 tWHOLE)))
    (aHUNDREDTH : PySem.W.nsIn K mainGlobals "HUNDREDTH" = some (some (.int 10000 tHUNDREDTH)))
    (aMOST_LUCK : PySem.W.nsIn K mainGlobals "MOST_LUCK" = some (some (.int 1000 tMOST_LUCK)))
    (aMOST_STAKE : PySem.W.nsIn K mainGlobals "MOST_STAKE" = some (some (.int 100 tMOST_STAKE)))
    (aNO_SUCH : PySem.W.nsIn K mainGlobals "NO_SUCH" = some (some (.int (-2) tNO_SUCH)))
    (aNOTHING_THERE : PySem.W.nsIn K mainGlobals "NOTHING_THERE" = some (some (.int (-6) tNOTHING_THERE)))
    (aNOT_BEGUN : PySem.W.nsIn K mainGlobals "NOT_BEGUN" = some (some (.int (-11) tNOT_BEGUN)))
    (aSO_ALREADY : PySem.W.nsIn K mainGlobals "SO_ALREADY" = some (some (.int (-17) tSO_ALREADY)))
    (aTOO_LITTLE : PySem.W.nsIn K mainGlobals "TOO_LITTLE" = some (some (.int (-19) tTOO_LITTLE)))
    (aNOT_AS_TOLD : PySem.W.nsIn K mainGlobals "NOT_AS_TOLD" = some (some (.int (-22) tNOT_AS_TOLD)))
    (aFULL : PySem.W.nsIn K mainGlobals "FULL" = some (some (.int (-28) tFULL)))
    (aNOT_KEPT : PySem.W.nsIn K mainGlobals "NOT_KEPT" = some (some (.int (-30) tNOT_KEPT)))
    (aNO_FIT : PySem.W.nsIn K mainGlobals "NO_FIT" = some (some (.int (-33) tNO_FIT)))
    (aMOST_AT_ONCE : PySem.W.nsIn K mainGlobals "MOST_AT_ONCE" = some (some (.int 10000 tMOST_AT_ONCE)))
    (aMOST_IN_PURSE : PySem.W.nsIn K mainGlobals "MOST_IN_PURSE" = some (some (.int 100000 tMOST_IN_PURSE)))
    (aMOST_HUNDREDTHS : PySem.W.nsIn K mainGlobals "MOST_HUNDREDTHS" = some (some (.int 100 tMOST_HUNDREDTHS)))
    (aMOST_PRICE : PySem.W.nsIn K mainGlobals "MOST_PRICE" = some (some (.int 100 tMOST_PRICE)))
    (aMOST_LEAVES : PySem.W.nsIn K mainGlobals "MOST_LEAVES" = some (some (.int 10 tMOST_LEAVES)))
    (aMOST_PROMISES : PySem.W.nsIn K mainGlobals "MOST_PROMISES" = some (some (.int 4 tMOST_PROMISES)))
    (aMOST_HEARINGS : PySem.W.nsIn K mainGlobals "MOST_HEARINGS" = some (some (.int 20 tMOST_HEARINGS)))
    (aMOST_GAIN : PySem.W.nsIn K mainGlobals "MOST_GAIN" = some (some (.int 1000 tMOST_GAIN)))
    (aBEGIN : PySem.W.nsIn K mainGlobals "BEGIN" = some (some (.int 0 tBEGIN)))
    (zany : PySem.W.nsIn K mainGlobals "any" = some none)
    (zall : PySem.W.nsIn K mainGlobals "all" = some none)
    (zmin : PySem.W.nsIn K mainGlobals "min" = some none)
    (zmax : PySem.W.nsIn K mainGlobals "max" = some none)
    (zsum : PySem.W.nsIn K mainGlobals "sum" = some none)
    (zlen : PySem.W.nsIn K mainGlobals "len" = some none)
    (zset : PySem.W.nsIn K mainGlobals "set" = some none)
    (zlist : PySem.W.nsIn K mainGlobals "list" = some none)
    (zrange : PySem.W.nsIn K mainGlobals "range" = some none)
    (zenumerate : PySem.W.nsIn K mainGlobals "enumerate" = some none)
    (zsorted : PySem.W.nsIn K mainGlobals "sorted" = some none)
    (zzip : PySem.W.nsIn K mainGlobals "zip" = some none)
    (aNode : PySem.W.nsIn K mainGlobals "Node" = some (some (.ref cNode)))
    (aHearing : PySem.W.nsIn K mainGlobals "Hearing" = some (some (.ref cHearing)))
    (aHouse : PySem.W.nsIn K mainGlobals "House" = some (some (.ref cHouse)))
    (aNodeInit : PySem.W.findIn K (.ref cNode) "__init__" = some (some (.ref fNodeInit)))
    (iNodeInit : PySem.W.isFn K (.ref fNodeInit) = true)
    (lNodeInit : K.lookup fNodeInit = some ⟨ocNodeInit, odNodeInit, .func (PySem.W.fnOf "__init__" "Node.__init__" (defArgs sNodeInit) (defBody sNodeInit) (defScope sNodeInit) .none kVNodeInit dcNodeInit pmNodeInit anNodeInit cdNodeInit ctNodeInit), slNodeInit⟩)
    (eNodeInit : PySem.W.codeIn K cdNodeInit "Node.__init__" = true)
    (kNodeInit : PySem.W.keepIn K (.ref fNodeInit) = true)
    (aNewLeaf : PySem.W.nsIn K mainGlobals "new_leaf" = some (some (.ref fNewLeaf)))
    (lNewLeaf : K.lookup fNewLeaf = some ⟨ocNewLeaf, odNewLeaf, .func (PySem.W.fnOf "new_leaf" "new_leaf" (defArgs sNewLeaf) (defBody sNewLeaf) (defScope sNewLeaf) .none kVNewLeaf dcNewLeaf pmNewLeaf anNewLeaf cdNewLeaf ctNewLeaf), slNewLeaf⟩)
    (eNewLeaf : PySem.W.codeIn K cdNewLeaf "new_leaf" = true)
    (kNewLeaf : PySem.W.keepIn K (.ref fNewLeaf) = true)
    (aNewBranch : PySem.W.nsIn K mainGlobals "new_branch" = some (some (.ref fNewBranch)))
    (lNewBranch : K.lookup fNewBranch = some ⟨ocNewBranch, odNewBranch, .func (PySem.W.fnOf "new_branch" "new_branch" (defArgs sNewBranch) (defBody sNewBranch) (defScope sNewBranch) .none kVNewBranch dcNewBranch pmNewBranch anNewBranch cdNewBranch ctNewBranch), slNewBranch⟩)
    (eNewBranch : PySem.W.codeIn K cdNewBranch "new_branch" = true)
    (kNewBranch : PySem.W.keepIn K (.ref fNewBranch) = true)
    (aCopyRead : PySem.W.nsIn K mainGlobals "copy_read" = some (some (.ref fCopyRead)))
    (lCopyRead : K.lookup fCopyRead = some ⟨ocCopyRead, odCopyRead, .func (PySem.W.fnOf "copy_read" "copy_read" (defArgs sCopyRead) (defBody sCopyRead) (defScope sCopyRead) .none kVCopyRead dcCopyRead pmCopyRead anCopyRead cdCopyRead ctCopyRead), slCopyRead⟩)
    (eCopyRead : PySem.W.codeIn K cdCopyRead "copy_read" = true)
    (kCopyRead : PySem.W.keepIn K (.ref fCopyRead) = true)
    (aCopiesReadBy : PySem.W.nsIn K mainGlobals "copies_read_by" = some (some (.ref fCopiesReadBy)))
    (lCopiesReadBy : K.lookup fCopiesReadBy = some ⟨ocCopiesReadBy, odCopiesReadBy, .func (PySem.W.fnOf "copies_read_by" "copies_read_by" (defArgs sCopiesReadBy) (defBody sCopiesReadBy) (defScope sCopiesReadBy) .none kVCopiesReadBy dcCopiesReadBy pmCopiesReadBy anCopiesReadBy cdCopiesReadBy ctCopiesReadBy), slCopiesReadBy⟩)
    (eCopiesReadBy : PySem.W.codeIn K cdCopiesReadBy "copies_read_by" = true)
    (kCopiesReadBy : PySem.W.keepIn K (.ref fCopiesReadBy) = true)
    (aCopiesOf : PySem.W.nsIn K mainGlobals "copies_of" = some (some (.ref fCopiesOf)))
    (lCopiesOf : K.lookup fCopiesOf = some ⟨ocCopiesOf, odCopiesOf, .func (PySem.W.fnOf "copies_of" "copies_of" (defArgs sCopiesOf) (defBody sCopiesOf) (defScope sCopiesOf) .none kVCopiesOf dcCopiesOf pmCopiesOf anCopiesOf cdCopiesOf ctCopiesOf), slCopiesOf⟩)
    (eCopiesOf : PySem.W.codeIn K cdCopiesOf "copies_of" = true)
    (kCopiesOf : PySem.W.keepIn K (.ref fCopiesOf) = true)
    (aAreNodes : PySem.W.nsIn K mainGlobals "are_nodes" = some (some (.ref fAreNodes)))
    (lAreNodes : K.lookup fAreNodes = some ⟨ocAreNodes, odAreNodes, .func (PySem.W.fnOf "are_nodes" "are_nodes" (defArgs sAreNodes) (defBody sAreNodes) (defScope sAreNodes) .none kVAreNodes dcAreNodes pmAreNodes anAreNodes cdAreNodes ctAreNodes), slAreNodes⟩)
    (eAreNodes : PySem.W.codeIn K cdAreNodes "are_nodes" = true)
    (kAreNodes : PySem.W.keepIn K (.ref fAreNodes) = true)
    (aIsChild : PySem.W.nsIn K mainGlobals "is_child" = some (some (.ref fIsChild)))
    (lIsChild : K.lookup fIsChild = some ⟨ocIsChild, odIsChild, .func (PySem.W.fnOf "is_child" "is_child" (defArgs sIsChild) (defBody sIsChild) (defScope sIsChild) .none kVIsChild dcIsChild pmIsChild anIsChild cdIsChild ctIsChild), slIsChild⟩)
    (eIsChild : PySem.W.codeIn K cdIsChild "is_child" = true)
    (kIsChild : PySem.W.keepIn K (.ref fIsChild) = true)
    (aMayBeChildren : PySem.W.nsIn K mainGlobals "may_be_children" = some (some (.ref fMayBeChildren)))
    (lMayBeChildren : K.lookup fMayBeChildren = some ⟨ocMayBeChildren, odMayBeChildren, .func (PySem.W.fnOf "may_be_children" "may_be_children" (defArgs sMayBeChildren) (defBody sMayBeChildren) (defScope sMayBeChildren) .none kVMayBeChildren dcMayBeChildren pmMayBeChildren anMayBeChildren cdMayBeChildren ctMayBeChildren), slMayBeChildren⟩)
    (eMayBeChildren : PySem.W.codeIn K cdMayBeChildren "may_be_children" = true)
    (kMayBeChildren : PySem.W.keepIn K (.ref fMayBeChildren) = true)
    (aReadsNow : PySem.W.nsIn K mainGlobals "reads_now" = some (some (.ref fReadsNow)))
    (lReadsNow : K.lookup fReadsNow = some ⟨ocReadsNow, odReadsNow, .func (PySem.W.fnOf "reads_now" "reads_now" (defArgs sReadsNow) (defBody sReadsNow) (defScope sReadsNow) .none kVReadsNow dcReadsNow pmReadsNow anReadsNow cdReadsNow ctReadsNow), slReadsNow⟩)
    (eReadsNow : PySem.W.codeIn K cdReadsNow "reads_now" = true)
    (kReadsNow : PySem.W.keepIn K (.ref fReadsNow) = true)
    (aCostOfAll : PySem.W.nsIn K mainGlobals "cost_of_all" = some (some (.ref fCostOfAll)))
    (lCostOfAll : K.lookup fCostOfAll = some ⟨ocCostOfAll, odCostOfAll, .func (PySem.W.fnOf "cost_of_all" "cost_of_all" (defArgs sCostOfAll) (defBody sCostOfAll) (defScope sCostOfAll) .none kVCostOfAll dcCostOfAll pmCostOfAll anCostOfAll cdCostOfAll ctCostOfAll), slCostOfAll⟩)
    (eCostOfAll : PySem.W.codeIn K cdCostOfAll "cost_of_all" = true)
    (kCostOfAll : PySem.W.keepIn K (.ref fCostOfAll) = true)
    (aMisreadOf : PySem.W.nsIn K mainGlobals "misread_of" = some (some (.ref fMisreadOf)))
    (lMisreadOf : K.lookup fMisreadOf = some ⟨ocMisreadOf, odMisreadOf, .func (PySem.W.fnOf "misread_of" "misread_of" (defArgs sMisreadOf) (defBody sMisreadOf) (defScope sMisreadOf) .none kVMisreadOf dcMisreadOf pmMisreadOf anMisreadOf cdMisreadOf ctMisreadOf), slMisreadOf⟩)
    (eMisreadOf : PySem.W.codeIn K cdMisreadOf "misread_of" = true)
    (kMisreadOf : PySem.W.keepIn K (.ref fMisreadOf) = true)
    (aTruths : PySem.W.nsIn K mainGlobals "truths" = some (some (.ref fTruths)))
    (lTruths : K.lookup fTruths = some ⟨ocTruths, odTruths, .func (PySem.W.fnOf "truths" "truths" (defArgs sTruths) (defBody sTruths) (defScope sTruths) .none kVTruths dcTruths pmTruths anTruths cdTruths ctTruths), slTruths⟩)
    (eTruths : PySem.W.codeIn K cdTruths "truths" = true)
    (kTruths : PySem.W.keepIn K (.ref fTruths) = true)
    (aHeldOfLeaf : PySem.W.nsIn K mainGlobals "held_of_leaf" = some (some (.ref fHeldOfLeaf)))
    (lHeldOfLeaf : K.lookup fHeldOfLeaf = some ⟨ocHeldOfLeaf, odHeldOfLeaf, .func (PySem.W.fnOf "held_of_leaf" "held_of_leaf" (defArgs sHeldOfLeaf) (defBody sHeldOfLeaf) (defScope sHeldOfLeaf) .none kVHeldOfLeaf dcHeldOfLeaf pmHeldOfLeaf anHeldOfLeaf cdHeldOfLeaf ctHeldOfLeaf), slHeldOfLeaf⟩)
    (eHeldOfLeaf : PySem.W.codeIn K cdHeldOfLeaf "held_of_leaf" = true)
    (kHeldOfLeaf : PySem.W.keepIn K (.ref fHeldOfLeaf) = true)
    (aAllHeld : PySem.W.nsIn K mainGlobals "all_held" = some (some (.ref fAllHeld)))
    (lAllHeld : K.lookup fAllHeld = some ⟨ocAllHeld, odAllHeld, .func (PySem.W.fnOf "all_held" "all_held" (defArgs sAllHeld) (defBody sAllHeld) (defScope sAllHeld) .none kVAllHeld dcAllHeld pmAllHeld anAllHeld cdAllHeld ctAllHeld), slAllHeld⟩)
    (eAllHeld : PySem.W.codeIn K cdAllHeld "all_held" = true)
    (kAllHeld : PySem.W.keepIn K (.ref fAllHeld) = true)
    (aRightWins : PySem.W.nsIn K mainGlobals "right_wins" = some (some (.ref fRightWins)))
    (lRightWins : K.lookup fRightWins = some ⟨ocRightWins, odRightWins, .func (PySem.W.fnOf "right_wins" "right_wins" (defArgs sRightWins) (defBody sRightWins) (defScope sRightWins) .none kVRightWins dcRightWins pmRightWins anRightWins cdRightWins ctRightWins), slRightWins⟩)
    (eRightWins : PySem.W.codeIn K cdRightWins "right_wins" = true)
    (kRightWins : PySem.W.keepIn K (.ref fRightWins) = true)
    (aRightOf : PySem.W.nsIn K mainGlobals "right_of" = some (some (.ref fRightOf)))
    (lRightOf : K.lookup fRightOf = some ⟨ocRightOf, odRightOf, .func (PySem.W.fnOf "right_of" "right_of" (defArgs sRightOf) (defBody sRightOf) (defScope sRightOf) .none kVRightOf dcRightOf pmRightOf anRightOf cdRightOf ctRightOf), slRightOf⟩)
    (eRightOf : PySem.W.codeIn K cdRightOf "right_of" = true)
    (kRightOf : PySem.W.keepIn K (.ref fRightOf) = true)
    (aEndOf : PySem.W.nsIn K mainGlobals "end_of" = some (some (.ref fEndOf)))
    (lEndOf : K.lookup fEndOf = some ⟨ocEndOf, odEndOf, .func (PySem.W.fnOf "end_of" "end_of" (defArgs sEndOf) (defBody sEndOf) (defScope sEndOf) .none kVEndOf dcEndOf pmEndOf anEndOf cdEndOf ctEndOf), slEndOf⟩)
    (eEndOf : PySem.W.codeIn K cdEndOf "end_of" = true)
    (kEndOf : PySem.W.keepIn K (.ref fEndOf) = true)
    (aFraction : PySem.W.nsIn K mainGlobals "fraction" = some (some (.ref fFraction)))
    (lFraction : K.lookup fFraction = some ⟨ocFraction, odFraction, .func (PySem.W.fnOf "fraction" "fraction" (defArgs sFraction) (defBody sFraction) (defScope sFraction) .none kVFraction dcFraction pmFraction anFraction cdFraction ctFraction), slFraction⟩)
    (eFraction : PySem.W.codeIn K cdFraction "fraction" = true)
    (kFraction : PySem.W.keepIn K (.ref fFraction) = true)
    (aHearingInit : PySem.W.findIn K (.ref cHearing) "__init__" = some (some (.ref fHearingInit)))
    (iHearingInit : PySem.W.isFn K (.ref fHearingInit) = true)
    (lHearingInit : K.lookup fHearingInit = some ⟨ocHearingInit, odHearingInit, .func (PySem.W.fnOf "__init__" "Hearing.__init__" (defArgs sHearingInit) (defBody sHearingInit) (defScope sHearingInit) .none kVHearingInit dcHearingInit pmHearingInit anHearingInit cdHearingInit ctHearingInit), slHearingInit⟩)
    (eHearingInit : PySem.W.codeIn K cdHearingInit "Hearing.__init__" = true)
    (kHearingInit : PySem.W.keepIn K (.ref fHearingInit) = true)
    (aIsLuck : PySem.W.nsIn K mainGlobals "is_luck" = some (some (.ref fIsLuck)))
    (lIsLuck : K.lookup fIsLuck = some ⟨ocIsLuck, odIsLuck, .func (PySem.W.fnOf "is_luck" "is_luck" (defArgs sIsLuck) (defBody sIsLuck) (defScope sIsLuck) .none kVIsLuck dcIsLuck pmIsLuck anIsLuck cdIsLuck ctIsLuck), slIsLuck⟩)
    (eIsLuck : PySem.W.codeIn K cdIsLuck "is_luck" = true)
    (kIsLuck : PySem.W.keepIn K (.ref fIsLuck) = true)
    (aHoldHearing : PySem.W.nsIn K mainGlobals "hold_hearing" = some (some (.ref fHoldHearing)))
    (lHoldHearing : K.lookup fHoldHearing = some ⟨ocHoldHearing, odHoldHearing, .func (PySem.W.fnOf "hold_hearing" "hold_hearing" (defArgs sHoldHearing) (defBody sHoldHearing) (defScope sHoldHearing) .none kVHoldHearing dcHoldHearing pmHoldHearing anHoldHearing cdHoldHearing ctHoldHearing), slHoldHearing⟩)
    (eHoldHearing : PySem.W.codeIn K cdHoldHearing "hold_hearing" = true)
    (kHoldHearing : PySem.W.keepIn K (.ref fHoldHearing) = true)
    (aWellHeld : PySem.W.nsIn K mainGlobals "well_held" = some (some (.ref fWellHeld)))
    (lWellHeld : K.lookup fWellHeld = some ⟨ocWellHeld, odWellHeld, .func (PySem.W.fnOf "well_held" "well_held" (defArgs sWellHeld) (defBody sWellHeld) (defScope sWellHeld) .none kVWellHeld dcWellHeld pmWellHeld anWellHeld cdWellHeld ctWellHeld), slWellHeld⟩)
    (eWellHeld : PySem.W.codeIn K cdWellHeld "well_held" = true)
    (kWellHeld : PySem.W.keepIn K (.ref fWellHeld) = true)
    (aCostOfHearings : PySem.W.nsIn K mainGlobals "cost_of_hearings" = some (some (.ref fCostOfHearings)))
    (lCostOfHearings : K.lookup fCostOfHearings = some ⟨ocCostOfHearings, odCostOfHearings, .func (PySem.W.fnOf "cost_of_hearings" "cost_of_hearings" (defArgs sCostOfHearings) (defBody sCostOfHearings) (defScope sCostOfHearings) .none kVCostOfHearings dcCostOfHearings pmCostOfHearings anCostOfHearings cdCostOfHearings ctCostOfHearings), slCostOfHearings⟩)
    (eCostOfHearings : PySem.W.codeIn K cdCostOfHearings "cost_of_hearings" = true)
    (kCostOfHearings : PySem.W.keepIn K (.ref fCostOfHearings) = true)
    (aWrongTogether : PySem.W.nsIn K mainGlobals "wrong_together" = some (some (.ref fWrongTogether)))
    (lWrongTogether : K.lookup fWrongTogether = some ⟨ocWrongTogether, odWrongTogether, .func (PySem.W.fnOf "wrong_together" "wrong_together" (defArgs sWrongTogether) (defBody sWrongTogether) (defScope sWrongTogether) .none kVWrongTogether dcWrongTogether pmWrongTogether anWrongTogether cdWrongTogether ctWrongTogether), slWrongTogether⟩)
    (eWrongTogether : PySem.W.codeIn K cdWrongTogether "wrong_together" = true)
    (kWrongTogether : PySem.W.keepIn K (.ref fWrongTogether) = true)
    (aLeavesOf : PySem.W.nsIn K mainGlobals "leaves_of" = some (some (.ref fLeavesOf)))
    (lLeavesOf : K.lookup fLeavesOf = some ⟨ocLeavesOf, odLeavesOf, .func (PySem.W.fnOf "leaves_of" "leaves_of" (defArgs sLeavesOf) (defBody sLeavesOf) (defScope sLeavesOf) .none kVLeavesOf dcLeavesOf pmLeavesOf anLeavesOf cdLeavesOf ctLeavesOf), slLeavesOf⟩)
    (eLeavesOf : PySem.W.codeIn K cdLeavesOf "leaves_of" = true)
    (kLeavesOf : PySem.W.keepIn K (.ref fLeavesOf) = true)
    (aSetsOf : PySem.W.nsIn K mainGlobals "sets_of" = some (some (.ref fSetsOf)))
    (lSetsOf : K.lookup fSetsOf = some ⟨ocSetsOf, odSetsOf, .func (PySem.W.fnOf "sets_of" "sets_of" (defArgs sSetsOf) (defBody sSetsOf) (defScope sSetsOf) .none kVSetsOf dcSetsOf pmSetsOf anSetsOf cdSetsOf ctSetsOf), slSetsOf⟩)
    (eSetsOf : PySem.W.codeIn K cdSetsOf "sets_of" = true)
    (kSetsOf : PySem.W.keepIn K (.ref fSetsOf) = true)
    (aReadsOf : PySem.W.nsIn K mainGlobals "reads_of" = some (some (.ref fReadsOf)))
    (lReadsOf : K.lookup fReadsOf = some ⟨ocReadsOf, odReadsOf, .func (PySem.W.fnOf "reads_of" "reads_of" (defArgs sReadsOf) (defBody sReadsOf) (defScope sReadsOf) .none kVReadsOf dcReadsOf pmReadsOf anReadsOf cdReadsOf ctReadsOf), slReadsOf⟩)
    (eReadsOf : PySem.W.codeIn K cdReadsOf "reads_of" = true)
    (kReadsOf : PySem.W.keepIn K (.ref fReadsOf) = true)
    (aCheapestSet : PySem.W.nsIn K mainGlobals "cheapest_set" = some (some (.ref fCheapestSet)))
    (lCheapestSet : K.lookup fCheapestSet = some ⟨ocCheapestSet, odCheapestSet, .func (PySem.W.fnOf "cheapest_set" "cheapest_set" (defArgs sCheapestSet) (defBody sCheapestSet) (defScope sCheapestSet) .none kVCheapestSet dcCheapestSet pmCheapestSet anCheapestSet cdCheapestSet ctCheapestSet), slCheapestSet⟩)
    (eCheapestSet : PySem.W.codeIn K cdCheapestSet "cheapest_set" = true)
    (kCheapestSet : PySem.W.keepIn K (.ref fCheapestSet) = true)
    (aAreFair : PySem.W.nsIn K mainGlobals "are_fair" = some (some (.ref fAreFair)))
    (lAreFair : K.lookup fAreFair = some ⟨ocAreFair, odAreFair, .func (PySem.W.fnOf "are_fair" "are_fair" (defArgs sAreFair) (defBody sAreFair) (defScope sAreFair) .none kVAreFair dcAreFair pmAreFair anAreFair cdAreFair ctAreFair), slAreFair⟩)
    (eAreFair : PySem.W.codeIn K cdAreFair "are_fair" = true)
    (kAreFair : PySem.W.keepIn K (.ref fAreFair) = true)
    (aLeastStakes : PySem.W.nsIn K mainGlobals "least_stakes" = some (some (.ref fLeastStakes)))
    (lLeastStakes : K.lookup fLeastStakes = some ⟨ocLeastStakes, odLeastStakes, .func (PySem.W.fnOf "least_stakes" "least_stakes" (defArgs sLeastStakes) (defBody sLeastStakes) (defScope sLeastStakes) .none kVLeastStakes dcLeastStakes pmLeastStakes anLeastStakes cdLeastStakes ctLeastStakes), slLeastStakes⟩)
    (eLeastStakes : PySem.W.codeIn K cdLeastStakes "least_stakes" = true)
    (kLeastStakes : PySem.W.keepIn K (.ref fLeastStakes) = true)
    (aHouseInit : PySem.W.findIn K (.ref cHouse) "__init__" = some (some (.ref fHouseInit)))
    (iHouseInit : PySem.W.isFn K (.ref fHouseInit) = true)
    (lHouseInit : K.lookup fHouseInit = some ⟨ocHouseInit, odHouseInit, .func (PySem.W.fnOf "__init__" "House.__init__" (defArgs sHouseInit) (defBody sHouseInit) (defScope sHouseInit) .none kVHouseInit dcHouseInit pmHouseInit anHouseInit cdHouseInit ctHouseInit), slHouseInit⟩)
    (eHouseInit : PySem.W.codeIn K cdHouseInit "House.__init__" = true)
    (kHouseInit : PySem.W.keepIn K (.ref fHouseInit) = true)
    (aBegin : PySem.W.nsIn K mainGlobals "begin" = some (some (.ref fBegin)))
    (lBegin : K.lookup fBegin = some ⟨ocBegin, odBegin, .func (PySem.W.fnOf "begin" "begin" (defArgs sBegin) (defBody sBegin) (defScope sBegin) .none kVBegin dcBegin pmBegin anBegin cdBegin ctBegin), slBegin⟩)
    (eBegin : PySem.W.codeIn K cdBegin "begin" = true)
    (kBegin : PySem.W.keepIn K (.ref fBegin) = true)
    (aIsKept : PySem.W.nsIn K mainGlobals "is_kept" = some (some (.ref fIsKept)))
    (lIsKept : K.lookup fIsKept = some ⟨ocIsKept, odIsKept, .func (PySem.W.fnOf "is_kept" "is_kept" (defArgs sIsKept) (defBody sIsKept) (defScope sIsKept) .none kVIsKept dcIsKept pmIsKept anIsKept cdIsKept ctIsKept), slIsKept⟩)
    (eIsKept : PySem.W.codeIn K cdIsKept "is_kept" = true)
    (kIsKept : PySem.W.keepIn K (.ref fIsKept) = true)
    (aChange : PySem.W.nsIn K mainGlobals "change" = some (some (.ref fChange)))
    (lChange : K.lookup fChange = some ⟨ocChange, odChange, .func (PySem.W.fnOf "change" "change" (defArgs sChange) (defBody sChange) (defScope sChange) .none kVChange dcChange pmChange anChange cdChange ctChange), slChange⟩)
    (eChange : PySem.W.codeIn K cdChange "change" = true)
    (kChange : PySem.W.keepIn K (.ref fChange) = true)
    (aPutNode : PySem.W.nsIn K mainGlobals "put_node" = some (some (.ref fPutNode)))
    (lPutNode : K.lookup fPutNode = some ⟨ocPutNode, odPutNode, .func (PySem.W.fnOf "put_node" "put_node" (defArgs sPutNode) (defBody sPutNode) (defScope sPutNode) .none kVPutNode dcPutNode pmPutNode anPutNode cdPutNode ctPutNode), slPutNode⟩)
    (ePutNode : PySem.W.codeIn K cdPutNode "put_node" = true)
    (kPutNode : PySem.W.keepIn K (.ref fPutNode) = true)
    (aPutLeaf : PySem.W.nsIn K mainGlobals "put_leaf" = some (some (.ref fPutLeaf)))
    (lPutLeaf : K.lookup fPutLeaf = some ⟨ocPutLeaf, odPutLeaf, .func (PySem.W.fnOf "put_leaf" "put_leaf" (defArgs sPutLeaf) (defBody sPutLeaf) (defScope sPutLeaf) .none kVPutLeaf dcPutLeaf pmPutLeaf anPutLeaf cdPutLeaf ctPutLeaf), slPutLeaf⟩)
    (ePutLeaf : PySem.W.codeIn K cdPutLeaf "put_leaf" = true)
    (kPutLeaf : PySem.W.keepIn K (.ref fPutLeaf) = true)
    (aPutBranch : PySem.W.nsIn K mainGlobals "put_branch" = some (some (.ref fPutBranch)))
    (lPutBranch : K.lookup fPutBranch = some ⟨ocPutBranch, odPutBranch, .func (PySem.W.fnOf "put_branch" "put_branch" (defArgs sPutBranch) (defBody sPutBranch) (defScope sPutBranch) .none kVPutBranch dcPutBranch pmPutBranch anPutBranch cdPutBranch ctPutBranch), slPutBranch⟩)
    (ePutBranch : PySem.W.codeIn K cdPutBranch "put_branch" = true)
    (kPutBranch : PySem.W.keepIn K (.ref fPutBranch) = true)
    (aPutAllOf : PySem.W.nsIn K mainGlobals "put_all_of" = some (some (.ref fPutAllOf)))
    (lPutAllOf : K.lookup fPutAllOf = some ⟨ocPutAllOf, odPutAllOf, .func (PySem.W.fnOf "put_all_of" "put_all_of" (defArgs sPutAllOf) (defBody sPutAllOf) (defScope sPutAllOf) .none kVPutAllOf dcPutAllOf pmPutAllOf anPutAllOf cdPutAllOf ctPutAllOf), slPutAllOf⟩)
    (ePutAllOf : PySem.W.codeIn K cdPutAllOf "put_all_of" = true)
    (kPutAllOf : PySem.W.keepIn K (.ref fPutAllOf) = true)
    (aPutSomeOf : PySem.W.nsIn K mainGlobals "put_some_of" = some (some (.ref fPutSomeOf)))
    (lPutSomeOf : K.lookup fPutSomeOf = some ⟨ocPutSomeOf, odPutSomeOf, .func (PySem.W.fnOf "put_some_of" "put_some_of" (defArgs sPutSomeOf) (defBody sPutSomeOf) (defScope sPutSomeOf) .none kVPutSomeOf dcPutSomeOf pmPutSomeOf anPutSomeOf cdPutSomeOf ctPutSomeOf), slPutSomeOf⟩)
    (ePutSomeOf : PySem.W.codeIn K cdPutSomeOf "put_some_of" = true)
    (kPutSomeOf : PySem.W.keepIn K (.ref fPutSomeOf) = true)
    (aPopNode : PySem.W.nsIn K mainGlobals "pop_node" = some (some (.ref fPopNode)))
    (lPopNode : K.lookup fPopNode = some ⟨ocPopNode, odPopNode, .func (PySem.W.fnOf "pop_node" "pop_node" (defArgs sPopNode) (defBody sPopNode) (defScope sPopNode) .none kVPopNode dcPopNode pmPopNode anPopNode cdPopNode ctPopNode), slPopNode⟩)
    (ePopNode : PySem.W.codeIn K cdPopNode "pop_node" = true)
    (kPopNode : PySem.W.keepIn K (.ref fPopNode) = true)
    (aTellNode : PySem.W.nsIn K mainGlobals "tell_node" = some (some (.ref fTellNode)))
    (lTellNode : K.lookup fTellNode = some ⟨ocTellNode, odTellNode, .func (PySem.W.fnOf "tell_node" "tell_node" (defArgs sTellNode) (defBody sTellNode) (defScope sTellNode) .none kVTellNode dcTellNode pmTellNode anTellNode cdTellNode ctTellNode), slTellNode⟩)
    (eTellNode : PySem.W.codeIn K cdTellNode "tell_node" = true)
    (kTellNode : PySem.W.keepIn K (.ref fTellNode) = true)
    (aFlipLeaf : PySem.W.nsIn K mainGlobals "flip_leaf" = some (some (.ref fFlipLeaf)))
    (lFlipLeaf : K.lookup fFlipLeaf = some ⟨ocFlipLeaf, odFlipLeaf, .func (PySem.W.fnOf "flip_leaf" "flip_leaf" (defArgs sFlipLeaf) (defBody sFlipLeaf) (defScope sFlipLeaf) .none kVFlipLeaf dcFlipLeaf pmFlipLeaf anFlipLeaf cdFlipLeaf ctFlipLeaf), slFlipLeaf⟩)
    (eFlipLeaf : PySem.W.codeIn K cdFlipLeaf "flip_leaf" = true)
    (kFlipLeaf : PySem.W.keepIn K (.ref fFlipLeaf) = true)
    (aSetPrice : PySem.W.nsIn K mainGlobals "set_price" = some (some (.ref fSetPrice)))
    (lSetPrice : K.lookup fSetPrice = some ⟨ocSetPrice, odSetPrice, .func (PySem.W.fnOf "set_price" "set_price" (defArgs sSetPrice) (defBody sSetPrice) (defScope sSetPrice) .none kVSetPrice dcSetPrice pmSetPrice anSetPrice cdSetPrice ctSetPrice), slSetPrice⟩)
    (eSetPrice : PySem.W.codeIn K cdSetPrice "set_price" = true)
    (kSetPrice : PySem.W.keepIn K (.ref fSetPrice) = true)
    (aReadThrice : PySem.W.nsIn K mainGlobals "read_thrice" = some (some (.ref fReadThrice)))
    (lReadThrice : K.lookup fReadThrice = some ⟨ocReadThrice, odReadThrice, .func (PySem.W.fnOf "read_thrice" "read_thrice" (defArgs sReadThrice) (defBody sReadThrice) (defScope sReadThrice) .none kVReadThrice dcReadThrice pmReadThrice anReadThrice cdReadThrice ctReadThrice), slReadThrice⟩)
    (eReadThrice : PySem.W.codeIn K cdReadThrice "read_thrice" = true)
    (kReadThrice : PySem.W.keepIn K (.ref fReadThrice) = true)
    (aReadOnce : PySem.W.nsIn K mainGlobals "read_once" = some (some (.ref fReadOnce)))
    (lReadOnce : K.lookup fReadOnce = some ⟨ocReadOnce, odReadOnce, .func (PySem.W.fnOf "read_once" "read_once" (defArgs sReadOnce) (defBody sReadOnce) (defScope sReadOnce) .none kVReadOnce dcReadOnce pmReadOnce anReadOnce cdReadOnce ctReadOnce), slReadOnce⟩)
    (eReadOnce : PySem.W.codeIn K cdReadOnce "read_once" = true)
    (kReadOnce : PySem.W.keepIn K (.ref fReadOnce) = true)
    (aTellMisread : PySem.W.nsIn K mainGlobals "tell_misread" = some (some (.ref fTellMisread)))
    (lTellMisread : K.lookup fTellMisread = some ⟨ocTellMisread, odTellMisread, .func (PySem.W.fnOf "tell_misread" "tell_misread" (defArgs sTellMisread) (defBody sTellMisread) (defScope sTellMisread) .none kVTellMisread dcTellMisread pmTellMisread anTellMisread cdTellMisread ctTellMisread), slTellMisread⟩)
    (eTellMisread : PySem.W.codeIn K cdTellMisread "tell_misread" = true)
    (kTellMisread : PySem.W.keepIn K (.ref fTellMisread) = true)
    (aTellTruth : PySem.W.nsIn K mainGlobals "tell_truth" = some (some (.ref fTellTruth)))
    (lTellTruth : K.lookup fTellTruth = some ⟨ocTellTruth, odTellTruth, .func (PySem.W.fnOf "tell_truth" "tell_truth" (defArgs sTellTruth) (defBody sTellTruth) (defScope sTellTruth) .none kVTellTruth dcTellTruth pmTellTruth anTellTruth cdTellTruth ctTellTruth), slTellTruth⟩)
    (eTellTruth : PySem.W.codeIn K cdTellTruth "tell_truth" = true)
    (kTellTruth : PySem.W.keepIn K (.ref fTellTruth) = true)
    (aTellRight : PySem.W.nsIn K mainGlobals "tell_right" = some (some (.ref fTellRight)))
    (lTellRight : K.lookup fTellRight = some ⟨ocTellRight, odTellRight, .func (PySem.W.fnOf "tell_right" "tell_right" (defArgs sTellRight) (defBody sTellRight) (defScope sTellRight) .none kVTellRight dcTellRight pmTellRight anTellRight cdTellRight ctTellRight), slTellRight⟩)
    (eTellRight : PySem.W.codeIn K cdTellRight "tell_right" = true)
    (kTellRight : PySem.W.keepIn K (.ref fTellRight) = true)
    (aTellEnd : PySem.W.nsIn K mainGlobals "tell_end" = some (some (.ref fTellEnd)))
    (lTellEnd : K.lookup fTellEnd = some ⟨ocTellEnd, odTellEnd, .func (PySem.W.fnOf "tell_end" "tell_end" (defArgs sTellEnd) (defBody sTellEnd) (defScope sTellEnd) .none kVTellEnd dcTellEnd pmTellEnd anTellEnd cdTellEnd ctTellEnd), slTellEnd⟩)
    (eTellEnd : PySem.W.codeIn K cdTellEnd "tell_end" = true)
    (kTellEnd : PySem.W.keepIn K (.ref fTellEnd) = true)
    (aRefusalOfClaims : PySem.W.nsIn K mainGlobals "refusal_of_claims" = some (some (.ref fRefusalOfClaims)))
    (lRefusalOfClaims : K.lookup fRefusalOfClaims = some ⟨ocRefusalOfClaims, odRefusalOfClaims, .func (PySem.W.fnOf "refusal_of_claims" "refusal_of_claims" (defArgs sRefusalOfClaims) (defBody sRefusalOfClaims) (defScope sRefusalOfClaims) .none kVRefusalOfClaims dcRefusalOfClaims pmRefusalOfClaims anRefusalOfClaims cdRefusalOfClaims ctRefusalOfClaims), slRefusalOfClaims⟩)
    (eRefusalOfClaims : PySem.W.codeIn K cdRefusalOfClaims "refusal_of_claims" = true)
    (kRefusalOfClaims : PySem.W.keepIn K (.ref fRefusalOfClaims) = true)
    (aTellCheapest : PySem.W.nsIn K mainGlobals "tell_cheapest" = some (some (.ref fTellCheapest)))
    (lTellCheapest : K.lookup fTellCheapest = some ⟨ocTellCheapest, odTellCheapest, .func (PySem.W.fnOf "tell_cheapest" "tell_cheapest" (defArgs sTellCheapest) (defBody sTellCheapest) (defScope sTellCheapest) .none kVTellCheapest dcTellCheapest pmTellCheapest anTellCheapest cdTellCheapest ctTellCheapest), slTellCheapest⟩)
    (eTellCheapest : PySem.W.codeIn K cdTellCheapest "tell_cheapest" = true)
    (kTellCheapest : PySem.W.keepIn K (.ref fTellCheapest) = true)
    (aBuyLooks : PySem.W.nsIn K mainGlobals "buy_looks" = some (some (.ref fBuyLooks)))
    (lBuyLooks : K.lookup fBuyLooks = some ⟨ocBuyLooks, odBuyLooks, .func (PySem.W.fnOf "buy_looks" "buy_looks" (defArgs sBuyLooks) (defBody sBuyLooks) (defScope sBuyLooks) .none kVBuyLooks dcBuyLooks pmBuyLooks anBuyLooks cdBuyLooks ctBuyLooks), slBuyLooks⟩)
    (eBuyLooks : PySem.W.codeIn K cdBuyLooks "buy_looks" = true)
    (kBuyLooks : PySem.W.keepIn K (.ref fBuyLooks) = true)
    (aPutPromise : PySem.W.nsIn K mainGlobals "put_promise" = some (some (.ref fPutPromise)))
    (lPutPromise : K.lookup fPutPromise = some ⟨ocPutPromise, odPutPromise, .func (PySem.W.fnOf "put_promise" "put_promise" (defArgs sPutPromise) (defBody sPutPromise) (defScope sPutPromise) .none kVPutPromise dcPutPromise pmPutPromise anPutPromise cdPutPromise ctPutPromise), slPutPromise⟩)
    (ePutPromise : PySem.W.codeIn K cdPutPromise "put_promise" = true)
    (kPutPromise : PySem.W.keepIn K (.ref fPutPromise) = true)
    (aTakeBackPromise : PySem.W.nsIn K mainGlobals "take_back_promise" = some (some (.ref fTakeBackPromise)))
    (lTakeBackPromise : K.lookup fTakeBackPromise = some ⟨ocTakeBackPromise, odTakeBackPromise, .func (PySem.W.fnOf "take_back_promise" "take_back_promise" (defArgs sTakeBackPromise) (defBody sTakeBackPromise) (defScope sTakeBackPromise) .none kVTakeBackPromise dcTakeBackPromise pmTakeBackPromise anTakeBackPromise cdTakeBackPromise ctTakeBackPromise), slTakeBackPromise⟩)
    (eTakeBackPromise : PySem.W.codeIn K cdTakeBackPromise "take_back_promise" = true)
    (kTakeBackPromise : PySem.W.keepIn K (.ref fTakeBackPromise) = true)
    (aTellPromise : PySem.W.nsIn K mainGlobals "tell_promise" = some (some (.ref fTellPromise)))
    (lTellPromise : K.lookup fTellPromise = some ⟨ocTellPromise, odTellPromise, .func (PySem.W.fnOf "tell_promise" "tell_promise" (defArgs sTellPromise) (defBody sTellPromise) (defScope sTellPromise) .none kVTellPromise dcTellPromise pmTellPromise anTellPromise cdTellPromise ctTellPromise), slTellPromise⟩)
    (eTellPromise : PySem.W.codeIn K cdTellPromise "tell_promise" = true)
    (kTellPromise : PySem.W.keepIn K (.ref fTellPromise) = true)
    (aTellTightest : PySem.W.nsIn K mainGlobals "tell_tightest" = some (some (.ref fTellTightest)))
    (lTellTightest : K.lookup fTellTightest = some ⟨ocTellTightest, odTellTightest, .func (PySem.W.fnOf "tell_tightest" "tell_tightest" (defArgs sTellTightest) (defBody sTellTightest) (defScope sTellTightest) .none kVTellTightest dcTellTightest pmTellTightest anTellTightest cdTellTightest ctTellTightest), slTellTightest⟩)
    (eTellTightest : PySem.W.codeIn K cdTellTightest "tell_tightest" = true)
    (kTellTightest : PySem.W.keepIn K (.ref fTellTightest) = true)
    (aHear : PySem.W.nsIn K mainGlobals "hear" = some (some (.ref fHear)))
    (lHear : K.lookup fHear = some ⟨ocHear, odHear, .func (PySem.W.fnOf "hear" "hear" (defArgs sHear) (defBody sHear) (defScope sHear) .none kVHear dcHear pmHear anHear cdHear ctHear), slHear⟩)
    (eHear : PySem.W.codeIn K cdHear "hear" = true)
    (kHear : PySem.W.keepIn K (.ref fHear) = true)
    (aTellHearingAhead : PySem.W.nsIn K mainGlobals "tell_hearing_ahead" = some (some (.ref fTellHearingAhead)))
    (lTellHearingAhead : K.lookup fTellHearingAhead = some ⟨ocTellHearingAhead, odTellHearingAhead, .func (PySem.W.fnOf "tell_hearing_ahead" "tell_hearing_ahead" (defArgs sTellHearingAhead) (defBody sTellHearingAhead) (defScope sTellHearingAhead) .none kVTellHearingAhead dcTellHearingAhead pmTellHearingAhead anTellHearingAhead cdTellHearingAhead ctTellHearingAhead), slTellHearingAhead⟩)
    (eTellHearingAhead : PySem.W.codeIn K cdTellHearingAhead "tell_hearing_ahead" = true)
    (kTellHearingAhead : PySem.W.keepIn K (.ref fTellHearingAhead) = true)
    (aTellEntry : PySem.W.nsIn K mainGlobals "tell_entry" = some (some (.ref fTellEntry)))
    (lTellEntry : K.lookup fTellEntry = some ⟨ocTellEntry, odTellEntry, .func (PySem.W.fnOf "tell_entry" "tell_entry" (defArgs sTellEntry) (defBody sTellEntry) (defScope sTellEntry) .none kVTellEntry dcTellEntry pmTellEntry anTellEntry cdTellEntry ctTellEntry), slTellEntry⟩)
    (eTellEntry : PySem.W.codeIn K cdTellEntry "tell_entry" = true)
    (kTellEntry : PySem.W.keepIn K (.ref fTellEntry) = true)
    (aTellTally : PySem.W.nsIn K mainGlobals "tell_tally" = some (some (.ref fTellTally)))
    (lTellTally : K.lookup fTellTally = some ⟨ocTellTally, odTellTally, .func (PySem.W.fnOf "tell_tally" "tell_tally" (defArgs sTellTally) (defBody sTellTally) (defScope sTellTally) .none kVTellTally dcTellTally pmTellTally anTellTally cdTellTally ctTellTally), slTellTally⟩)
    (eTellTally : PySem.W.codeIn K cdTellTally "tell_tally" = true)
    (kTellTally : PySem.W.keepIn K (.ref fTellTally) = true)
    (aTellOwed : PySem.W.nsIn K mainGlobals "tell_owed" = some (some (.ref fTellOwed)))
    (lTellOwed : K.lookup fTellOwed = some ⟨ocTellOwed, odTellOwed, .func (PySem.W.fnOf "tell_owed" "tell_owed" (defArgs sTellOwed) (defBody sTellOwed) (defScope sTellOwed) .none kVTellOwed dcTellOwed pmTellOwed anTellOwed cdTellOwed ctTellOwed), slTellOwed⟩)
    (eTellOwed : PySem.W.codeIn K cdTellOwed "tell_owed" = true)
    (kTellOwed : PySem.W.keepIn K (.ref fTellOwed) = true)
    (aPayIn : PySem.W.nsIn K mainGlobals "pay_in" = some (some (.ref fPayIn)))
    (lPayIn : K.lookup fPayIn = some ⟨ocPayIn, odPayIn, .func (PySem.W.fnOf "pay_in" "pay_in" (defArgs sPayIn) (defBody sPayIn) (defScope sPayIn) .none kVPayIn dcPayIn pmPayIn anPayIn cdPayIn ctPayIn), slPayIn⟩)
    (ePayIn : PySem.W.codeIn K cdPayIn "pay_in" = true)
    (kPayIn : PySem.W.keepIn K (.ref fPayIn) = true)
    (aTellStakes : PySem.W.nsIn K mainGlobals "tell_stakes" = some (some (.ref fTellStakes)))
    (lTellStakes : K.lookup fTellStakes = some ⟨ocTellStakes, odTellStakes, .func (PySem.W.fnOf "tell_stakes" "tell_stakes" (defArgs sTellStakes) (defBody sTellStakes) (defScope sTellStakes) .none kVTellStakes dcTellStakes pmTellStakes anTellStakes cdTellStakes ctTellStakes), slTellStakes⟩)
    (eTellStakes : PySem.W.codeIn K cdTellStakes "tell_stakes" = true)
    (kTellStakes : PySem.W.keepIn K (.ref fTellStakes) = true)
    (aSplitCalls : PySem.W.nsIn K mainGlobals "split_calls" = some (some (.ref fSplitCalls)))
    (lSplitCalls : K.lookup fSplitCalls = some ⟨ocSplitCalls, odSplitCalls, .func (PySem.W.fnOf "split_calls" "split_calls" (defArgs sSplitCalls) (defBody sSplitCalls) (defScope sSplitCalls) .none kVSplitCalls dcSplitCalls pmSplitCalls anSplitCalls cdSplitCalls ctSplitCalls), slSplitCalls⟩)
    (eSplitCalls : PySem.W.codeIn K cdSplitCalls "split_calls" = true)
    (kSplitCalls : PySem.W.keepIn K (.ref fSplitCalls) = true)
    (aAnswerTo : PySem.W.nsIn K mainGlobals "answer_to" = some (some (.ref fAnswerTo)))
    (lAnswerTo : K.lookup fAnswerTo = some ⟨ocAnswerTo, odAnswerTo, .func (PySem.W.fnOf "answer_to" "answer_to" (defArgs sAnswerTo) (defBody sAnswerTo) (defScope sAnswerTo) .none kVAnswerTo dcAnswerTo pmAnswerTo anAnswerTo cdAnswerTo ctAnswerTo), slAnswerTo⟩)
    (eAnswerTo : PySem.W.codeIn K cdAnswerTo "answer_to" = true)
    (kAnswerTo : PySem.W.keepIn K (.ref fAnswerTo) = true)
    (aAnswers : PySem.W.nsIn K mainGlobals "answers" = some (some (.ref fAnswers)))
    (lAnswers : K.lookup fAnswers = some ⟨ocAnswers, odAnswers, .func (PySem.W.fnOf "answers" "answers" (defArgs sAnswers) (defBody sAnswers) (defScope sAnswers) .none kVAnswers dcAnswers pmAnswers anAnswers cdAnswers ctAnswers), slAnswers⟩)
    (eAnswers : PySem.W.codeIn K cdAnswers "answers" = true)
    (kAnswers : PySem.W.keepIn K (.ref fAnswers) = true)
    (gPLAIN_NUMBERS : PySem.W.nsIn K mainGlobals "PLAIN_NUMBERS" = some (some (.ref aPLAIN_NUMBERS)))
    (lPLAIN_NUMBERS : K.lookup aPLAIN_NUMBERS = some ⟨.type "tuple", odPLAIN_NUMBERS, .seq itsPLAIN_NUMBERS nPLAIN_NUMBERS, slPLAIN_NUMBERS⟩)
    (vPLAIN_NUMBERS : Vals (([1, 2, 0, 0, 0, 1, 1, 2, 1, 1, 1, 1, 1, 1, 1, 1, 2, 1, 1, 1, 3, 3, 1, 0, 0, 1, 2] : List Int).map V.int) itsPLAIN_NUMBERS.toList)
    (gWITH_A_ROW : PySem.W.nsIn K mainGlobals "WITH_A_ROW" = some (some (.ref aWITH_A_ROW)))
    (lWITH_A_ROW : K.lookup aWITH_A_ROW = some ⟨.type "tuple", odWITH_A_ROW, .seq itsWITH_A_ROW nWITH_A_ROW, slWITH_A_ROW⟩)
    (vWITH_A_ROW : Vals (([2, 3, 14, 15] : List Int).map V.int) itsWITH_A_ROW.toList)
    (gABOUT_A_NODE : PySem.W.nsIn K mainGlobals "ABOUT_A_NODE" = some (some (.ref aABOUT_A_NODE)))
    (lABOUT_A_NODE : K.lookup aABOUT_A_NODE = some ⟨.type "tuple", odABOUT_A_NODE, .seq itsABOUT_A_NODE nABOUT_A_NODE, slABOUT_A_NODE⟩)
    (vABOUT_A_NODE : Vals (([5, 6, 7, 8, 9, 10, 11, 12, 13, 16, 19, 20, 21, 26] : List Int).map V.int) itsABOUT_A_NODE.toList)
    (gANSWERED_BY : PySem.W.nsIn K mainGlobals "ANSWERED_BY" = some (some (.ref aANSWERED_BY)))
    (lANSWERED_BY : K.lookup aANSWERED_BY = some ⟨.type "tuple", odANSWERED_BY, .seq itsANSWERED_BY nANSWERED_BY, slANSWERED_BY⟩)
    (vANSWERED_BY : Vals [.ref fBegin, .ref fPutLeaf, .ref fPutAllOf, .ref fPutSomeOf, .ref fPopNode, .ref fTellNode, .ref fFlipLeaf, .ref fSetPrice, .ref fReadThrice, .ref fReadOnce, .ref fTellMisread, .ref fTellTruth, .ref fTellRight, .ref fTellEnd, .ref fTellCheapest, .ref fBuyLooks, .ref fPutPromise, .ref fTakeBackPromise, .ref fTellPromise, .ref fTellTightest, .ref fHear, .ref fTellHearingAhead, .ref fTellEntry, .ref fTellTally, .ref fTellOwed, .ref fPayIn, .ref fTellStakes] itsANSWERED_BY.toList)
    (pgNode : PySem.W.plainGet K cNode Str.empty = true)
    (hdNode : PySem.W.hasDictIn K cNode = true)
    (poNode : PySem.W.plainOver K cNode = true)
    (saNode : PySem.W.findIn K (.ref cNode) "__setattr__" = some (some (.builtin "object.__setattr__")))
    (mkNode : PySem.W.makesIn K cNode = true)
    (kcNode : PySem.W.keepIn K (.ref cNode) = true)
    (nNode_kind : PySem.W.findIn K (.ref cNode) "kind" = some none)
    (nNode_so : PySem.W.findIn K (.ref cNode) "so" = some none)
    (nNode_wrong : PySem.W.findIn K (.ref cNode) "wrong" = some none)
    (nNode_children : PySem.W.findIn K (.ref cNode) "children" = some none)
    (nNode_price : PySem.W.findIn K (.ref cNode) "price" = some none)
    (nNode_thrice : PySem.W.findIn K (.ref cNode) "thrice" = some none)
    (pgHearing : PySem.W.plainGet K cHearing Str.empty = true)
    (hdHearing : PySem.W.hasDictIn K cHearing = true)
    (poHearing : PySem.W.plainOver K cHearing = true)
    (saHearing : PySem.W.findIn K (.ref cHearing) "__setattr__" = some (some (.builtin "object.__setattr__")))
    (mkHearing : PySem.W.makesIn K cHearing = true)
    (kcHearing : PySem.W.keepIn K (.ref cHearing) = true)
    (nHearing_node : PySem.W.findIn K (.ref cHearing) "node" = some none)
    (nHearing_leaf : PySem.W.findIn K (.ref cHearing) "leaf" = some none)
    (nHearing_held : PySem.W.findIn K (.ref cHearing) "held" = some none)
    (nHearing_cost : PySem.W.findIn K (.ref cHearing) "cost" = some none)
    (nHearing_wrong : PySem.W.findIn K (.ref cHearing) "wrong" = some none)
    (pgHouse : PySem.W.plainGet K cHouse Str.empty = true)
    (hdHouse : PySem.W.hasDictIn K cHouse = true)
    (poHouse : PySem.W.plainOver K cHouse = true)
    (saHouse : PySem.W.findIn K (.ref cHouse) "__setattr__" = some (some (.builtin "object.__setattr__")))
    (mkHouse : PySem.W.makesIn K cHouse = true)
    (kcHouse : PySem.W.keepIn K (.ref cHouse) = true)
    (nHouse_begun : PySem.W.findIn K (.ref cHouse) "begun" = some none)
    (nHouse_purse : PySem.W.findIn K (.ref cHouse) "purse" = some none)
    (nHouse_nodes : PySem.W.findIn K (.ref cHouse) "nodes" = some none)
    (nHouse_promises : PySem.W.findIn K (.ref cHouse) "promises" = some none)
    (nHouse_log : PySem.W.findIn K (.ref cHouse) "log" = some none)
    : Tx K mg :=
  { tLEAF := tLEAF, gLEAF := PySem.W.mg_of X G aLEAF,
    tALL_OF := tALL_OF, gALL_OF := PySem.W.mg_of X G aALL_OF,
    tSOME_OF := tSOME_OF, gSOME_OF := PySem.W.mg_of X G aSOME_OF,
    tMOST_NODES := tMOST_NODES, gMOST_NODES := PySem.W.mg_of X G aMOST_NODES,
    tMOST_IN_ROW := tMOST_IN_ROW, gMOST_IN_ROW := PySem.W.mg_of X G aMOST_IN_ROW,
    tWHOLE := tWHOLE, gWHOLE := PySem.W.mg_of X G aWHOLE,
    tHUNDREDTH := tHUNDREDTH, gHUNDREDTH := PySem.W.mg_of X G aHUNDREDTH,
    tMOST_LUCK := tMOST_LUCK, gMOST_LUCK := PySem.W.mg_of X G aMOST_LUCK,
    tMOST_STAKE := tMOST_STAKE, gMOST_STAKE := PySem.W.mg_of X G aMOST_STAKE,
    tNO_SUCH := tNO_SUCH, gNO_SUCH := PySem.W.mg_of X G aNO_SUCH,
    tNOTHING_THERE := tNOTHING_THERE, gNOTHING_THERE := PySem.W.mg_of X G aNOTHING_THERE,
    tNOT_BEGUN := tNOT_BEGUN, gNOT_BEGUN := PySem.W.mg_of X G aNOT_BEGUN,
    tSO_ALREADY := tSO_ALREADY, gSO_ALREADY := PySem.W.mg_of X G aSO_ALREADY,
    tTOO_LITTLE := tTOO_LITTLE, gTOO_LITTLE := PySem.W.mg_of X G aTOO_LITTLE,
    tNOT_AS_TOLD := tNOT_AS_TOLD, gNOT_AS_TOLD := PySem.W.mg_of X G aNOT_AS_TOLD,
    tFULL := tFULL, gFULL := PySem.W.mg_of X G aFULL,
    tNOT_KEPT := tNOT_KEPT, gNOT_KEPT := PySem.W.mg_of X G aNOT_KEPT,
    tNO_FIT := tNO_FIT, gNO_FIT := PySem.W.mg_of X G aNO_FIT,
    tMOST_AT_ONCE := tMOST_AT_ONCE, gMOST_AT_ONCE := PySem.W.mg_of X G aMOST_AT_ONCE,
    tMOST_IN_PURSE := tMOST_IN_PURSE, gMOST_IN_PURSE := PySem.W.mg_of X G aMOST_IN_PURSE,
    tMOST_HUNDREDTHS := tMOST_HUNDREDTHS, gMOST_HUNDREDTHS := PySem.W.mg_of X G aMOST_HUNDREDTHS,
    tMOST_PRICE := tMOST_PRICE, gMOST_PRICE := PySem.W.mg_of X G aMOST_PRICE,
    tMOST_LEAVES := tMOST_LEAVES, gMOST_LEAVES := PySem.W.mg_of X G aMOST_LEAVES,
    tMOST_PROMISES := tMOST_PROMISES, gMOST_PROMISES := PySem.W.mg_of X G aMOST_PROMISES,
    tMOST_HEARINGS := tMOST_HEARINGS, gMOST_HEARINGS := PySem.W.mg_of X G aMOST_HEARINGS,
    tMOST_GAIN := tMOST_GAIN, gMOST_GAIN := PySem.W.mg_of X G aMOST_GAIN,
    tBEGIN := tBEGIN, gBEGIN := PySem.W.mg_of X G aBEGIN,
    b_any := PySem.W.mg_none_of X G zany,
    b_all := PySem.W.mg_none_of X G zall,
    b_min := PySem.W.mg_none_of X G zmin,
    b_max := PySem.W.mg_none_of X G zmax,
    b_sum := PySem.W.mg_none_of X G zsum,
    b_len := PySem.W.mg_none_of X G zlen,
    b_set := PySem.W.mg_none_of X G zset,
    b_list := PySem.W.mg_none_of X G zlist,
    b_range := PySem.W.mg_none_of X G zrange,
    b_enumerate := PySem.W.mg_none_of X G zenumerate,
    b_sorted := PySem.W.mg_none_of X G zsorted,
    b_zip := PySem.W.mg_none_of X G zzip,
    cNode := cNode, gNode := PySem.W.mg_of X G aNode,
    cHearing := cHearing, gHearing := PySem.W.mg_of X G aHearing,
    cHouse := cHouse, gHouse := PySem.W.mg_of X G aHouse,
    fNodeInit := fNodeInit, dNodeInit := (PySem.W.fnOf "__init__" "Node.__init__" (defArgs sNodeInit) (defBody sNodeInit) (defScope sNodeInit) .none kVNodeInit dcNodeInit pmNodeInit anNodeInit cdNodeInit ctNodeInit), FNodeInit := fun_mk (st := sNodeInit) lNodeInit eNodeInit kNodeInit, bNodeInit := (fun_mk (st := sNodeInit) lNodeInit eNodeInit kNodeInit).binds (ps := ["self", "kind", "so", "wrong", "children"]) fun _ _ _ _ _ _ us hl => match us, hl with | [_, _, _, _, _], _ => rfl,
    fNewLeaf := fNewLeaf, dNewLeaf := (PySem.W.fnOf "new_leaf" "new_leaf" (defArgs sNewLeaf) (defBody sNewLeaf) (defScope sNewLeaf) .none kVNewLeaf dcNewLeaf pmNewLeaf anNewLeaf cdNewLeaf ctNewLeaf), FNewLeaf := fun_mk (st := sNewLeaf) lNewLeaf eNewLeaf kNewLeaf, bNewLeaf := (fun_mk (st := sNewLeaf) lNewLeaf eNewLeaf kNewLeaf).binds (ps := ["so", "wrong"]) fun _ _ _ _ _ _ us hl => match us, hl with | [_, _], _ => rfl,
    gNewLeaf := PySem.W.mg_of X G aNewLeaf,
    fNewBranch := fNewBranch, dNewBranch := (PySem.W.fnOf "new_branch" "new_branch" (defArgs sNewBranch) (defBody sNewBranch) (defScope sNewBranch) .none kVNewBranch dcNewBranch pmNewBranch anNewBranch cdNewBranch ctNewBranch), FNewBranch := fun_mk (st := sNewBranch) lNewBranch eNewBranch kNewBranch, bNewBranch := (fun_mk (st := sNewBranch) lNewBranch eNewBranch kNewBranch).binds (ps := ["kind", "children"]) fun _ _ _ _ _ _ us hl => match us, hl with | [_, _], _ => rfl,
    gNewBranch := PySem.W.mg_of X G aNewBranch,
    fCopyRead := fCopyRead, dCopyRead := (PySem.W.fnOf "copy_read" "copy_read" (defArgs sCopyRead) (defBody sCopyRead) (defScope sCopyRead) .none kVCopyRead dcCopyRead pmCopyRead anCopyRead cdCopyRead ctCopyRead), FCopyRead := fun_mk (st := sCopyRead) lCopyRead eCopyRead kCopyRead, bCopyRead := (fun_mk (st := sCopyRead) lCopyRead eCopyRead kCopyRead).binds (ps := ["node", "thrice"]) fun _ _ _ _ _ _ us hl => match us, hl with | [_, _], _ => rfl,
    gCopyRead := PySem.W.mg_of X G aCopyRead,
    fCopiesReadBy := fCopiesReadBy, dCopiesReadBy := (PySem.W.fnOf "copies_read_by" "copies_read_by" (defArgs sCopiesReadBy) (defBody sCopiesReadBy) (defScope sCopiesReadBy) .none kVCopiesReadBy dcCopiesReadBy pmCopiesReadBy anCopiesReadBy cdCopiesReadBy ctCopiesReadBy), FCopiesReadBy := fun_mk (st := sCopiesReadBy) lCopiesReadBy eCopiesReadBy kCopiesReadBy, bCopiesReadBy := (fun_mk (st := sCopiesReadBy) lCopiesReadBy eCopiesReadBy kCopiesReadBy).binds (ps := ["nodes", "reads"]) fun _ _ _ _ _ _ us hl => match us, hl with | [_, _], _ => rfl,
    gCopiesReadBy := PySem.W.mg_of X G aCopiesReadBy,
    fCopiesOf := fCopiesOf, dCopiesOf := (PySem.W.fnOf "copies_of" "copies_of" (defArgs sCopiesOf) (defBody sCopiesOf) (defScope sCopiesOf) .none kVCopiesOf dcCopiesOf pmCopiesOf anCopiesOf cdCopiesOf ctCopiesOf), FCopiesOf := fun_mk (st := sCopiesOf) lCopiesOf eCopiesOf kCopiesOf, bCopiesOf := (fun_mk (st := sCopiesOf) lCopiesOf eCopiesOf kCopiesOf).binds (ps := ["nodes"]) fun _ _ _ _ _ _ us hl => match us, hl with | [_], _ => rfl,
    gCopiesOf := PySem.W.mg_of X G aCopiesOf,
    fAreNodes := fAreNodes, dAreNodes := (PySem.W.fnOf "are_nodes" "are_nodes" (defArgs sAreNodes) (defBody sAreNodes) (defScope sAreNodes) .none kVAreNodes dcAreNodes pmAreNodes anAreNodes cdAreNodes ctAreNodes), FAreNodes := fun_mk (st := sAreNodes) lAreNodes eAreNodes kAreNodes, bAreNodes := (fun_mk (st := sAreNodes) lAreNodes eAreNodes kAreNodes).binds (ps := ["nodes", "row"]) fun _ _ _ _ _ _ us hl => match us, hl with | [_, _], _ => rfl,
    gAreNodes := PySem.W.mg_of X G aAreNodes,
    fIsChild := fIsChild, dIsChild := (PySem.W.fnOf "is_child" "is_child" (defArgs sIsChild) (defBody sIsChild) (defScope sIsChild) .none kVIsChild dcIsChild pmIsChild anIsChild cdIsChild ctIsChild), FIsChild := fun_mk (st := sIsChild) lIsChild eIsChild kIsChild, bIsChild := (fun_mk (st := sIsChild) lIsChild eIsChild kIsChild).binds (ps := ["nodes", "i"]) fun _ _ _ _ _ _ us hl => match us, hl with | [_, _], _ => rfl,
    gIsChild := PySem.W.mg_of X G aIsChild,
    fMayBeChildren := fMayBeChildren, dMayBeChildren := (PySem.W.fnOf "may_be_children" "may_be_children" (defArgs sMayBeChildren) (defBody sMayBeChildren) (defScope sMayBeChildren) .none kVMayBeChildren dcMayBeChildren pmMayBeChildren anMayBeChildren cdMayBeChildren ctMayBeChildren), FMayBeChildren := fun_mk (st := sMayBeChildren) lMayBeChildren eMayBeChildren kMayBeChildren, bMayBeChildren := (fun_mk (st := sMayBeChildren) lMayBeChildren eMayBeChildren kMayBeChildren).binds (ps := ["nodes", "row"]) fun _ _ _ _ _ _ us hl => match us, hl with | [_, _], _ => rfl,
    gMayBeChildren := PySem.W.mg_of X G aMayBeChildren,
    fReadsNow := fReadsNow, dReadsNow := (PySem.W.fnOf "reads_now" "reads_now" (defArgs sReadsNow) (defBody sReadsNow) (defScope sReadsNow) .none kVReadsNow dcReadsNow pmReadsNow anReadsNow cdReadsNow ctReadsNow), FReadsNow := fun_mk (st := sReadsNow) lReadsNow eReadsNow kReadsNow, bReadsNow := (fun_mk (st := sReadsNow) lReadsNow eReadsNow kReadsNow).binds (ps := ["nodes"]) fun _ _ _ _ _ _ us hl => match us, hl with | [_], _ => rfl,
    gReadsNow := PySem.W.mg_of X G aReadsNow,
    fCostOfAll := fCostOfAll, dCostOfAll := (PySem.W.fnOf "cost_of_all" "cost_of_all" (defArgs sCostOfAll) (defBody sCostOfAll) (defScope sCostOfAll) .none kVCostOfAll dcCostOfAll pmCostOfAll anCostOfAll cdCostOfAll ctCostOfAll), FCostOfAll := fun_mk (st := sCostOfAll) lCostOfAll eCostOfAll kCostOfAll, bCostOfAll := (fun_mk (st := sCostOfAll) lCostOfAll eCostOfAll kCostOfAll).binds (ps := ["nodes"]) fun _ _ _ _ _ _ us hl => match us, hl with | [_], _ => rfl,
    gCostOfAll := PySem.W.mg_of X G aCostOfAll,
    fMisreadOf := fMisreadOf, dMisreadOf := (PySem.W.fnOf "misread_of" "misread_of" (defArgs sMisreadOf) (defBody sMisreadOf) (defScope sMisreadOf) .none kVMisreadOf dcMisreadOf pmMisreadOf anMisreadOf cdMisreadOf ctMisreadOf), FMisreadOf := fun_mk (st := sMisreadOf) lMisreadOf eMisreadOf kMisreadOf, bMisreadOf := (fun_mk (st := sMisreadOf) lMisreadOf eMisreadOf kMisreadOf).binds (ps := ["leaf", "thrice"]) fun _ _ _ _ _ _ us hl => match us, hl with | [_, _], _ => rfl,
    gMisreadOf := PySem.W.mg_of X G aMisreadOf,
    fTruths := fTruths, dTruths := (PySem.W.fnOf "truths" "truths" (defArgs sTruths) (defBody sTruths) (defScope sTruths) .none kVTruths dcTruths pmTruths anTruths cdTruths ctTruths), FTruths := fun_mk (st := sTruths) lTruths eTruths kTruths, bTruths := (fun_mk (st := sTruths) lTruths eTruths kTruths).binds (ps := ["nodes"]) fun _ _ _ _ _ _ us hl => match us, hl with | [_], _ => rfl,
    gTruths := PySem.W.mg_of X G aTruths,
    fHeldOfLeaf := fHeldOfLeaf, dHeldOfLeaf := (PySem.W.fnOf "held_of_leaf" "held_of_leaf" (defArgs sHeldOfLeaf) (defBody sHeldOfLeaf) (defScope sHeldOfLeaf) .none kVHeldOfLeaf dcHeldOfLeaf pmHeldOfLeaf anHeldOfLeaf cdHeldOfLeaf ctHeldOfLeaf), FHeldOfLeaf := fun_mk (st := sHeldOfLeaf) lHeldOfLeaf eHeldOfLeaf kHeldOfLeaf, bHeldOfLeaf := (fun_mk (st := sHeldOfLeaf) lHeldOfLeaf eHeldOfLeaf kHeldOfLeaf).binds (ps := ["leaf", "thrice"]) fun _ _ _ _ _ _ us hl => match us, hl with | [_, _], _ => rfl,
    gHeldOfLeaf := PySem.W.mg_of X G aHeldOfLeaf,
    fAllHeld := fAllHeld, dAllHeld := (PySem.W.fnOf "all_held" "all_held" (defArgs sAllHeld) (defBody sAllHeld) (defScope sAllHeld) .none kVAllHeld dcAllHeld pmAllHeld anAllHeld cdAllHeld ctAllHeld), FAllHeld := fun_mk (st := sAllHeld) lAllHeld eAllHeld kAllHeld, bAllHeld := (fun_mk (st := sAllHeld) lAllHeld eAllHeld kAllHeld).binds (ps := ["nodes", "reads"]) fun _ _ _ _ _ _ us hl => match us, hl with | [_, _], _ => rfl,
    gAllHeld := PySem.W.mg_of X G aAllHeld,
    fRightWins := fRightWins, dRightWins := (PySem.W.fnOf "right_wins" "right_wins" (defArgs sRightWins) (defBody sRightWins) (defScope sRightWins) .none kVRightWins dcRightWins pmRightWins anRightWins cdRightWins ctRightWins), FRightWins := fun_mk (st := sRightWins) lRightWins eRightWins kRightWins, bRightWins := (fun_mk (st := sRightWins) lRightWins eRightWins kRightWins).binds (ps := ["true", "held"]) fun _ _ _ _ _ _ us hl => match us, hl with | [_, _], _ => rfl,
    gRightWins := PySem.W.mg_of X G aRightWins,
    fRightOf := fRightOf, dRightOf := (PySem.W.fnOf "right_of" "right_of" (defArgs sRightOf) (defBody sRightOf) (defScope sRightOf) .none kVRightOf dcRightOf pmRightOf anRightOf cdRightOf ctRightOf), FRightOf := fun_mk (st := sRightOf) lRightOf eRightOf kRightOf, bRightOf := (fun_mk (st := sRightOf) lRightOf eRightOf kRightOf).binds (ps := ["nodes", "i"]) fun _ _ _ _ _ _ us hl => match us, hl with | [_, _], _ => rfl,
    gRightOf := PySem.W.mg_of X G aRightOf,
    fEndOf := fEndOf, dEndOf := (PySem.W.fnOf "end_of" "end_of" (defArgs sEndOf) (defBody sEndOf) (defScope sEndOf) .none kVEndOf dcEndOf pmEndOf anEndOf cdEndOf ctEndOf), FEndOf := fun_mk (st := sEndOf) lEndOf eEndOf kEndOf, bEndOf := (fun_mk (st := sEndOf) lEndOf eEndOf kEndOf).binds (ps := ["nodes", "i"]) fun _ _ _ _ _ _ us hl => match us, hl with | [_, _], _ => rfl,
    gEndOf := PySem.W.mg_of X G aEndOf,
    fFraction := fFraction, dFraction := (PySem.W.fnOf "fraction" "fraction" (defArgs sFraction) (defBody sFraction) (defScope sFraction) .none kVFraction dcFraction pmFraction anFraction cdFraction ctFraction), FFraction := fun_mk (st := sFraction) lFraction eFraction kFraction, bFraction := (fun_mk (st := sFraction) lFraction eFraction kFraction).binds (ps := ["part", "whole"]) fun _ _ _ _ _ _ us hl => match us, hl with | [_, _], _ => rfl,
    gFraction := PySem.W.mg_of X G aFraction,
    fHearingInit := fHearingInit, dHearingInit := (PySem.W.fnOf "__init__" "Hearing.__init__" (defArgs sHearingInit) (defBody sHearingInit) (defScope sHearingInit) .none kVHearingInit dcHearingInit pmHearingInit anHearingInit cdHearingInit ctHearingInit), FHearingInit := fun_mk (st := sHearingInit) lHearingInit eHearingInit kHearingInit, bHearingInit := (fun_mk (st := sHearingInit) lHearingInit eHearingInit kHearingInit).binds (ps := ["self", "node", "leaf", "held", "cost", "wrong"]) fun _ _ _ _ _ _ us hl => match us, hl with | [_, _, _, _, _, _], _ => rfl,
    fIsLuck := fIsLuck, dIsLuck := (PySem.W.fnOf "is_luck" "is_luck" (defArgs sIsLuck) (defBody sIsLuck) (defScope sIsLuck) .none kVIsLuck dcIsLuck pmIsLuck anIsLuck cdIsLuck ctIsLuck), FIsLuck := fun_mk (st := sIsLuck) lIsLuck eIsLuck kIsLuck, bIsLuck := (fun_mk (st := sIsLuck) lIsLuck eIsLuck kIsLuck).binds (ps := ["a", "b"]) fun _ _ _ _ _ _ us hl => match us, hl with | [_, _], _ => rfl,
    gIsLuck := PySem.W.mg_of X G aIsLuck,
    fHoldHearing := fHoldHearing, dHoldHearing := (PySem.W.fnOf "hold_hearing" "hold_hearing" (defArgs sHoldHearing) (defBody sHoldHearing) (defScope sHoldHearing) .none kVHoldHearing dcHoldHearing pmHoldHearing anHoldHearing cdHoldHearing ctHoldHearing), FHoldHearing := fun_mk (st := sHoldHearing) lHoldHearing eHoldHearing kHoldHearing, bHoldHearing := (fun_mk (st := sHoldHearing) lHoldHearing eHoldHearing kHoldHearing).binds (ps := ["nodes", "i", "a", "b"]) fun _ _ _ _ _ _ us hl => match us, hl with | [_, _, _, _], _ => rfl,
    gHoldHearing := PySem.W.mg_of X G aHoldHearing,
    fWellHeld := fWellHeld, dWellHeld := (PySem.W.fnOf "well_held" "well_held" (defArgs sWellHeld) (defBody sWellHeld) (defScope sWellHeld) .none kVWellHeld dcWellHeld pmWellHeld anWellHeld cdWellHeld ctWellHeld), FWellHeld := fun_mk (st := sWellHeld) lWellHeld eWellHeld kWellHeld, bWellHeld := (fun_mk (st := sWellHeld) lWellHeld eWellHeld kWellHeld).binds (ps := ["nodes", "log"]) fun _ _ _ _ _ _ us hl => match us, hl with | [_, _], _ => rfl,
    gWellHeld := PySem.W.mg_of X G aWellHeld,
    fCostOfHearings := fCostOfHearings, dCostOfHearings := (PySem.W.fnOf "cost_of_hearings" "cost_of_hearings" (defArgs sCostOfHearings) (defBody sCostOfHearings) (defScope sCostOfHearings) .none kVCostOfHearings dcCostOfHearings pmCostOfHearings anCostOfHearings cdCostOfHearings ctCostOfHearings), FCostOfHearings := fun_mk (st := sCostOfHearings) lCostOfHearings eCostOfHearings kCostOfHearings, bCostOfHearings := (fun_mk (st := sCostOfHearings) lCostOfHearings eCostOfHearings kCostOfHearings).binds (ps := ["log"]) fun _ _ _ _ _ _ us hl => match us, hl with | [_], _ => rfl,
    gCostOfHearings := PySem.W.mg_of X G aCostOfHearings,
    fWrongTogether := fWrongTogether, dWrongTogether := (PySem.W.fnOf "wrong_together" "wrong_together" (defArgs sWrongTogether) (defBody sWrongTogether) (defScope sWrongTogether) .none kVWrongTogether dcWrongTogether pmWrongTogether anWrongTogether cdWrongTogether ctWrongTogether), FWrongTogether := fun_mk (st := sWrongTogether) lWrongTogether eWrongTogether kWrongTogether, bWrongTogether := (fun_mk (st := sWrongTogether) lWrongTogether eWrongTogether kWrongTogether).binds (ps := ["log"]) fun _ _ _ _ _ _ us hl => match us, hl with | [_], _ => rfl,
    gWrongTogether := PySem.W.mg_of X G aWrongTogether,
    fLeavesOf := fLeavesOf, dLeavesOf := (PySem.W.fnOf "leaves_of" "leaves_of" (defArgs sLeavesOf) (defBody sLeavesOf) (defScope sLeavesOf) .none kVLeavesOf dcLeavesOf pmLeavesOf anLeavesOf cdLeavesOf ctLeavesOf), FLeavesOf := fun_mk (st := sLeavesOf) lLeavesOf eLeavesOf kLeavesOf, bLeavesOf := (fun_mk (st := sLeavesOf) lLeavesOf eLeavesOf kLeavesOf).binds (ps := ["nodes", "claims"]) fun _ _ _ _ _ _ us hl => match us, hl with | [_, _], _ => rfl,
    gLeavesOf := PySem.W.mg_of X G aLeavesOf,
    fSetsOf := fSetsOf, dSetsOf := (PySem.W.fnOf "sets_of" "sets_of" (defArgs sSetsOf) (defBody sSetsOf) (defScope sSetsOf) .none kVSetsOf dcSetsOf pmSetsOf anSetsOf cdSetsOf ctSetsOf), FSetsOf := fun_mk (st := sSetsOf) lSetsOf eSetsOf kSetsOf, bSetsOf := (fun_mk (st := sSetsOf) lSetsOf eSetsOf kSetsOf).binds (ps := ["nodes", "leaves"]) fun _ _ _ _ _ _ us hl => match us, hl with | [_, _], _ => rfl,
    gSetsOf := PySem.W.mg_of X G aSetsOf,
    fReadsOf := fReadsOf, dReadsOf := (PySem.W.fnOf "reads_of" "reads_of" (defArgs sReadsOf) (defBody sReadsOf) (defScope sReadsOf) .none kVReadsOf dcReadsOf pmReadsOf anReadsOf cdReadsOf ctReadsOf), FReadsOf := fun_mk (st := sReadsOf) lReadsOf eReadsOf kReadsOf, bReadsOf := (fun_mk (st := sReadsOf) lReadsOf eReadsOf kReadsOf).binds (ps := ["number", "many"]) fun _ _ _ _ _ _ us hl => match us, hl with | [_, _], _ => rfl,
    gReadsOf := PySem.W.mg_of X G aReadsOf,
    fCheapestSet := fCheapestSet, dCheapestSet := (PySem.W.fnOf "cheapest_set" "cheapest_set" (defArgs sCheapestSet) (defBody sCheapestSet) (defScope sCheapestSet) .none kVCheapestSet dcCheapestSet pmCheapestSet anCheapestSet cdCheapestSet ctCheapestSet), FCheapestSet := fun_mk (st := sCheapestSet) lCheapestSet eCheapestSet kCheapestSet, bCheapestSet := (fun_mk (st := sCheapestSet) lCheapestSet eCheapestSet kCheapestSet).binds (ps := ["nodes", "claims", "t"]) fun _ _ _ _ _ _ us hl => match us, hl with | [_, _, _], _ => rfl,
    gCheapestSet := PySem.W.mg_of X G aCheapestSet,
    fAreFair := fAreFair, dAreFair := (PySem.W.fnOf "are_fair" "are_fair" (defArgs sAreFair) (defBody sAreFair) (defScope sAreFair) .none kVAreFair dcAreFair pmAreFair anAreFair cdAreFair ctAreFair), FAreFair := fun_mk (st := sAreFair) lAreFair eAreFair kAreFair, bAreFair := (fun_mk (st := sAreFair) lAreFair eAreFair kAreFair).binds (ps := ["right", "g", "a", "b"]) fun _ _ _ _ _ _ us hl => match us, hl with | [_, _, _, _], _ => rfl,
    gAreFair := PySem.W.mg_of X G aAreFair,
    fLeastStakes := fLeastStakes, dLeastStakes := (PySem.W.fnOf "least_stakes" "least_stakes" (defArgs sLeastStakes) (defBody sLeastStakes) (defScope sLeastStakes) .none kVLeastStakes dcLeastStakes pmLeastStakes anLeastStakes cdLeastStakes ctLeastStakes), FLeastStakes := fun_mk (st := sLeastStakes) lLeastStakes eLeastStakes kLeastStakes, bLeastStakes := (fun_mk (st := sLeastStakes) lLeastStakes eLeastStakes kLeastStakes).binds (ps := ["right", "g"]) fun _ _ _ _ _ _ us hl => match us, hl with | [_, _], _ => rfl,
    gLeastStakes := PySem.W.mg_of X G aLeastStakes,
    fHouseInit := fHouseInit, dHouseInit := (PySem.W.fnOf "__init__" "House.__init__" (defArgs sHouseInit) (defBody sHouseInit) (defScope sHouseInit) .none kVHouseInit dcHouseInit pmHouseInit anHouseInit cdHouseInit ctHouseInit), FHouseInit := fun_mk (st := sHouseInit) lHouseInit eHouseInit kHouseInit, bHouseInit := (fun_mk (st := sHouseInit) lHouseInit eHouseInit kHouseInit).binds (ps := ["self"]) fun _ _ _ _ _ _ us hl => match us, hl with | [_], _ => rfl,
    fBegin := fBegin, dBegin := (PySem.W.fnOf "begin" "begin" (defArgs sBegin) (defBody sBegin) (defScope sBegin) .none kVBegin dcBegin pmBegin anBegin cdBegin ctBegin), FBegin := fun_mk (st := sBegin) lBegin eBegin kBegin, bBegin := (fun_mk (st := sBegin) lBegin eBegin kBegin).binds (ps := ["house", "args"]) fun _ _ _ _ _ _ us hl => match us, hl with | [_, _], _ => rfl,
    gBegin := PySem.W.mg_of X G aBegin,
    fIsKept := fIsKept, dIsKept := (PySem.W.fnOf "is_kept" "is_kept" (defArgs sIsKept) (defBody sIsKept) (defScope sIsKept) .none kVIsKept dcIsKept pmIsKept anIsKept cdIsKept ctIsKept), FIsKept := fun_mk (st := sIsKept) lIsKept eIsKept kIsKept, bIsKept := (fun_mk (st := sIsKept) lIsKept eIsKept kIsKept).binds (ps := ["nodes", "i", "t"]) fun _ _ _ _ _ _ us hl => match us, hl with | [_, _, _], _ => rfl,
    gIsKept := PySem.W.mg_of X G aIsKept,
    fChange := fChange, dChange := (PySem.W.fnOf "change" "change" (defArgs sChange) (defBody sChange) (defScope sChange) .none kVChange dcChange pmChange anChange cdChange ctChange), FChange := fun_mk (st := sChange) lChange eChange kChange, bChange := (fun_mk (st := sChange) lChange eChange kChange).binds (ps := ["house", "after", "answer"]) fun _ _ _ _ _ _ us hl => match us, hl with | [_, _, _], _ => rfl,
    gChange := PySem.W.mg_of X G aChange,
    fPutNode := fPutNode, dPutNode := (PySem.W.fnOf "put_node" "put_node" (defArgs sPutNode) (defBody sPutNode) (defScope sPutNode) .none kVPutNode dcPutNode pmPutNode anPutNode cdPutNode ctPutNode), FPutNode := fun_mk (st := sPutNode) lPutNode ePutNode kPutNode, bPutNode := (fun_mk (st := sPutNode) lPutNode ePutNode kPutNode).binds (ps := ["house", "node"]) fun _ _ _ _ _ _ us hl => match us, hl with | [_, _], _ => rfl,
    gPutNode := PySem.W.mg_of X G aPutNode,
    fPutLeaf := fPutLeaf, dPutLeaf := (PySem.W.fnOf "put_leaf" "put_leaf" (defArgs sPutLeaf) (defBody sPutLeaf) (defScope sPutLeaf) .none kVPutLeaf dcPutLeaf pmPutLeaf anPutLeaf cdPutLeaf ctPutLeaf), FPutLeaf := fun_mk (st := sPutLeaf) lPutLeaf ePutLeaf kPutLeaf, bPutLeaf := (fun_mk (st := sPutLeaf) lPutLeaf ePutLeaf kPutLeaf).binds (ps := ["house", "args"]) fun _ _ _ _ _ _ us hl => match us, hl with | [_, _], _ => rfl,
    gPutLeaf := PySem.W.mg_of X G aPutLeaf,
    fPutBranch := fPutBranch, dPutBranch := (PySem.W.fnOf "put_branch" "put_branch" (defArgs sPutBranch) (defBody sPutBranch) (defScope sPutBranch) .none kVPutBranch dcPutBranch pmPutBranch anPutBranch cdPutBranch ctPutBranch), FPutBranch := fun_mk (st := sPutBranch) lPutBranch ePutBranch kPutBranch, bPutBranch := (fun_mk (st := sPutBranch) lPutBranch ePutBranch kPutBranch).binds (ps := ["house", "kind", "row"]) fun _ _ _ _ _ _ us hl => match us, hl with | [_, _, _], _ => rfl,
    gPutBranch := PySem.W.mg_of X G aPutBranch,
    fPutAllOf := fPutAllOf, dPutAllOf := (PySem.W.fnOf "put_all_of" "put_all_of" (defArgs sPutAllOf) (defBody sPutAllOf) (defScope sPutAllOf) .none kVPutAllOf dcPutAllOf pmPutAllOf anPutAllOf cdPutAllOf ctPutAllOf), FPutAllOf := fun_mk (st := sPutAllOf) lPutAllOf ePutAllOf kPutAllOf, bPutAllOf := (fun_mk (st := sPutAllOf) lPutAllOf ePutAllOf kPutAllOf).binds (ps := ["house", "args"]) fun _ _ _ _ _ _ us hl => match us, hl with | [_, _], _ => rfl,
    gPutAllOf := PySem.W.mg_of X G aPutAllOf,
    fPutSomeOf := fPutSomeOf, dPutSomeOf := (PySem.W.fnOf "put_some_of" "put_some_of" (defArgs sPutSomeOf) (defBody sPutSomeOf) (defScope sPutSomeOf) .none kVPutSomeOf dcPutSomeOf pmPutSomeOf anPutSomeOf cdPutSomeOf ctPutSomeOf), FPutSomeOf := fun_mk (st := sPutSomeOf) lPutSomeOf ePutSomeOf kPutSomeOf, bPutSomeOf := (fun_mk (st := sPutSomeOf) lPutSomeOf ePutSomeOf kPutSomeOf).binds (ps := ["house", "args"]) fun _ _ _ _ _ _ us hl => match us, hl with | [_, _], _ => rfl,
    gPutSomeOf := PySem.W.mg_of X G aPutSomeOf,
    fPopNode := fPopNode, dPopNode := (PySem.W.fnOf "pop_node" "pop_node" (defArgs sPopNode) (defBody sPopNode) (defScope sPopNode) .none kVPopNode dcPopNode pmPopNode anPopNode cdPopNode ctPopNode), FPopNode := fun_mk (st := sPopNode) lPopNode ePopNode kPopNode, bPopNode := (fun_mk (st := sPopNode) lPopNode ePopNode kPopNode).binds (ps := ["house", "args"]) fun _ _ _ _ _ _ us hl => match us, hl with | [_, _], _ => rfl,
    gPopNode := PySem.W.mg_of X G aPopNode,
    fTellNode := fTellNode, dTellNode := (PySem.W.fnOf "tell_node" "tell_node" (defArgs sTellNode) (defBody sTellNode) (defScope sTellNode) .none kVTellNode dcTellNode pmTellNode anTellNode cdTellNode ctTellNode), FTellNode := fun_mk (st := sTellNode) lTellNode eTellNode kTellNode, bTellNode := (fun_mk (st := sTellNode) lTellNode eTellNode kTellNode).binds (ps := ["house", "args"]) fun _ _ _ _ _ _ us hl => match us, hl with | [_, _], _ => rfl,
    gTellNode := PySem.W.mg_of X G aTellNode,
    fFlipLeaf := fFlipLeaf, dFlipLeaf := (PySem.W.fnOf "flip_leaf" "flip_leaf" (defArgs sFlipLeaf) (defBody sFlipLeaf) (defScope sFlipLeaf) .none kVFlipLeaf dcFlipLeaf pmFlipLeaf anFlipLeaf cdFlipLeaf ctFlipLeaf), FFlipLeaf := fun_mk (st := sFlipLeaf) lFlipLeaf eFlipLeaf kFlipLeaf, bFlipLeaf := (fun_mk (st := sFlipLeaf) lFlipLeaf eFlipLeaf kFlipLeaf).binds (ps := ["house", "args"]) fun _ _ _ _ _ _ us hl => match us, hl with | [_, _], _ => rfl,
    gFlipLeaf := PySem.W.mg_of X G aFlipLeaf,
    fSetPrice := fSetPrice, dSetPrice := (PySem.W.fnOf "set_price" "set_price" (defArgs sSetPrice) (defBody sSetPrice) (defScope sSetPrice) .none kVSetPrice dcSetPrice pmSetPrice anSetPrice cdSetPrice ctSetPrice), FSetPrice := fun_mk (st := sSetPrice) lSetPrice eSetPrice kSetPrice, bSetPrice := (fun_mk (st := sSetPrice) lSetPrice eSetPrice kSetPrice).binds (ps := ["house", "args"]) fun _ _ _ _ _ _ us hl => match us, hl with | [_, _], _ => rfl,
    gSetPrice := PySem.W.mg_of X G aSetPrice,
    fReadThrice := fReadThrice, dReadThrice := (PySem.W.fnOf "read_thrice" "read_thrice" (defArgs sReadThrice) (defBody sReadThrice) (defScope sReadThrice) .none kVReadThrice dcReadThrice pmReadThrice anReadThrice cdReadThrice ctReadThrice), FReadThrice := fun_mk (st := sReadThrice) lReadThrice eReadThrice kReadThrice, bReadThrice := (fun_mk (st := sReadThrice) lReadThrice eReadThrice kReadThrice).binds (ps := ["house", "args"]) fun _ _ _ _ _ _ us hl => match us, hl with | [_, _], _ => rfl,
    gReadThrice := PySem.W.mg_of X G aReadThrice,
    fReadOnce := fReadOnce, dReadOnce := (PySem.W.fnOf "read_once" "read_once" (defArgs sReadOnce) (defBody sReadOnce) (defScope sReadOnce) .none kVReadOnce dcReadOnce pmReadOnce anReadOnce cdReadOnce ctReadOnce), FReadOnce := fun_mk (st := sReadOnce) lReadOnce eReadOnce kReadOnce, bReadOnce := (fun_mk (st := sReadOnce) lReadOnce eReadOnce kReadOnce).binds (ps := ["house", "args"]) fun _ _ _ _ _ _ us hl => match us, hl with | [_, _], _ => rfl,
    gReadOnce := PySem.W.mg_of X G aReadOnce,
    fTellMisread := fTellMisread, dTellMisread := (PySem.W.fnOf "tell_misread" "tell_misread" (defArgs sTellMisread) (defBody sTellMisread) (defScope sTellMisread) .none kVTellMisread dcTellMisread pmTellMisread anTellMisread cdTellMisread ctTellMisread), FTellMisread := fun_mk (st := sTellMisread) lTellMisread eTellMisread kTellMisread, bTellMisread := (fun_mk (st := sTellMisread) lTellMisread eTellMisread kTellMisread).binds (ps := ["house", "args"]) fun _ _ _ _ _ _ us hl => match us, hl with | [_, _], _ => rfl,
    gTellMisread := PySem.W.mg_of X G aTellMisread,
    fTellTruth := fTellTruth, dTellTruth := (PySem.W.fnOf "tell_truth" "tell_truth" (defArgs sTellTruth) (defBody sTellTruth) (defScope sTellTruth) .none kVTellTruth dcTellTruth pmTellTruth anTellTruth cdTellTruth ctTellTruth), FTellTruth := fun_mk (st := sTellTruth) lTellTruth eTellTruth kTellTruth, bTellTruth := (fun_mk (st := sTellTruth) lTellTruth eTellTruth kTellTruth).binds (ps := ["house", "args"]) fun _ _ _ _ _ _ us hl => match us, hl with | [_, _], _ => rfl,
    gTellTruth := PySem.W.mg_of X G aTellTruth,
    fTellRight := fTellRight, dTellRight := (PySem.W.fnOf "tell_right" "tell_right" (defArgs sTellRight) (defBody sTellRight) (defScope sTellRight) .none kVTellRight dcTellRight pmTellRight anTellRight cdTellRight ctTellRight), FTellRight := fun_mk (st := sTellRight) lTellRight eTellRight kTellRight, bTellRight := (fun_mk (st := sTellRight) lTellRight eTellRight kTellRight).binds (ps := ["house", "args"]) fun _ _ _ _ _ _ us hl => match us, hl with | [_, _], _ => rfl,
    gTellRight := PySem.W.mg_of X G aTellRight,
    fTellEnd := fTellEnd, dTellEnd := (PySem.W.fnOf "tell_end" "tell_end" (defArgs sTellEnd) (defBody sTellEnd) (defScope sTellEnd) .none kVTellEnd dcTellEnd pmTellEnd anTellEnd cdTellEnd ctTellEnd), FTellEnd := fun_mk (st := sTellEnd) lTellEnd eTellEnd kTellEnd, bTellEnd := (fun_mk (st := sTellEnd) lTellEnd eTellEnd kTellEnd).binds (ps := ["house", "args"]) fun _ _ _ _ _ _ us hl => match us, hl with | [_, _], _ => rfl,
    gTellEnd := PySem.W.mg_of X G aTellEnd,
    fRefusalOfClaims := fRefusalOfClaims, dRefusalOfClaims := (PySem.W.fnOf "refusal_of_claims" "refusal_of_claims" (defArgs sRefusalOfClaims) (defBody sRefusalOfClaims) (defScope sRefusalOfClaims) .none kVRefusalOfClaims dcRefusalOfClaims pmRefusalOfClaims anRefusalOfClaims cdRefusalOfClaims ctRefusalOfClaims), FRefusalOfClaims := fun_mk (st := sRefusalOfClaims) lRefusalOfClaims eRefusalOfClaims kRefusalOfClaims, bRefusalOfClaims := (fun_mk (st := sRefusalOfClaims) lRefusalOfClaims eRefusalOfClaims kRefusalOfClaims).binds (ps := ["nodes", "args"]) fun _ _ _ _ _ _ us hl => match us, hl with | [_, _], _ => rfl,
    gRefusalOfClaims := PySem.W.mg_of X G aRefusalOfClaims,
    fTellCheapest := fTellCheapest, dTellCheapest := (PySem.W.fnOf "tell_cheapest" "tell_cheapest" (defArgs sTellCheapest) (defBody sTellCheapest) (defScope sTellCheapest) .none kVTellCheapest dcTellCheapest pmTellCheapest anTellCheapest cdTellCheapest ctTellCheapest), FTellCheapest := fun_mk (st := sTellCheapest) lTellCheapest eTellCheapest kTellCheapest, bTellCheapest := (fun_mk (st := sTellCheapest) lTellCheapest eTellCheapest kTellCheapest).binds (ps := ["house", "args"]) fun _ _ _ _ _ _ us hl => match us, hl with | [_, _], _ => rfl,
    gTellCheapest := PySem.W.mg_of X G aTellCheapest,
    fBuyLooks := fBuyLooks, dBuyLooks := (PySem.W.fnOf "buy_looks" "buy_looks" (defArgs sBuyLooks) (defBody sBuyLooks) (defScope sBuyLooks) .none kVBuyLooks dcBuyLooks pmBuyLooks anBuyLooks cdBuyLooks ctBuyLooks), FBuyLooks := fun_mk (st := sBuyLooks) lBuyLooks eBuyLooks kBuyLooks, bBuyLooks := (fun_mk (st := sBuyLooks) lBuyLooks eBuyLooks kBuyLooks).binds (ps := ["house", "args"]) fun _ _ _ _ _ _ us hl => match us, hl with | [_, _], _ => rfl,
    gBuyLooks := PySem.W.mg_of X G aBuyLooks,
    fPutPromise := fPutPromise, dPutPromise := (PySem.W.fnOf "put_promise" "put_promise" (defArgs sPutPromise) (defBody sPutPromise) (defScope sPutPromise) .none kVPutPromise dcPutPromise pmPutPromise anPutPromise cdPutPromise ctPutPromise), FPutPromise := fun_mk (st := sPutPromise) lPutPromise ePutPromise kPutPromise, bPutPromise := (fun_mk (st := sPutPromise) lPutPromise ePutPromise kPutPromise).binds (ps := ["house", "args"]) fun _ _ _ _ _ _ us hl => match us, hl with | [_, _], _ => rfl,
    gPutPromise := PySem.W.mg_of X G aPutPromise,
    fTakeBackPromise := fTakeBackPromise, dTakeBackPromise := (PySem.W.fnOf "take_back_promise" "take_back_promise" (defArgs sTakeBackPromise) (defBody sTakeBackPromise) (defScope sTakeBackPromise) .none kVTakeBackPromise dcTakeBackPromise pmTakeBackPromise anTakeBackPromise cdTakeBackPromise ctTakeBackPromise), FTakeBackPromise := fun_mk (st := sTakeBackPromise) lTakeBackPromise eTakeBackPromise kTakeBackPromise, bTakeBackPromise := (fun_mk (st := sTakeBackPromise) lTakeBackPromise eTakeBackPromise kTakeBackPromise).binds (ps := ["house", "args"]) fun _ _ _ _ _ _ us hl => match us, hl with | [_, _], _ => rfl,
    gTakeBackPromise := PySem.W.mg_of X G aTakeBackPromise,
    fTellPromise := fTellPromise, dTellPromise := (PySem.W.fnOf "tell_promise" "tell_promise" (defArgs sTellPromise) (defBody sTellPromise) (defScope sTellPromise) .none kVTellPromise dcTellPromise pmTellPromise anTellPromise cdTellPromise ctTellPromise), FTellPromise := fun_mk (st := sTellPromise) lTellPromise eTellPromise kTellPromise, bTellPromise := (fun_mk (st := sTellPromise) lTellPromise eTellPromise kTellPromise).binds (ps := ["house", "args"]) fun _ _ _ _ _ _ us hl => match us, hl with | [_, _], _ => rfl,
    gTellPromise := PySem.W.mg_of X G aTellPromise,
    fTellTightest := fTellTightest, dTellTightest := (PySem.W.fnOf "tell_tightest" "tell_tightest" (defArgs sTellTightest) (defBody sTellTightest) (defScope sTellTightest) .none kVTellTightest dcTellTightest pmTellTightest anTellTightest cdTellTightest ctTellTightest), FTellTightest := fun_mk (st := sTellTightest) lTellTightest eTellTightest kTellTightest, bTellTightest := (fun_mk (st := sTellTightest) lTellTightest eTellTightest kTellTightest).binds (ps := ["house", "args"]) fun _ _ _ _ _ _ us hl => match us, hl with | [_, _], _ => rfl,
    gTellTightest := PySem.W.mg_of X G aTellTightest,
    fHear := fHear, dHear := (PySem.W.fnOf "hear" "hear" (defArgs sHear) (defBody sHear) (defScope sHear) .none kVHear dcHear pmHear anHear cdHear ctHear), FHear := fun_mk (st := sHear) lHear eHear kHear, bHear := (fun_mk (st := sHear) lHear eHear kHear).binds (ps := ["house", "args"]) fun _ _ _ _ _ _ us hl => match us, hl with | [_, _], _ => rfl,
    gHear := PySem.W.mg_of X G aHear,
    fTellHearingAhead := fTellHearingAhead, dTellHearingAhead := (PySem.W.fnOf "tell_hearing_ahead" "tell_hearing_ahead" (defArgs sTellHearingAhead) (defBody sTellHearingAhead) (defScope sTellHearingAhead) .none kVTellHearingAhead dcTellHearingAhead pmTellHearingAhead anTellHearingAhead cdTellHearingAhead ctTellHearingAhead), FTellHearingAhead := fun_mk (st := sTellHearingAhead) lTellHearingAhead eTellHearingAhead kTellHearingAhead, bTellHearingAhead := (fun_mk (st := sTellHearingAhead) lTellHearingAhead eTellHearingAhead kTellHearingAhead).binds (ps := ["house", "args"]) fun _ _ _ _ _ _ us hl => match us, hl with | [_, _], _ => rfl,
    gTellHearingAhead := PySem.W.mg_of X G aTellHearingAhead,
    fTellEntry := fTellEntry, dTellEntry := (PySem.W.fnOf "tell_entry" "tell_entry" (defArgs sTellEntry) (defBody sTellEntry) (defScope sTellEntry) .none kVTellEntry dcTellEntry pmTellEntry anTellEntry cdTellEntry ctTellEntry), FTellEntry := fun_mk (st := sTellEntry) lTellEntry eTellEntry kTellEntry, bTellEntry := (fun_mk (st := sTellEntry) lTellEntry eTellEntry kTellEntry).binds (ps := ["house", "args"]) fun _ _ _ _ _ _ us hl => match us, hl with | [_, _], _ => rfl,
    gTellEntry := PySem.W.mg_of X G aTellEntry,
    fTellTally := fTellTally, dTellTally := (PySem.W.fnOf "tell_tally" "tell_tally" (defArgs sTellTally) (defBody sTellTally) (defScope sTellTally) .none kVTellTally dcTellTally pmTellTally anTellTally cdTellTally ctTellTally), FTellTally := fun_mk (st := sTellTally) lTellTally eTellTally kTellTally, bTellTally := (fun_mk (st := sTellTally) lTellTally eTellTally kTellTally).binds (ps := ["house", "args"]) fun _ _ _ _ _ _ us hl => match us, hl with | [_, _], _ => rfl,
    gTellTally := PySem.W.mg_of X G aTellTally,
    fTellOwed := fTellOwed, dTellOwed := (PySem.W.fnOf "tell_owed" "tell_owed" (defArgs sTellOwed) (defBody sTellOwed) (defScope sTellOwed) .none kVTellOwed dcTellOwed pmTellOwed anTellOwed cdTellOwed ctTellOwed), FTellOwed := fun_mk (st := sTellOwed) lTellOwed eTellOwed kTellOwed, bTellOwed := (fun_mk (st := sTellOwed) lTellOwed eTellOwed kTellOwed).binds (ps := ["house", "args"]) fun _ _ _ _ _ _ us hl => match us, hl with | [_, _], _ => rfl,
    gTellOwed := PySem.W.mg_of X G aTellOwed,
    fPayIn := fPayIn, dPayIn := (PySem.W.fnOf "pay_in" "pay_in" (defArgs sPayIn) (defBody sPayIn) (defScope sPayIn) .none kVPayIn dcPayIn pmPayIn anPayIn cdPayIn ctPayIn), FPayIn := fun_mk (st := sPayIn) lPayIn ePayIn kPayIn, bPayIn := (fun_mk (st := sPayIn) lPayIn ePayIn kPayIn).binds (ps := ["house", "args"]) fun _ _ _ _ _ _ us hl => match us, hl with | [_, _], _ => rfl,
    gPayIn := PySem.W.mg_of X G aPayIn,
    fTellStakes := fTellStakes, dTellStakes := (PySem.W.fnOf "tell_stakes" "tell_stakes" (defArgs sTellStakes) (defBody sTellStakes) (defScope sTellStakes) .none kVTellStakes dcTellStakes pmTellStakes anTellStakes cdTellStakes ctTellStakes), FTellStakes := fun_mk (st := sTellStakes) lTellStakes eTellStakes kTellStakes, bTellStakes := (fun_mk (st := sTellStakes) lTellStakes eTellStakes kTellStakes).binds (ps := ["house", "args"]) fun _ _ _ _ _ _ us hl => match us, hl with | [_, _], _ => rfl,
    gTellStakes := PySem.W.mg_of X G aTellStakes,
    fSplitCalls := fSplitCalls, dSplitCalls := (PySem.W.fnOf "split_calls" "split_calls" (defArgs sSplitCalls) (defBody sSplitCalls) (defScope sSplitCalls) .none kVSplitCalls dcSplitCalls pmSplitCalls anSplitCalls cdSplitCalls ctSplitCalls), FSplitCalls := fun_mk (st := sSplitCalls) lSplitCalls eSplitCalls kSplitCalls, bSplitCalls := (fun_mk (st := sSplitCalls) lSplitCalls eSplitCalls kSplitCalls).binds (ps := ["calls"]) fun _ _ _ _ _ _ us hl => match us, hl with | [_], _ => rfl,
    gSplitCalls := PySem.W.mg_of X G aSplitCalls,
    fAnswerTo := fAnswerTo, dAnswerTo := (PySem.W.fnOf "answer_to" "answer_to" (defArgs sAnswerTo) (defBody sAnswerTo) (defScope sAnswerTo) .none kVAnswerTo dcAnswerTo pmAnswerTo anAnswerTo cdAnswerTo ctAnswerTo), FAnswerTo := fun_mk (st := sAnswerTo) lAnswerTo eAnswerTo kAnswerTo, bAnswerTo := (fun_mk (st := sAnswerTo) lAnswerTo eAnswerTo kAnswerTo).binds (ps := ["house", "number", "args"]) fun _ _ _ _ _ _ us hl => match us, hl with | [_, _, _], _ => rfl,
    gAnswerTo := PySem.W.mg_of X G aAnswerTo,
    fAnswers := fAnswers, dAnswers := (PySem.W.fnOf "answers" "answers" (defArgs sAnswers) (defBody sAnswers) (defScope sAnswers) .none kVAnswers dcAnswers pmAnswers anAnswers cdAnswers ctAnswers), FAnswers := fun_mk (st := sAnswers) lAnswers eAnswers kAnswers, bAnswers := (fun_mk (st := sAnswers) lAnswers eAnswers kAnswers).binds (ps := ["calls"]) fun _ _ _ _ _ _ us hl => match us, hl with | [_], _ => rfl,
    gAnswers := PySem.W.mg_of X G aAnswers,
    aPLAIN_NUMBERS := aPLAIN_NUMBERS, gPLAIN_NUMBERS := PySem.W.mg_of X G gPLAIN_NUMBERS, sPLAIN_NUMBERS := fun H => .inr ⟨_, itsPLAIN_NUMBERS, nPLAIN_NUMBERS, lPLAIN_NUMBERS, rfl, rfl, (by rw [← Array.length_toList, ← vPLAIN_NUMBERS.length]; show 27 ≤ sizeLine; decide), vPLAIN_NUMBERS⟩,
    aWITH_A_ROW := aWITH_A_ROW, gWITH_A_ROW := PySem.W.mg_of X G gWITH_A_ROW, sWITH_A_ROW := fun H => .inr ⟨_, itsWITH_A_ROW, nWITH_A_ROW, lWITH_A_ROW, rfl, rfl, (by rw [← Array.length_toList, ← vWITH_A_ROW.length]; show 4 ≤ sizeLine; decide), vWITH_A_ROW⟩,
    aABOUT_A_NODE := aABOUT_A_NODE, gABOUT_A_NODE := PySem.W.mg_of X G gABOUT_A_NODE, sABOUT_A_NODE := fun H => .inr ⟨_, itsABOUT_A_NODE, nABOUT_A_NODE, lABOUT_A_NODE, rfl, rfl, (by rw [← Array.length_toList, ← vABOUT_A_NODE.length]; show 14 ≤ sizeLine; decide), vABOUT_A_NODE⟩,
    aANSWERED_BY := aANSWERED_BY, gANSWERED_BY := PySem.W.mg_of X G gANSWERED_BY, sANSWERED_BY := fun H => .inr ⟨_, itsANSWERED_BY, nANSWERED_BY, lANSWERED_BY, rfl, rfl, (by rw [← Array.length_toList, ← vANSWERED_BY.length]; show 27 ≤ sizeLine; decide), vANSWERED_BY⟩,
    clNode := ⟨pgNode, hdNode, poNode, saNode⟩,
    nNode_kind := nNode_kind,
    nNode_so := nNode_so,
    nNode_wrong := nNode_wrong,
    nNode_children := nNode_children,
    nNode_price := nNode_price,
    nNode_thrice := nNode_thrice,
    mkNode := ⟨mkNode, aNodeInit, iNodeInit, kcNode⟩,
    clHearing := ⟨pgHearing, hdHearing, poHearing, saHearing⟩,
    nHearing_node := nHearing_node,
    nHearing_leaf := nHearing_leaf,
    nHearing_held := nHearing_held,
    nHearing_cost := nHearing_cost,
    nHearing_wrong := nHearing_wrong,
    mkHearing := ⟨mkHearing, aHearingInit, iHearingInit, kcHearing⟩,
    clHouse := ⟨pgHouse, hdHouse, poHouse, saHouse⟩,
    nHouse_begun := nHouse_begun,
    nHouse_purse := nHouse_purse,
    nHouse_nodes := nHouse_nodes,
    nHouse_promises := nHouse_promises,
    nHouse_log := nHouse_log,
    mkHouse := ⟨mkHouse, aHouseInit, iHouseInit, kcHouse⟩ }
theorem ans_of {P : Program} {w : World} {K : PySem.W.Frag} {mg : Str → Option Value} {h : Heap} {fa : Addr} (_X : K.In h) (hmg : mg "answers" = some (.ref fa)) (T : Tx K mg) :
    ∃ fd : FuncData, (∀ (s : Shared) (us : List Value), us.length = (["calls"] : List Str).length → BindsTo s fd ⟨us, []⟩ ((["calls"] : List Str).zip us)) ∧ ∀ base : Heap, K.In base → base.Ns mainGlobals mg → FnOk P w K mg base CX0 9 fa fd ["calls"] (spAns K) := by
  have e0 := hmg.symm.trans T.gAnswers
  have e1 : fa = T.fAnswers := by cases e0; rfl
  subst e1
  obtain ⟨oc, od, kV, doc, pm, an, cdv, ct, osl, e, lk, hcd⟩ := T.FAnswers.ex
  refine ⟨T.dAnswers, fun s us hu => ?_, fun base _ _ => ok_Answers T⟩
  rw [e]
  match us, hu with
  | [_], _ => exact .of_eq rfl
end Sg

open PySem PySem.W PyProof.Rows
set_option maxRecDepth 100000 in
set_option maxHeartbeats 0 in
theorem PySem.Challenge.cw_strongones_s01_answers_holds : PySem.Challenge.rw_strongones_s01_answers.Holds := by
  w_on; k_headS; (case hw => exact ⟨[.list [.int 0, .int 0]], by decide +kernel, by decide +kernel⟩)
  k_fillS
  refine L2.walk_specK (r := PySem.Challenge.rw_strongones_s01_answers) (k := 9) (CX := L2.CX0) (ps := ["calls"]) (sp := Sg.spAns) (by decide +kernel) rfl rfl ⟨rfl, by decide, by decide⟩ (fun w h Y => PySem.W.kIn_of Y) ?F ?S (fun _ _ _ _ z => z)
  case F =>
    intro w mg fa h Y KX G hmg
    refine' Sg.ans_of KX hmg (Sg.tx_mk KX G ?aLEAF ?aALL_OF ?aSOME_OF ?aMOST_NODES ?aMOST_IN_ROW ?aWHOLE ?aHUNDREDTH ?aMOST_LUCK ?aMOST_STAKE ?aNO_SUCH ?aNOTHING_THERE ?aNOT_BEGUN ?aSO_ALREADY ?aTOO_LITTLE ?aNOT_AS_TOLD ?aFULL ?aNOT_KEPT ?aNO_FIT ?aMOST_AT_ONCE ?aMOST_IN_PURSE ?aMOST_HUNDREDTHS ?aMOST_PRICE ?aMOST_LEAVES ?aMOST_PROMISES ?aMOST_HEARINGS ?aMOST_GAIN ?aBEGIN ?zany ?zall ?zmin ?zmax ?zsum ?zlen ?zset ?zlist ?zrange ?zenumerate ?zsorted ?zzip ?aNode ?aHearing ?aHouse ?aNodeInit ?iNodeInit ?lNodeInit ?eNodeInit ?kNodeInit ?aNewLeaf ?lNewLeaf ?eNewLeaf ?kNewLeaf ?aNewBranch ?lNewBranch ?eNewBranch ?kNewBranch ?aCopyRead ?lCopyRead ?eCopyRead ?kCopyRead ?aCopiesReadBy ?lCopiesReadBy ?eCopiesReadBy ?kCopiesReadBy ?aCopiesOf ?lCopiesOf ?eCopiesOf ?kCopiesOf ?aAreNodes ?lAreNodes ?eAreNodes ?kAreNodes ?aIsChild ?lIsChild ?eIsChild ?kIsChild ?aMayBeChildren ?lMayBeChildren ?eMayBeChildren ?kMayBeChildren ?aReadsNow ?lReadsNow ?eReadsNow ?kReadsNow ?aCostOfAll ?lCostOfAll ?eCostOfAll ?kCostOfAll ?aMisreadOf ?lMisreadOf ?eMisreadOf ?kMisreadOf ?aTruths ?lTruths ?eTruths ?kTruths ?aHeldOfLeaf ?lHeldOfLeaf ?eHeldOfLeaf ?kHeldOfLeaf ?aAllHeld ?lAllHeld ?eAllHeld ?kAllHeld ?aRightWins ?lRightWins ?eRightWins ?kRightWins ?aRightOf ?lRightOf ?eRightOf ?kRightOf ?aEndOf ?lEndOf ?eEndOf ?kEndOf ?aFraction ?lFraction ?eFraction ?kFraction ?aHearingInit ?iHearingInit ?lHearingInit ?eHearingInit ?kHearingInit ?aIsLuck ?lIsLuck ?eIsLuck ?kIsLuck ?aHoldHearing ?lHoldHearing ?eHoldHearing ?kHoldHearing ?aWellHeld ?lWellHeld ?eWellHeld ?kWellHeld ?aCostOfHearings ?lCostOfHearings ?eCostOfHearings ?kCostOfHearings ?aWrongTogether ?lWrongTogether ?eWrongTogether ?kWrongTogether ?aLeavesOf ?lLeavesOf ?eLeavesOf ?kLeavesOf ?aSetsOf ?lSetsOf ?eSetsOf ?kSetsOf ?aReadsOf ?lReadsOf ?eReadsOf ?kReadsOf ?aCheapestSet ?lCheapestSet ?eCheapestSet ?kCheapestSet ?aAreFair ?lAreFair ?eAreFair ?kAreFair ?aLeastStakes ?lLeastStakes ?eLeastStakes ?kLeastStakes ?aHouseInit ?iHouseInit ?lHouseInit ?eHouseInit ?kHouseInit ?aBegin ?lBegin ?eBegin ?kBegin ?aIsKept ?lIsKept ?eIsKept ?kIsKept ?aChange ?lChange ?eChange ?kChange ?aPutNode ?lPutNode ?ePutNode ?kPutNode ?aPutLeaf ?lPutLeaf ?ePutLeaf ?kPutLeaf ?aPutBranch ?lPutBranch ?ePutBranch ?kPutBranch ?aPutAllOf ?lPutAllOf ?ePutAllOf ?kPutAllOf ?aPutSomeOf ?lPutSomeOf ?ePutSomeOf ?kPutSomeOf ?aPopNode ?lPopNode ?ePopNode ?kPopNode ?aTellNode ?lTellNode ?eTellNode ?kTellNode ?aFlipLeaf ?lFlipLeaf ?eFlipLeaf ?kFlipLeaf ?aSetPrice ?lSetPrice ?eSetPrice ?kSetPrice ?aReadThrice ?lReadThrice ?eReadThrice ?kReadThrice ?aReadOnce ?lReadOnce ?eReadOnce ?kReadOnce ?aTellMisread ?lTellMisread ?eTellMisread ?kTellMisread ?aTellTruth ?lTellTruth ?eTellTruth ?kTellTruth ?aTellRight ?lTellRight ?eTellRight ?kTellRight ?aTellEnd ?lTellEnd ?eTellEnd ?kTellEnd ?aRefusalOfClaims ?lRefusalOfClaims ?eRefusalOfClaims ?kRefusalOfClaims ?aTellCheapest ?lTellCheapest ?eTellCheapest ?kTellCheapest ?aBuyLooks ?lBuyLooks ?eBuyLooks ?kBuyLooks ?aPutPromise ?lPutPromise ?ePutPromise ?kPutPromise ?aTakeBackPromise ?lTakeBackPromise ?eTakeBackPromise ?kTakeBackPromise ?aTellPromise ?lTellPromise ?eTellPromise ?kTellPromise ?aTellTightest ?lTellTightest ?eTellTightest ?kTellTightest ?aHear ?lHear ?eHear ?kHear ?aTellHearingAhead ?lTellHearingAhead ?eTellHearingAhead ?kTellHearingAhead ?aTellEntry ?lTellEntry ?eTellEntry ?kTellEntry ?aTellTally ?lTellTally ?eTellTally ?kTellTally ?aTellOwed ?lTellOwed ?eTellOwed ?kTellOwed ?aPayIn ?lPayIn ?ePayIn ?kPayIn ?aTellStakes ?lTellStakes ?eTellStakes ?kTellStakes ?aSplitCalls ?lSplitCalls ?eSplitCalls ?kSplitCalls ?aAnswerTo ?lAnswerTo ?eAnswerTo ?kAnswerTo ?aAnswers ?lAnswers ?eAnswers ?kAnswers ?gPLAIN_NUMBERS ?lPLAIN_NUMBERS ?vPLAIN_NUMBERS ?gWITH_A_ROW ?lWITH_A_ROW ?vWITH_A_ROW ?gABOUT_A_NODE ?lABOUT_A_NODE ?vABOUT_A_NODE ?gANSWERED_BY ?lANSWERED_BY ?vANSWERED_BY ?pgNode ?hdNode ?poNode ?saNode ?mkNode ?kcNode ?nNode_kind ?nNode_so ?nNode_wrong ?nNode_children ?nNode_price ?nNode_thrice ?pgHearing ?hdHearing ?poHearing ?saHearing ?mkHearing ?kcHearing ?nHearing_node ?nHearing_leaf ?nHearing_held ?nHearing_cost ?nHearing_wrong ?pgHouse ?hdHouse ?poHouse ?saHouse ?mkHouse ?kcHouse ?nHouse_begun ?nHouse_purse ?nHouse_nodes ?nHouse_promises ?nHouse_log)
    (case aLEAF => k_is)
    (case aALL_OF => k_is)
    (case aSOME_OF => k_is)
    (case aMOST_NODES => k_is)
    (case aMOST_IN_ROW => k_is)
    (case aWHOLE => k_is)
    (case aHUNDREDTH => k_is)
    (case aMOST_LUCK => k_is)
    (case aMOST_STAKE => k_is)
    (case aNO_SUCH => k_is)
    (case aNOTHING_THERE => k_is)
    (case aNOT_BEGUN => k_is)
    (case aSO_ALREADY => k_is)
    (case aTOO_LITTLE => k_is)
    (case aNOT_AS_TOLD => k_is)
    (case aFULL => k_is)
    (case aNOT_KEPT => k_is)
    (case aNO_FIT => k_is)
    (case aMOST_AT_ONCE => k_is)
    (case aMOST_IN_PURSE => k_is)
    (case aMOST_HUNDREDTHS => k_is)
    (case aMOST_PRICE => k_is)
    (case aMOST_LEAVES => k_is)
    (case aMOST_PROMISES => k_is)
    (case aMOST_HEARINGS => k_is)
    (case aMOST_GAIN => k_is)
    (case aBEGIN => k_is)
    (case zany => k_is)
    (case zall => k_is)
    (case zmin => k_is)
    (case zmax => k_is)
    (case zsum => k_is)
    (case zlen => k_is)
    (case zset => k_is)
    (case zlist => k_is)
    (case zrange => k_is)
    (case zenumerate => k_is)
    (case zsorted => k_is)
    (case zzip => k_is)
    (case aNode => k_is)
    (case aHearing => k_is)
    (case aHouse => k_is)
    (case aNodeInit => k_is)
    (case iNodeInit => k_is)
    (case lNodeInit => k_is)
    (case eNodeInit => k_is)
    (case kNodeInit => k_is)
    (case aNewLeaf => k_is)
    (case lNewLeaf => k_is)
    (case eNewLeaf => k_is)
    (case kNewLeaf => k_is)
    (case aNewBranch => k_is)
    (case lNewBranch => k_is)
    (case eNewBranch => k_is)
    (case kNewBranch => k_is)
    (case aCopyRead => k_is)
    (case lCopyRead => k_is)
    (case eCopyRead => k_is)
    (case kCopyRead => k_is)
    (case aCopiesReadBy => k_is)
    (case lCopiesReadBy => k_is)
    (case eCopiesReadBy => k_is)
    (case kCopiesReadBy => k_is)
    (case aCopiesOf => k_is)
    (case lCopiesOf => k_is)
    (case eCopiesOf => k_is)
    (case kCopiesOf => k_is)
    (case aAreNodes => k_is)
    (case lAreNodes => k_is)
    (case eAreNodes => k_is)
    (case kAreNodes => k_is)
    (case aIsChild => k_is)
    (case lIsChild => k_is)
    (case eIsChild => k_is)
    (case kIsChild => k_is)
    (case aMayBeChildren => k_is)
    (case lMayBeChildren => k_is)
    (case eMayBeChildren => k_is)
    (case kMayBeChildren => k_is)
    (case aReadsNow => k_is)
    (case lReadsNow => k_is)
    (case eReadsNow => k_is)
    (case kReadsNow => k_is)
    (case aCostOfAll => k_is)
    (case lCostOfAll => k_is)
    (case eCostOfAll => k_is)
    (case kCostOfAll => k_is)
    (case aMisreadOf => k_is)
    (case lMisreadOf => k_is)
    (case eMisreadOf => k_is)
    (case kMisreadOf => k_is)
    (case aTruths => k_is)
    (case lTruths => k_is)
    (case eTruths => k_is)
    (case kTruths => k_is)
    (case aHeldOfLeaf => k_is)
    (case lHeldOfLeaf => k_is)
    (case eHeldOfLeaf => k_is)
    (case kHeldOfLeaf => k_is)
    (case aAllHeld => k_is)
    (case lAllHeld => k_is)
    (case eAllHeld => k_is)
    (case kAllHeld => k_is)
    (case aRightWins => k_is)
    (case lRightWins => k_is)
    (case eRightWins => k_is)
    (case kRightWins => k_is)
    (case aRightOf => k_is)
    (case lRightOf => k_is)
    (case eRightOf => k_is)
    (case kRightOf => k_is)
    (case aEndOf => k_is)
    (case lEndOf => k_is)
    (case eEndOf => k_is)
    (case kEndOf => k_is)
    (case aFraction => k_is)
    (case lFraction => k_is)
    (case eFraction => k_is)
    (case kFraction => k_is)
    (case aHearingInit => k_is)
    (case iHearingInit => k_is)
    (case lHearingInit => k_is)
    (case eHearingInit => k_is)
    (case kHearingInit => k_is)
    (case aIsLuck => k_is)
    (case lIsLuck => k_is)
    (case eIsLuck => k_is)
    (case kIsLuck => k_is)
    (case aHoldHearing => k_is)
    (case lHoldHearing => k_is)
    (case eHoldHearing => k_is)
    (case kHoldHearing => k_is)
    (case aWellHeld => k_is)
    (case lWellHeld => k_is)
    (case eWellHeld => k_is)
    (case kWellHeld => k_is)
    (case aCostOfHearings => k_is)
    (case lCostOfHearings => k_is)
    (case eCostOfHearings => k_is)
    (case kCostOfHearings => k_is)
    (case aWrongTogether => k_is)
    (case lWrongTogether => k_is)
    (case eWrongTogether => k_is)
    (case kWrongTogether => k_is)
    (case aLeavesOf => k_is)
    (case lLeavesOf => k_is)
    (case eLeavesOf => k_is)
    (case kLeavesOf => k_is)
    (case aSetsOf => k_is)
    (case lSetsOf => k_is)
    (case eSetsOf => k_is)
    (case kSetsOf => k_is)
    (case aReadsOf => k_is)
    (case lReadsOf => k_is)
    (case eReadsOf => k_is)
    (case kReadsOf => k_is)
    (case aCheapestSet => k_is)
    (case lCheapestSet => k_is)
    (case eCheapestSet => k_is)
    (case kCheapestSet => k_is)
    (case aAreFair => k_is)
    (case lAreFair => k_is)
    (case eAreFair => k_is)
    (case kAreFair => k_is)
    (case aLeastStakes => k_is)
    (case lLeastStakes => k_is)
    (case eLeastStakes => k_is)
    (case kLeastStakes => k_is)
    (case aHouseInit => k_is)
    (case iHouseInit => k_is)
    (case lHouseInit => k_is)
    (case eHouseInit => k_is)
    (case kHouseInit => k_is)
    (case aBegin => k_is)
    (case lBegin => k_is)
    (case eBegin => k_is)
    (case kBegin => k_is)
    (case aIsKept => k_is)
    (case lIsKept => k_is)
    (case eIsKept => k_is)
    (case kIsKept => k_is)
    (case aChange => k_is)
    (case lChange => k_is)
    (case eChange => k_is)
    (case kChange => k_is)
    (case aPutNode => k_is)
    (case lPutNode => k_is)
    (case ePutNode => k_is)
    (case kPutNode => k_is)
    (case aPutLeaf => k_is)
    (case lPutLeaf => k_is)
    (case ePutLeaf => k_is)
    (case kPutLeaf => k_is)
    (case aPutBranch => k_is)
    (case lPutBranch => k_is)
    (case ePutBranch => k_is)
    (case kPutBranch => k_is)
    (case aPutAllOf => k_is)
    (case lPutAllOf => k_is)
    (case ePutAllOf => k_is)
    (case kPutAllOf => k_is)
    (case aPutSomeOf => k_is)
    (case lPutSomeOf => k_is)
    (case ePutSomeOf => k_is)
    (case kPutSomeOf => k_is)
    (case aPopNode => k_is)
    (case lPopNode => k_is)
    (case ePopNode => k_is)
    (case kPopNode => k_is)
    (case aTellNode => k_is)
    (case lTellNode => k_is)
    (case eTellNode => k_is)
    (case kTellNode => k_is)
    (case aFlipLeaf => k_is)
    (case lFlipLeaf => k_is)
    (case eFlipLeaf => k_is)
    (case kFlipLeaf => k_is)
    (case aSetPrice => k_is)
    (case lSetPrice => k_is)
    (case eSetPrice => k_is)
    (case kSetPrice => k_is)
    (case aReadThrice => k_is)
    (case lReadThrice => k_is)
    (case eReadThrice => k_is)
    (case kReadThrice => k_is)
    (case aReadOnce => k_is)
    (case lReadOnce => k_is)
    (case eReadOnce => k_is)
    (case kReadOnce => k_is)
    (case aTellMisread => k_is)
    (case lTellMisread => k_is)
    (case eTellMisread => k_is)
    (case kTellMisread => k_is)
    (case aTellTruth => k_is)
    (case lTellTruth => k_is)
    (case eTellTruth => k_is)
    (case kTellTruth => k_is)
    (case aTellRight => k_is)
    (case lTellRight => k_is)
    (case eTellRight => k_is)
    (case kTellRight => k_is)
    (case aTellEnd => k_is)
    (case lTellEnd => k_is)
    (case eTellEnd => k_is)
    (case kTellEnd => k_is)
    (case aRefusalOfClaims => k_is)
    (case lRefusalOfClaims => k_is)
    (case eRefusalOfClaims => k_is)
    (case kRefusalOfClaims => k_is)
    (case aTellCheapest => k_is)
    (case lTellCheapest => k_is)
    (case eTellCheapest => k_is)
    (case kTellCheapest => k_is)
    (case aBuyLooks => k_is)
    (case lBuyLooks => k_is)
    (case eBuyLooks => k_is)
    (case kBuyLooks => k_is)
    (case aPutPromise => k_is)
    (case lPutPromise => k_is)
    (case ePutPromise => k_is)
    (case kPutPromise => k_is)
    (case aTakeBackPromise => k_is)
    (case lTakeBackPromise => k_is)
    (case eTakeBackPromise => k_is)
    (case kTakeBackPromise => k_is)
    (case aTellPromise => k_is)
    (case lTellPromise => k_is)
    (case eTellPromise => k_is)
    (case kTellPromise => k_is)
    (case aTellTightest => k_is)
    (case lTellTightest => k_is)
    (case eTellTightest => k_is)
    (case kTellTightest => k_is)
    (case aHear => k_is)
    (case lHear => k_is)
    (case eHear => k_is)
    (case kHear => k_is)
    (case aTellHearingAhead => k_is)
    (case lTellHearingAhead => k_is)
    (case eTellHearingAhead => k_is)
    (case kTellHearingAhead => k_is)
    (case aTellEntry => k_is)
    (case lTellEntry => k_is)
    (case eTellEntry => k_is)
    (case kTellEntry => k_is)
    (case aTellTally => k_is)
    (case lTellTally => k_is)
    (case eTellTally => k_is)
    (case kTellTally => k_is)
    (case aTellOwed => k_is)
    (case lTellOwed => k_is)
    (case eTellOwed => k_is)
    (case kTellOwed => k_is)
    (case aPayIn => k_is)
    (case lPayIn => k_is)
    (case ePayIn => k_is)
    (case kPayIn => k_is)
    (case aTellStakes => k_is)
    (case lTellStakes => k_is)
    (case eTellStakes => k_is)
    (case kTellStakes => k_is)
    (case aSplitCalls => k_is)
    (case lSplitCalls => k_is)
    (case eSplitCalls => k_is)
    (case kSplitCalls => k_is)
    (case aAnswerTo => k_is)
    (case lAnswerTo => k_is)
    (case eAnswerTo => k_is)
    (case kAnswerTo => k_is)
    (case aAnswers => k_is)
    (case lAnswers => k_is)
    (case eAnswers => k_is)
    (case kAnswers => k_is)
    (case gPLAIN_NUMBERS => k_is)
    (case lPLAIN_NUMBERS => k_is)
    (case vPLAIN_NUMBERS => repeat first | exact .nil | refine .cons ⟨_, rfl⟩ ?_ | refine .cons rfl ?_)
    (case gWITH_A_ROW => k_is)
    (case lWITH_A_ROW => k_is)
    (case vWITH_A_ROW => repeat first | exact .nil | refine .cons ⟨_, rfl⟩ ?_ | refine .cons rfl ?_)
    (case gABOUT_A_NODE => k_is)
    (case lABOUT_A_NODE => k_is)
    (case vABOUT_A_NODE => repeat first | exact .nil | refine .cons ⟨_, rfl⟩ ?_ | refine .cons rfl ?_)
    (case gANSWERED_BY => k_is)
    (case lANSWERED_BY => k_is)
    (case vANSWERED_BY => repeat first | exact .nil | refine .cons ⟨_, rfl⟩ ?_ | refine .cons rfl ?_)
    (case pgNode => k_is)
    (case hdNode => k_is)
    (case poNode => k_is)
    (case saNode => k_is)
    (case mkNode => k_is)
    (case kcNode => k_is)
    (case nNode_kind => k_is)
    (case nNode_so => k_is)
    (case nNode_wrong => k_is)
    (case nNode_children => k_is)
    (case nNode_price => k_is)
    (case nNode_thrice => k_is)
    (case pgHearing => k_is)
    (case hdHearing => k_is)
    (case poHearing => k_is)
    (case saHearing => k_is)
    (case mkHearing => k_is)
    (case kcHearing => k_is)
    (case nHearing_node => k_is)
    (case nHearing_leaf => k_is)
    (case nHearing_held => k_is)
    (case nHearing_cost => k_is)
    (case nHearing_wrong => k_is)
    (case pgHouse => k_is)
    (case hdHouse => k_is)
    (case poHouse => k_is)
    (case saHouse => k_is)
    (case mkHouse => k_is)
    (case kcHouse => k_is)
    (case nHouse_begun => k_is)
    (case nHouse_purse => k_is)
    (case nHouse_nodes => k_is)
    (case nHouse_promises => k_is)
    (case nHouse_log => k_is)
  case S =>
    intro K H xs a hO hwi hask hx
    cases hx with
    | cons h1 h2 =>
      cases h2
      cases h1 with
      | lst hs ha =>
        have e := L2.ints_dw a.1 _ ha
        subst e
        have q : ((Codec.inLen 0 540 a.1 && a.1.all (Codec.inInt 0 4294967295)) && true) = true := hwi
        rw [Bool.and_eq_true, Bool.and_eq_true] at q
        exact ⟨_, a.1, rfl, hs, (Codec.inNat_iff.mp q.1.1).2, hask, fun H' p hp => .lst (L2.SqL.of hp) (L2.dw_ints _)⟩
#print axioms PySem.Challenge.cw_strongones_s01_answers_holds

