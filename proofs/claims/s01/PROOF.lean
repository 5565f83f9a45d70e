import PyProof.Rows.All
import Wide.All
import OpenK.AllK
import Wide.FinOn
import Open.SpecLaws
import KE.OsGo
import HandS.ForSpec
import HandS.ForMost
import HandS.Wide
import HandS.Flow
import HandS.Deep
import HandS.Zip
import PySem.Challenge.RW_racingwords_s01_answers
set_option Elab.async false
set_option maxRecDepth 100000
set_option maxHeartbeats 2000000
/-! Sums, and linear equations over the rational numbers: what every square system has. -/
namespace Rw
/-- the sum of f over the numbers below n -/
def S : Nat → (Nat → Rat) → Rat
  | 0, _ => 0
  | n + 1, f => S n f + f n
theorem S_zero (f : Nat → Rat) : S 0 f = 0 := rfl
theorem S_succ (n : Nat) (f : Nat → Rat) : S (n + 1) f = S n f + f n := rfl
theorem S_congr {n : Nat} {f g : Nat → Rat} (h : ∀ i, i < n → f i = g i) : S n f = S n g := by
  induction n with
  | zero => rfl
  | succ n ih => rw [S_succ, S_succ, ih (fun i hi => h i (by omega)), h n (by omega)]
theorem S_add (n : Nat) (f g : Nat → Rat) : S n (fun i => f i + g i) = S n f + S n g := by
  induction n with
  | zero => rw [S_zero, S_zero, S_zero]; grind
  | succ n ih => rw [S_succ, S_succ, S_succ, ih]; grind
theorem S_sub (n : Nat) (f g : Nat → Rat) : S n (fun i => f i - g i) = S n f - S n g := by
  induction n with
  | zero => rw [S_zero, S_zero, S_zero]; grind
  | succ n ih => rw [S_succ, S_succ, S_succ, ih]; grind
theorem S_mul (n : Nat) (c : Rat) (f : Nat → Rat) : S n (fun i => c * f i) = c * S n f := by
  induction n with
  | zero => rw [S_zero, S_zero]; grind
  | succ n ih => rw [S_succ, S_succ, ih]; grind
theorem S_mul_r (n : Nat) (c : Rat) (f : Nat → Rat) : S n (fun i => f i * c) = S n f * c := by
  induction n with
  | zero => rw [S_zero, S_zero]; grind
  | succ n ih => rw [S_succ, S_succ, ih]; grind
theorem S_neg (n : Nat) (f : Nat → Rat) : S n (fun i => - f i) = - S n f := by
  induction n with
  | zero => rfl
  | succ n ih => rw [S_succ, S_succ, ih]; grind
theorem S_nil (n : Nat) : S n (fun _ => 0) = 0 := by
  induction n with
  | zero => rfl
  | succ n ih => rw [S_succ, ih]; grind
theorem S_of_zero {n : Nat} {f : Nat → Rat} (h : ∀ i, i < n → f i = 0) : S n f = 0 := (S_congr h).trans (S_nil n)
theorem S_swap (n m : Nat) (f : Nat → Nat → Rat) : S n (fun i => S m (fun j => f i j)) = S m (fun j => S n (fun i => f i j)) := by
  induction n with
  | zero => rw [S_zero, S_of_zero]; intro i _; rfl
  | succ n ih => rw [S_succ, ih, ← S_add]; rfl
theorem S_one {n k : Nat} (hk : k < n) (f : Nat → Rat) (h : ∀ i, i < n → i ≠ k → f i = 0) : S n f = f k := by
  induction n with
  | zero => omega
  | succ n ih =>
    rw [S_succ]
    by_cases e : k = n
    · subst e
      rw [S_of_zero (fun i hi => h i (by omega) (by omega))]; grind
    · rw [ih (by omega) (fun i hi hne => h i (by omega) hne), h n (by omega) (by omega)]; grind
/-- one where i is k -/
def one (k i : Nat) : Rat := if i = k then 1 else 0
theorem one_self (k : Nat) : one k k = 1 := if_pos rfl
theorem one_ne {k i : Nat} (h : i ≠ k) : one k i = 0 := if_neg h
theorem S_pick {n k : Nat} (hk : k < n) (f : Nat → Rat) : S n (fun i => f i * one k i) = f k := by
  rw [S_one hk _ (fun i _ hne => by rw [one_ne hne]; grind), one_self]; grind
theorem S_pick_l {n k : Nat} (hk : k < n) (f : Nat → Rat) : S n (fun i => one k i * f i) = f k := by
  rw [S_one hk _ (fun i _ hne => by rw [one_ne hne]; grind), one_self]; grind
theorem S_le {n : Nat} {f g : Nat → Rat} (h : ∀ i, i < n → f i ≤ g i) : S n f ≤ S n g := by
  induction n with
  | zero => exact Rat.le_refl
  | succ n ih => rw [S_succ, S_succ]; have := ih (fun i hi => h i (by omega)); have := h n (by omega); grind
theorem S_nonneg {n : Nat} {f : Nat → Rat} (h : ∀ i, i < n → 0 ≤ f i) : 0 ≤ S n f := by
  have := S_le (n := n) (f := fun _ => 0) h
  rw [S_nil] at this
  exact this
theorem S_ge_one {n k : Nat} (hk : k < n) {f : Nat → Rat} (h : ∀ i, i < n → 0 ≤ f i) : f k ≤ S n f := by
  have e : S n (fun i => f i * one k i) = f k := S_pick hk f
  rw [← e]
  refine S_le fun i hi => ?_
  have := h i hi
  by_cases c : i = k
  · subst c; rw [one_self]; grind
  · rw [one_ne c]; grind
theorem S_front (n : Nat) (f : Nat → Rat) : S (n + 1) f = f 0 + S n (fun i => f (i + 1)) := by
  induction n with
  | zero => rw [S_succ, S_zero, S_zero]; grind
  | succ n ih => rw [S_succ, ih, S_succ]; grind
/-- the number k with a place i left out -/
def skip (i k : Nat) : Nat := if k < i then k else k + 1
theorem skip_lt {i k n : Nat} (hk : k < n) : skip i k < n + 1 := by unfold skip; split <;> omega
theorem skip_hits {i k : Nat} (h : k ≠ i) : ∃ l, skip i l = k ∧ (∀ n, k < n + 1 → i < n + 1 → l < n) := by
  by_cases c : k < i
  · exact ⟨k, if_pos c, by intro n _ _; omega⟩
  · refine ⟨k - 1, ?_, by intro n _ _; omega⟩
    unfold skip
    rw [if_neg (by omega)]; omega
/-- fewer equations than unknowns have a solution that is not zero -/
theorem hom : ∀ (k : Nat) (a : Nat → Nat → Rat), ∃ x : Nat → Rat, (∃ j, j < k + 1 ∧ x j ≠ 0) ∧ ∀ i, i < k → S (k + 1) (fun j => a i j * x j) = 0
  | 0, _ => ⟨fun _ => 1, ⟨0, by omega, by decide⟩, fun i hi => absurd hi (by omega)⟩
  | k + 1, a => by
    by_cases c : ∃ i, i < k + 1 ∧ a i (k + 1) ≠ 0
    · obtain ⟨i0, hi0, hp⟩ := c
      obtain ⟨x, ⟨j0, hj0, hx⟩, hs⟩ := hom k (fun i j => a (skip i0 i) j - a (skip i0 i) (k + 1) / a i0 (k + 1) * a i0 j)
      let z : Nat → Rat := fun j => if j = k + 1 then - (S (k + 1) (fun j => a i0 j * x j)) / a i0 (k + 1) else x j
      have zt : z (k + 1) = - (S (k + 1) (fun j => a i0 j * x j)) / a i0 (k + 1) := if_pos rfl
      have zl : ∀ j, j < k + 1 → z j = x j := fun j hj => if_neg (by omega)
      have full : ∀ i, S (k + 2) (fun j => a i j * z j) = S (k + 1) (fun j => a i j * x j) + a i (k + 1) * z (k + 1) := by
        intro i
        rw [S_succ, S_congr (g := fun j => a i j * x j) (fun j hj => by rw [zl j hj])]
      refine ⟨z, ⟨j0, by omega, by rw [zl j0 hj0]; exact hx⟩, fun i hi => ?_⟩
      rw [full, zt]
      by_cases e : i = i0
      · subst e
        grind
      · obtain ⟨l, hl, hb⟩ := skip_hits e
        have := hs l (hb k (by omega) (by omega))
        rw [hl] at this
        have e2 : S (k + 1) (fun j => (a i j - a i (k + 1) / a i0 (k + 1) * a i0 j) * x j) = S (k + 1) (fun j => a i j * x j) - a i (k + 1) / a i0 (k + 1) * S (k + 1) (fun j => a i0 j * x j) := by
          rw [← S_mul, ← S_sub]
          exact S_congr fun j _ => by grind
        rw [e2] at this
        grind
    · refine ⟨one (k + 1), ⟨k + 1, by omega, by rw [one_self]; decide⟩, fun i hi => ?_⟩
      rw [S_pick (by omega)]
      exact Classical.byContradiction fun h => c ⟨i, hi, h⟩
/-- rows none of which depends on the others: every right side is met (rows on the left) -/
theorem meets {n : Nat} {A : Nat → Nat → Rat} (inj : ∀ y : Nat → Rat, (∀ t, t < n → S n (fun s => y s * A s t) = 0) → ∀ s, s < n → y s = 0) (b : Nat → Rat) :
    ∃ y : Nat → Rat, ∀ t, t < n → S n (fun s => y s * A s t) = b t := by
  obtain ⟨x, ⟨j0, hj0, hx⟩, hs⟩ := hom n (fun t s => if s = n then - b t else A s t)
  have e : ∀ t, t < n → S n (fun s => x s * A s t) = b t * x n := by
    intro t ht
    have := hs t ht
    rw [S_succ, if_pos rfl, S_congr (g := fun s => x s * A s t) (fun s hs => by rw [if_neg (by omega)]; grind)] at this
    grind
  have hn : x n ≠ 0 := by
    intro h0
    have z := inj x (fun t ht => by rw [e t ht, h0]; grind)
    rcases Nat.lt_or_ge j0 n with h | h
    · exact hx (z j0 h)
    · have : j0 = n := by omega
      subst this
      exact hx h0
  refine ⟨fun s => x s / x n, fun t ht => ?_⟩
  have : S n (fun s => x s / x n * A s t) = S n (fun s => x s * A s t) / x n := by
    have h2 : S n (fun s => x s / x n * A s t) = S n (fun s => (x s * A s t) * (1 / x n)) := S_congr fun s _ => by grind
    rw [h2, S_mul_r]; grind
  show S n (fun s => x s / x n * A s t) = b t
  rw [this, e t ht]
  grind
/-- a square matrix with an inverse on its right is one to one -/
theorem inj_of_right {n : Nat} {M R : Nat → Nat → Rat} (h : ∀ i j, i < n → j < n → S n (fun k => M i k * R k j) = one j i) (x : Nat → Rat) (hx : ∀ i, i < n → S n (fun k => M i k * x k) = 0) :
    ∀ k, k < n → x k = 0 := by
  intro c hc
  have inj : ∀ y : Nat → Rat, (∀ t, t < n → S n (fun s => y s * M s t) = 0) → ∀ s, s < n → y s = 0 := by
    intro y hy s hs
    have e1 : S n (fun i => y i * S n (fun k => M i k * R k s)) = y s := by
      rw [S_congr (g := fun i => y i * one s i) (fun i hi => by rw [h i s hi hs]), S_pick hs]
    have e2 : S n (fun i => y i * S n (fun k => M i k * R k s)) = S n (fun k => S n (fun i => y i * M i k) * R k s) := by
      have a1 : S n (fun i => y i * S n (fun k => M i k * R k s)) = S n (fun i => S n (fun k => y i * M i k * R k s)) :=
        S_congr fun i _ => by rw [← S_mul]; exact S_congr fun k _ => by grind
      rw [a1, S_swap]
      exact S_congr fun k _ => by rw [← S_mul_r]
    rw [← e1, e2]
    exact S_of_zero fun k hk => by rw [hy k hk]; grind
  obtain ⟨y, hy⟩ := meets inj (one c)
  have e1 : S n (fun t => S n (fun s => y s * M s t) * x t) = x c := by
    rw [S_congr (g := fun t => one c t * x t) (fun t ht => by rw [hy t ht]), S_pick_l hc]
  have e2 : S n (fun t => S n (fun s => y s * M s t) * x t) = S n (fun s => y s * S n (fun t => M s t * x t)) := by
    have a1 : S n (fun t => S n (fun s => y s * M s t) * x t) = S n (fun t => S n (fun s => y s * M s t * x t)) :=
      S_congr fun t _ => by rw [← S_mul_r]
    rw [a1, S_swap]
    exact S_congr fun s _ => by rw [← S_mul]; exact S_congr fun t _ => by grind
  rw [← e1, e2]
  exact S_of_zero fun s hs => by rw [hx s hs]; grind
/-- a matrix with no positive number off its diagonal, and a positive vector that it makes positive: no row depends on the others -/
theorem inj_of_pos {n : Nat} {A : Nat → Nat → Rat} (off : ∀ s t, s < n → t < n → s ≠ t → A s t ≤ 0) (v : Nat → Rat) (hv : ∀ t, t < n → 0 < v t) (hA : ∀ s, s < n → 0 < S n (fun t => A s t * v t))
    (y : Nat → Rat) (hy : ∀ t, t < n → S n (fun s => y s * A s t) = 0) : ∀ s, s < n → y s = 0 := by
  let m : Nat → Rat := fun s => if y s < 0 then - y s else y s
  have m0 : ∀ s, 0 ≤ m s := by intro s; show 0 ≤ (if y s < 0 then - y s else y s); split <;> grind
  have mp : ∀ s, y s ≤ m s := by intro s; show y s ≤ (if y s < 0 then - y s else y s); split <;> grind
  have mn : ∀ s, - y s ≤ m s := by intro s; show - y s ≤ (if y s < 0 then - y s else y s); split <;> grind
  have le0 : ∀ t, t < n → S n (fun s => m s * A s t) ≤ 0 := by
    intro t ht
    have hz := hy t ht
    by_cases c : y t < 0
    · -- m t = - y t
      have e : S n (fun s => m s * A s t) ≤ S n (fun s => - (y s * A s t)) := by
        refine S_le fun s hs => ?_
        by_cases st : s = t
        · subst st
          have : m s = - y s := if_pos c
          rw [this]; grind
        · have h1 := off s t hs ht st
          have h2 := mn s
          have : (m s + y s) * (- A s t) ≥ 0 := Rat.mul_nonneg (by grind) (by grind)
          grind
      rw [S_neg, hz] at e
      grind
    · have e : S n (fun s => m s * A s t) ≤ S n (fun s => y s * A s t) := by
        refine S_le fun s hs => ?_
        by_cases st : s = t
        · subst st
          have : m s = y s := if_neg c
          rw [this]; grind
        · have h1 := off s t hs ht st
          have h2 := mp s
          have : (m s - y s) * (- A s t) ≥ 0 := Rat.mul_nonneg (by grind) (by grind)
          grind
      rw [hz] at e
      exact e
  have tot : S n (fun s => m s * S n (fun t => A s t * v t)) ≤ 0 := by
    have a1 : S n (fun s => m s * S n (fun t => A s t * v t)) = S n (fun s => S n (fun t => m s * A s t * v t)) :=
      S_congr fun s _ => by rw [← S_mul]; exact S_congr fun t _ => by grind
    rw [a1, S_swap]
    have a2 : S n (fun t => S n (fun s => m s * A s t * v t)) = S n (fun t => S n (fun s => m s * A s t) * v t) :=
      S_congr fun t _ => by rw [← S_mul_r]
    rw [a2]
    have : S n (fun t => S n (fun s => m s * A s t) * v t) ≤ S n (fun _ => 0) := by
      refine S_le fun t ht => ?_
      have h1 := le0 t ht
      have h2 := hv t ht
      have : (- S n (fun s => m s * A s t)) * v t ≥ 0 := Rat.mul_nonneg (by grind) (by grind)
      grind
    rw [S_nil] at this
    exact this
  intro s hs
  have h1 : m s * S n (fun t => A s t * v t) ≤ S n (fun s => m s * S n (fun t => A s t * v t)) :=
    S_ge_one (f := fun s => m s * S n (fun t => A s t * v t)) hs fun i hi => Rat.mul_nonneg (m0 i) (by have := hA i hi; grind)
  have h2 := hA s hs
  have h3 := m0 s
  have h4 : m s = 0 := by
    apply Classical.byContradiction
    intro hne
    have : 0 < m s := by grind
    have := Rat.mul_pos this h2
    grind
  have := mp s
  have := mn s
  grind
end Rw
/-! The specification's fractions are the rational numbers; its solver finds the solution of a system that has just one. -/
namespace Rw
open Uw53 (Q)
/-- the specification's fraction of a rational number -/
def q (r : Rat) : Q := ⟨r.num, r.den⟩
theorem q_inj {a b : Rat} (h : q a = q b) : a = b := by
  have h1 : a.num = b.num := congrArg Q.n h
  have h2 : a.den = b.den := congrArg Q.d h
  exact Rat.ext h1 h2
theorem frac_q (n : Int) (d : Nat) (hd : d ≠ 0) : Uw53.frac n d = q (mkRat n d) := by
  have hg : Nat.gcd n.natAbs d ≠ 0 := by
    intro h
    exact hd (Nat.eq_zero_of_gcd_eq_zero_right h)
  show (if Nat.gcd n.natAbs d = 0 then (⟨0, 1⟩ : Q) else ⟨n / (Nat.gcd n.natAbs d : Int), d / Nat.gcd n.natAbs d⟩) = q (mkRat n d)
  rw [if_neg hg]
  show (⟨_, _⟩ : Q) = ⟨(mkRat n d).num, (mkRat n d).den⟩
  rw [Rat.num_mkRat, Rat.den_mkRat, if_neg hd, if_neg hd, Nat.gcd_comm]
theorem frac_val (n : Int) (d : Nat) (hd : d ≠ 0) : Uw53.frac n d = q ((n : Rat) / (d : Rat)) := by
  rw [frac_q n d hd, Rat.mkRat_eq_div]
theorem whole_q (n : Int) : Uw53.whole n = q (n : Rat) := rfl
theorem whole0 : Uw53.whole 0 = q 0 := rfl
theorem whole1 : Uw53.whole 1 = q 1 := rfl
theorem add_q (a b : Rat) : Uw53.add (q a) (q b) = q (a + b) := by
  rw [Rat.add_def']
  exact frac_q _ _ (Nat.mul_ne_zero a.den_nz b.den_nz)
theorem neg_q (a : Rat) : Uw53.neg (q a) = q (-a) := rfl
theorem sub_q (a b : Rat) : Uw53.sub (q a) (q b) = q (a - b) := by
  show Uw53.add (q a) (Uw53.neg (q b)) = _
  rw [neg_q, add_q, Rat.sub_eq_add_neg]
theorem mul_q (a b : Rat) : Uw53.mul (q a) (q b) = q (a * b) := by
  rw [Rat.mul_def']
  exact frac_q _ _ (Nat.mul_ne_zero a.den_nz b.den_nz)
theorem qn_zero (a : Rat) : (q a).n = 0 ↔ a = 0 := Rat.num_eq_zero
theorem inv_q (a : Rat) : Uw53.inv (q a) = q (a⁻¹) := by
  show (if a.num = 0 then Uw53.whole 0 else if 0 < a.num then (⟨(a.den : Int), a.num.natAbs⟩ : Q) else ⟨-(a.den : Int), a.num.natAbs⟩) = q (a⁻¹)
  by_cases h : a.num = 0
  · rw [if_pos h]
    have : a = 0 := Rat.num_eq_zero.mp h
    rw [this, Rat.inv_zero]
    rfl
  · rw [if_neg h]
    show _ = (⟨(a⁻¹).num, (a⁻¹).den⟩ : Q)
    rw [Rat.num_inv, Rat.den_inv, if_neg h]
    by_cases p : 0 < a.num
    · rw [if_pos p, Int.sign_eq_one_of_pos p, Int.one_mul]
    · rw [if_neg p, Int.sign_eq_neg_one_of_neg (by omega)]
      show (⟨_, _⟩ : Q) = ⟨_, _⟩
      rw [Int.neg_one_mul]
theorem less_q (a b : Rat) : Uw53.less (q a) (q b) = decide (a < b) := by
  show decide (a.num * (b.den : Int) < b.num * (a.den : Int)) = decide (a < b)
  rw [decide_eq_decide, Rat.lt_iff]
theorem foldl_q (l : List Rat) (a : Rat) : (l.map q).foldl Uw53.add (q a) = q (l.foldl (· + ·) a) := by
  induction l generalizing a with
  | nil => rfl
  | cons x l ih => rw [List.map_cons, List.foldl_cons, add_q, ih]; rfl
theorem sum_q (l : List Rat) : Uw53.sum (l.map q) = q (l.foldl (· + ·) 0) := foldl_q l 0
/-! ### The solver over the rational numbers -/
abbrev Row := List Rat
def gt (r : Row) (c : Nat) : Rat := r.getD c 0
def pivotR (c : Nat) : List Row → Option (Row × List Row)
  | [] => none
  | r :: l => if gt r c ≠ 0 then some (r, l) else (pivotR c l).map fun x => (x.1, r :: x.2)
def scaledR (k : Rat) (r : Row) : Row := r.map (k * ·)
def clearR (c : Nat) (p r : Row) : Row := List.zipWith (· - ·) r (scaledR (gt r c) p)
def solveFromR : Nat → Nat → List Row → List Row → Option (List Row)
  | 0, _, done, _ => some done
  | k + 1, c, done, todo => match pivotR c todo with
    | none => none
    | some (r, l) => let p := scaledR (gt r c)⁻¹ r
      solveFromR k (c + 1) (done.map (clearR c p) ++ [p]) (l.map (clearR c p))
def qs (r : Row) : Uw53.Row := r.map q
theorem at_q (r : Row) (c : Nat) : Uw53.at_ (qs r) c = q (gt r c) := by
  show (r.map q).getD c (Uw53.whole 0) = q (r.getD c 0)
  rw [whole0, List.getD_eq_getElem?_getD, List.getD_eq_getElem?_getD, List.getElem?_map]
  cases r[c]? <;> rfl
theorem scaled_q (k : Rat) (r : Row) : Uw53.scaled (q k) (qs r) = qs (scaledR k r) := by
  show (r.map q).map (Uw53.mul (q k)) = (r.map (k * ·)).map q
  rw [List.map_map, List.map_map]
  exact List.map_congr_left fun x _ => mul_q k x
theorem minus_q : ∀ (a b : Row), Uw53.minus (qs a) (qs b) = qs (List.zipWith (· - ·) a b)
  | [], _ => by cases ‹Row› <;> rfl
  | _ :: _, [] => rfl
  | x :: a, y :: b => by
    have ih := minus_q a b
    show Uw53.sub (q x) (q y) :: Uw53.minus (qs a) (qs b) = q (x - y) :: qs (List.zipWith (· - ·) a b)
    rw [sub_q, ih]
theorem clear_q (c : Nat) (p r : Row) : Uw53.clear c (qs p) (qs r) = qs (clearR c p r) := by
  show Uw53.minus (qs r) (Uw53.scaled (Uw53.at_ (qs r) c) (qs p)) = _
  rw [at_q, scaled_q, minus_q]
  rfl
theorem pivot_q (c : Nat) : ∀ l : List Row, Uw53.pivot c (l.map qs) = (pivotR c l).map fun x => (qs x.1, x.2.map qs)
  | [] => rfl
  | r :: l => by
    show (if (Uw53.at_ (qs r) c).n ≠ 0 then some (qs r, l.map qs) else (Uw53.pivot c (l.map qs)).map fun x => (x.1, qs r :: x.2)) = ((if gt r c ≠ 0 then some (r, l) else (pivotR c l).map fun x => (x.1, r :: x.2)) : Option (Row × List Row)).map _
    rw [at_q, pivot_q c l]
    by_cases h : gt r c = 0
    · have h2 : (q (gt r c)).n = 0 := (qn_zero _).mpr h
      rw [if_neg (fun z => z h2), if_neg (fun z => z h)]
      cases pivotR c l <;> rfl
    · have h2 : (q (gt r c)).n ≠ 0 := fun z => h ((qn_zero _).mp z)
      rw [if_pos h, if_pos h2]
      rfl
theorem solveFrom_q : ∀ (k c : Nat) (done todo : List Row), Uw53.solveFrom k c (done.map qs) (todo.map qs) = (solveFromR k c done todo).map fun l => l.map qs
  | 0, _, _, _ => rfl
  | k + 1, c, done, todo => by
    unfold Uw53.solveFrom solveFromR
    rw [pivot_q]
    cases h : pivotR c todo with
    | none => rfl
    | some x =>
      obtain ⟨r, l⟩ := x
      show Uw53.solveFrom k (c + 1) ((done.map qs).map (Uw53.clear c (Uw53.scaled (Uw53.inv (Uw53.at_ (qs r) c)) (qs r))) ++ [Uw53.scaled (Uw53.inv (Uw53.at_ (qs r) c)) (qs r)])
        ((l.map qs).map (Uw53.clear c (Uw53.scaled (Uw53.inv (Uw53.at_ (qs r) c)) (qs r)))) = (solveFromR k (c + 1) (done.map (clearR c (scaledR (gt r c)⁻¹ r)) ++ [scaledR (gt r c)⁻¹ r]) (l.map (clearR c (scaledR (gt r c)⁻¹ r)))).map fun l => l.map qs
      rw [at_q, inv_q, scaled_q, ← solveFrom_q k (c + 1)]
      congr 1
      · rw [List.map_append, List.map_map, List.map_map]
        congr 1
        exact List.map_congr_left fun x _ => clear_q c _ x
      · rw [List.map_map, List.map_map]
        exact List.map_congr_left fun x _ => clear_q c _ x
/-! ### What the solver finds -/
/-- a row as an equation that x satisfies; as a homogeneous one -/
def Sat (n : Nat) (x : Nat → Rat) (r : Row) : Prop := S n (fun j => gt r j * x j) = gt r n
def Hom (n : Nat) (x : Nat → Rat) (r : Row) : Prop := S n (fun j => gt r j * x j) = 0
theorem gt_scaled (k : Rat) (r : Row) (c : Nat) : gt (scaledR k r) c = k * gt r c := by
  show (r.map (k * ·)).getD c 0 = k * r.getD c 0
  rw [List.getD_eq_getElem?_getD, List.getD_eq_getElem?_getD, List.getElem?_map]
  cases r[c]? with
  | none => show (0 : Rat) = k * 0; grind
  | some x => rfl
theorem gt_zip {a b : Row} (h : a.length = b.length) (c : Nat) : gt (List.zipWith (· - ·) a b) c = gt a c - gt b c := by
  show (List.zipWith (· - ·) a b).getD c 0 = a.getD c 0 - b.getD c 0
  rw [List.getD_eq_getElem?_getD, List.getD_eq_getElem?_getD, List.getD_eq_getElem?_getD, List.getElem?_zipWith]
  by_cases hc : c < a.length
  · rw [List.getElem?_eq_getElem hc, List.getElem?_eq_getElem (h ▸ hc)]
    rfl
  · rw [List.getElem?_eq_none (by omega), List.getElem?_eq_none (by omega)]
    show (0 : Rat) = 0 - 0
    grind
theorem gt_clear {c : Nat} {p r : Row} (h : r.length = p.length) (j : Nat) : gt (clearR c p r) j = gt r j - gt r c * gt p j := by
  show gt (List.zipWith (· - ·) r (scaledR (gt r c) p)) j = _
  rw [gt_zip (by rw [h]; exact (List.length_map ..).symm), gt_scaled]
theorem len_scaled (k : Rat) (r : Row) : (scaledR k r).length = r.length := List.length_map ..
theorem len_clear {c : Nat} {p r : Row} (h : r.length = p.length) : (clearR c p r).length = r.length := by
  show (List.zipWith _ r (scaledR _ p)).length = _
  rw [List.length_zipWith, len_scaled]; omega
theorem pivot_none {c : Nat} : ∀ {l : List Row}, pivotR c l = none → ∀ r ∈ l, gt r c = 0
  | [], _, r, hr => absurd hr (List.not_mem_nil)
  | a :: l, h, r, hr => by
    unfold pivotR at h
    by_cases z : gt a c = 0
    · rw [if_neg (fun w => w z)] at h
      have h2 : pivotR c l = none := by
        cases e : pivotR c l with
        | none => rfl
        | some x => rw [e] at h; cases h
      rcases List.mem_cons.mp hr with rfl | hr
      · exact z
      · exact pivot_none h2 r hr
    · rw [if_pos z] at h
      cases h
theorem pivot_some {c : Nat} : ∀ {l : List Row} {r : Row} {m : List Row}, pivotR c l = some (r, m) → gt r c ≠ 0 ∧ m.length + 1 = l.length ∧ ∀ x, x ∈ l ↔ x = r ∨ x ∈ m
  | [], _, _, h => by cases h
  | a :: l, r, m, h => by
    unfold pivotR at h
    by_cases z : gt a c = 0
    · rw [if_neg (fun w => w z)] at h
      cases e : pivotR c l with
      | none => rw [e] at h; cases h
      | some x =>
        obtain ⟨r1, m1⟩ := x
        rw [e] at h
        have h3 : (r1, a :: m1) = (r, m) := Option.some.inj h
        obtain ⟨rfl, rfl⟩ := Prod.mk.inj h3
        obtain ⟨h4, h5, h6⟩ := pivot_some e
        refine ⟨h4, by simp only [List.length_cons]; omega, fun x => ?_⟩
        rw [List.mem_cons, List.mem_cons, h6]
        constructor
        · rintro (h | h | h) <;> simp [h]
        · rintro (h | h | h) <;> simp [h]
    · rw [if_pos z] at h
      have h3 : (a, l) = (r, m) := Option.some.inj h
      obtain ⟨rfl, rfl⟩ := Prod.mk.inj h3
      exact ⟨z, by simp only [List.length_cons], fun x => List.mem_cons⟩
theorem lin_clear {n : Nat} {c : Nat} {p r : Row} (h : r.length = p.length) (x : Nat → Rat) : S n (fun j => gt (clearR c p r) j * x j) = S n (fun j => gt r j * x j) - gt r c * S n (fun j => gt p j * x j) := by
  rw [← S_mul, ← S_sub]
  exact S_congr fun j _ => by rw [gt_clear h]; grind
theorem lin_scaled {n : Nat} (k : Rat) (r : Row) (x : Nat → Rat) : S n (fun j => gt (scaledR k r) j * x j) = k * S n (fun j => gt r j * x j) := by
  rw [← S_mul]
  exact S_congr fun j _ => by rw [gt_scaled]; grind
/-- the solver's state: done rows have their columns done, the others are clear of them; x is a solution, and the only one -/
structure Inv (n : Nat) (x : Nat → Rat) (c : Nat) (done todo : List Row) : Prop where
  nd : done.length = c
  nt : c + todo.length = n
  len : ∀ r, r ∈ done ∨ r ∈ todo → r.length = n + 1
  sat : ∀ r, r ∈ done ∨ r ∈ todo → Sat n x r
  dn : ∀ i, i < c → ∀ j, j < c → gt (done.getD i []) j = one i j
  td : ∀ r, r ∈ todo → ∀ j, j < c → gt r j = 0
  inj : ∀ y : Nat → Rat, (∀ r, r ∈ done ∨ r ∈ todo → Hom n y r) → ∀ j, j < n → y j = 0
theorem getD_at {l : List Row} {i : Nat} (h : i < l.length) : l.getD i [] = l[i] := by
  rw [List.getD_eq_getElem?_getD, List.getElem?_eq_getElem h]
  rfl
theorem getD_mem {l : List Row} {i : Nat} (h : i < l.length) : l.getD i [] ∈ l := by
  rw [getD_at h]
  exact List.getElem_mem h
theorem mem_getD {l : List Row} {r : Row} (h : r ∈ l) : ∃ i, i < l.length ∧ l.getD i [] = r := by
  obtain ⟨i, hi, e⟩ := List.getElem_of_mem h
  exact ⟨i, hi, by rw [getD_at hi, e]⟩
theorem solveFromR_ok {n : Nat} {x : Nat → Rat} : ∀ (k c : Nat) (done todo : List Row), k = todo.length → Inv n x c done todo → ∃ l, solveFromR k c done todo = some l ∧ l.length = n ∧ ∀ i, i < n → gt (l.getD i []) n = x i
  | 0, c, done, todo, hk, I => by
    have e0 : todo = [] := List.length_eq_zero_iff.mp hk.symm
    have hc : c = n := by have := I.nt; rw [e0] at this; exact this
    subst hc
    refine ⟨done, rfl, I.nd, fun i hi => ?_⟩
    have s : Sat c x (done.getD i []) := I.sat _ (Or.inl (getD_mem (by rw [I.nd]; exact hi)))
    unfold Sat at s
    rw [← s, S_congr (g := fun j => one i j * x j) (fun j hj => by rw [I.dn i hi j hj]), S_pick_l hi]
  | k + 1, c, done, todo, hk, I => by
    have hcn : c < n := by have := I.nt; omega
    unfold solveFromR
    cases hp : pivotR c todo with
    | none =>
      exfalso
      have z := pivot_none hp
      let y : Nat → Rat := fun j => if j = c then 1 else if j < c then - gt (done.getD j []) c else 0
      have yc : y c = 1 := if_pos rfl
      have yl : ∀ j, j < c → y j = - gt (done.getD j []) c := fun j hj => by show (if j = c then (1 : Rat) else if j < c then _ else 0) = _; rw [if_neg (by omega), if_pos hj]
      have yg : ∀ j, c < j → y j = 0 := fun j hj => by show (if j = c then (1 : Rat) else if j < c then _ else 0) = _; rw [if_neg (by omega), if_neg (by omega)]
      have := I.inj y (fun r hr => ?_) c hcn
      · rw [yc] at this
        exact absurd this (by decide)
      · unfold Hom
        rcases hr with hr | hr
        · obtain ⟨i, hi, e⟩ := mem_getD hr
          rw [I.nd] at hi
          have e2 : S n (fun j => gt r j * y j) = S n (fun j => one i j * y i + one c j * gt r c) := by
            refine S_congr fun j hj => ?_
            rcases Nat.lt_trichotomy j c with h | h | h
            · rw [← e, I.dn i hi j h, one_ne (show j ≠ c by omega)]
              by_cases hij : j = i
              · subst hij; grind
              · rw [one_ne hij]; grind
            · subst h
              rw [yc, one_self, one_ne (show j ≠ i by omega)]; grind
            · rw [yg j h, one_ne (show j ≠ c by omega), one_ne (show j ≠ i by omega)]; grind
          rw [e2, S_add, S_pick_l (f := fun _ => y i) (show i < n by omega), S_pick_l (f := fun _ => gt r c) hcn, yl i hi, ← e]
          grind
        · refine S_of_zero fun j hj => ?_
          rcases Nat.lt_trichotomy j c with h | h | h
          · rw [I.td r hr j h]; grind
          · subst h; rw [z r hr]; grind
          · rw [yg j h]; grind
    | some v =>
      obtain ⟨r, l⟩ := v
      obtain ⟨hr0, hl, hm⟩ := pivot_some hp
      show ∃ L, solveFromR k (c + 1) (done.map (clearR c (scaledR (gt r c)⁻¹ r)) ++ [scaledR (gt r c)⁻¹ r]) (l.map (clearR c (scaledR (gt r c)⁻¹ r))) = some L ∧ _
      have hr : r ∈ todo := (hm r).mpr (Or.inl rfl)
      have rlen := I.len r (Or.inr hr)
      generalize hP : scaledR (gt r c)⁻¹ r = p
      have plen : p.length = n + 1 := by rw [← hP, len_scaled]; exact rlen
      have pc : gt p c = 1 := by rw [← hP, gt_scaled]; exact Rat.inv_mul_cancel _ hr0
      have pz : ∀ j, j < c → gt p j = 0 := fun j hj => by rw [← hP, gt_scaled, I.td r hr j hj]; grind
      have linp : ∀ (y : Nat → Rat), S n (fun j => gt p j * y j) = (gt r c)⁻¹ * S n (fun j => gt r j * y j) := fun y => by rw [← hP, lin_scaled]
      have old : ∀ a, a ∈ done ∨ a ∈ l → a.length = p.length := fun a ha => by
        rw [plen]
        exact I.len a (ha.imp_right fun h => (hm a).mpr (Or.inr h))
      refine solveFromR_ok k (c + 1) _ _ (by rw [List.length_map]; omega) ⟨?_, ?_, ?_, ?_, ?_, ?_, ?_⟩
      · rw [List.length_append, List.length_map, I.nd]; rfl
      · rw [List.length_map]; have := I.nt; omega
      · rintro a (ha | ha)
        · rcases List.mem_append.mp ha with ha | ha
          · obtain ⟨b, hb, rfl⟩ := List.mem_map.mp ha
            rw [len_clear (old b (Or.inl hb)), old b (Or.inl hb), plen]
          · rw [List.mem_singleton.mp ha, plen]
        · obtain ⟨b, hb, rfl⟩ := List.mem_map.mp ha
          rw [len_clear (old b (Or.inr hb)), old b (Or.inr hb), plen]
      · have satp : Sat n x p := by
          have := I.sat r (Or.inr hr)
          unfold Sat at this ⊢
          rw [linp, this, ← hP, gt_scaled]
        have satc : ∀ b, b ∈ done ∨ b ∈ l → Sat n x (clearR c p b) := fun b hb => by
          have h1 := I.sat b (hb.imp_right fun h => (hm b).mpr (Or.inr h))
          unfold Sat at h1 satp ⊢
          rw [lin_clear (old b hb), h1, satp, gt_clear (old b hb)]
        rintro a (ha | ha)
        · rcases List.mem_append.mp ha with ha | ha
          · obtain ⟨b, hb, rfl⟩ := List.mem_map.mp ha
            exact satc b (Or.inl hb)
          · rw [List.mem_singleton.mp ha]; exact satp
        · obtain ⟨b, hb, rfl⟩ := List.mem_map.mp ha
          exact satc b (Or.inr hb)
      · intro i hi j hj
        by_cases ic : i < c
        · have e : (done.map (clearR c p) ++ [p]).getD i [] = clearR c p (done.getD i []) := by
            rw [List.getD_eq_getElem?_getD, List.getElem?_append_left (by rw [List.length_map, I.nd]; exact ic), List.getElem?_map, List.getD_eq_getElem?_getD, List.getElem?_eq_getElem (by rw [I.nd]; exact ic)]
            rfl
          have md := getD_mem (l := done) (i := i) (by rw [I.nd]; exact ic)
          rw [e, gt_clear (old _ (Or.inl md))]
          by_cases jc : j < c
          · rw [I.dn i ic j jc, pz j jc]; grind
          · have : j = c := by omega
            subst this
            rw [pc, one_ne (by omega)]; grind
        · have ic2 : i = c := by omega
          have e : (done.map (clearR c p) ++ [p]).getD i [] = p := by
            rw [List.getD_eq_getElem?_getD, List.getElem?_append_right (by rw [List.length_map, I.nd]; omega), List.length_map, I.nd, ic2, Nat.sub_self]
            rfl
          rw [e, ic2]
          by_cases jc : j < c
          · rw [pz j jc, one_ne (by omega)]
          · have : j = c := by omega
            subst this
            rw [pc, one_self]
      · intro a ha j hj
        obtain ⟨b, hb, rfl⟩ := List.mem_map.mp ha
        rw [gt_clear (old b (Or.inr hb))]
        by_cases jc : j < c
        · rw [I.td b ((hm b).mpr (Or.inr hb)) j jc, pz j jc]; grind
        · have : j = c := by omega
          subst this
          rw [pc]; grind
      · intro y hy
        refine I.inj y fun a ha => ?_
        have hpz : S n (fun j => gt p j * y j) = 0 := hy p (Or.inl (List.mem_append.mpr (Or.inr (List.mem_singleton.mpr rfl))))
        have back : ∀ b, b ∈ done ∨ b ∈ l → Hom n y b := fun b hb => by
          have h1 : Hom n y (clearR c p b) := by
            rcases hb with hb | hb
            · exact hy _ (Or.inl (List.mem_append.mpr (Or.inl (List.mem_map.mpr ⟨b, hb, rfl⟩))))
            · exact hy _ (Or.inr (List.mem_map.mpr ⟨b, hb, rfl⟩))
          unfold Hom at h1 ⊢
          rw [lin_clear (old b hb), hpz] at h1
          grind
        rcases ha with ha | ha
        · exact back a (Or.inl ha)
        · rcases (hm a).mp ha with rfl | ha
          · unfold Hom
            rw [linp] at hpz
            have h3 : (gt a c)⁻¹ ≠ 0 := fun h => by
              have := Rat.mul_inv_cancel _ hr0
              rw [h] at this
              grind
            grind
          · exact back a (Or.inr ha)
/-- n rows, a solution, no other: the specification's solver gives it -/
theorem solve_q {n : Nat} {rows : List Row} {x : Nat → Rat} (hn : rows.length = n) (len : ∀ r, r ∈ rows → r.length = n + 1) (sat : ∀ r, r ∈ rows → Sat n x r) (inj : ∀ y : Nat → Rat, (∀ r, r ∈ rows → Hom n y r) → ∀ j, j < n → y j = 0) :
    Uw53.solve n (rows.map qs) = some ((List.range n).map fun i => q (x i)) := by
  have no : ∀ r : Row, ¬ r ∈ ([] : List Row) := fun r => List.not_mem_nil
  obtain ⟨l, h1, h2, h3⟩ := solveFromR_ok (n := n) (x := x) n 0 [] rows hn.symm
    ⟨rfl, by omega, fun r hr => len r (hr.resolve_left (no r)), fun r hr => sat r (hr.resolve_left (no r)), fun i hi => absurd hi (by omega), fun r _ j hj => absurd hj (by omega), fun y hy => inj y fun r hr => hy r (Or.inr hr)⟩
  show (Uw53.solveFrom n 0 [] (rows.map qs)).map (fun l => l.map fun r => Uw53.at_ r n) = _
  have e := solveFrom_q n 0 [] rows
  rw [List.map_nil] at e
  rw [e, h1]
  show some ((l.map qs).map fun r => Uw53.at_ r n) = _
  congr 1
  rw [List.map_map]
  refine List.ext_getElem (by rw [List.length_map, List.length_map, List.length_range, h2]) fun i hi1 hi2 => ?_
  rw [List.length_map, List.length_range] at hi2
  rw [List.getElem_map, List.getElem_map, List.getElem_range]
  show Uw53.at_ (qs _) n = _
  rw [at_q, ← h3 i hi2, getD_at (by omega)]
end Rw
/-! Correlations of words; a race's chain of states; the specification's race is what the chain gives. -/
namespace Rw
open Uw53 (Q Game)
/-- induction from a list's end -/
theorem snocInd {a : Type} {P : List a → Prop} (h0 : P []) (h1 : ∀ l x, P l → P (l ++ [x])) (l : List a) : P l := by
  have key : ∀ r : List a, P r.reverse := by
    intro r
    induction r with
    | nil => exact h0
    | cons x r ih => rw [List.reverse_cons]; exact h1 _ x ih
  have := key l.reverse
  rw [List.reverse_reverse] at this
  exact this
/-! ### ends of sequences -/
theorem ends_iff {w u : List Nat} : Uw53.ends w u = true ↔ w <:+ u := by
  show (decide (w.length ≤ u.length) && u.drop (u.length - w.length) == w) = true ↔ _
  rw [Bool.and_eq_true, decide_eq_true_iff, beq_iff_eq]
  constructor
  · rintro ⟨_, h⟩
    rw [← h]
    exact List.drop_suffix ..
  · intro h
    exact ⟨h.length_le, (List.suffix_iff_eq_drop.mp h).symm⟩
theorem ends_false {w u : List Nat} : Uw53.ends w u = false ↔ ¬ w <:+ u := by
  rw [← ends_iff]
  cases Uw53.ends w u <;> simp
theorem snoc_suffix {p u : List Nat} {c x : Nat} : p ++ [c] <:+ u ++ [x] ↔ c = x ∧ p <:+ u := by
  constructor
  · rintro ⟨t, h⟩
    rw [← List.append_assoc] at h
    obtain ⟨h1, h2⟩ := List.append_inj' h rfl
    exact ⟨List.head_eq_of_cons_eq h2, t, h1⟩
  · rintro ⟨rfl, t, h⟩
    exact ⟨t, by rw [← List.append_assoc, h]⟩
/-! ### sums over lists -/
theorem total_append (l : List Nat) (x : Nat) : Uw53.total (l ++ [x]) = Uw53.total l + x := by
  show (l ++ [x]).foldl (fun a b => a + b) 0 = _
  rw [List.foldl_append]
  rfl
theorem sum_filter (c : Nat → Rat) (p : Nat → Bool) : ∀ n, (((List.range n).filter p).map c).foldl (· + ·) 0 = S n (fun k => if p k = true then c k else 0)
  | 0 => rfl
  | n + 1 => by
    rw [List.range_succ, List.filter_append, List.map_append, List.foldl_append, sum_filter c p n, S_succ]
    cases h : p n with
    | true => rw [List.filter_cons_of_pos h]; rfl
    | false =>
      rw [List.filter_cons_of_neg (by rw [h]; exact Bool.false_ne_true)]
      show S n _ = S n _ + (if false = true then _ else 0)
      rw [if_neg Bool.false_ne_true]; grind
/-! ### correlations -/
section
variable (g : Game)
/-- the weights are positive -/
def Pos : Prop := ∀ x, x < g.weights.length → 0 < g.weight x
/-- the letters of a word are letters -/
def Let (w : List Nat) : Prop := ∀ x, x ∈ w → x < g.weights.length
def wt (x : Nat) : Rat := ((g.weight x : Nat) : Rat)
def tot : Rat := ((g.all : Nat) : Rat)
theorem tot_sum : tot g = S g.weights.length (wt g) := by
  have key : ∀ (l : List Nat) (n : Nat), n = l.length → ((Uw53.total l : Nat) : Rat) = S n (fun x => ((l.getD x 0 : Nat) : Rat)) := by
    intro l
    induction l using snocInd with
    | h0 => rintro _ rfl; rfl
    | h1 l x ih =>
      rintro _ rfl
      rw [total_append, List.length_append, List.length_singleton, S_succ, Rat.natCast_add, ih _ rfl]
      congr 1
      · refine S_congr fun i hi => ?_
        rw [List.getD_eq_getElem?_getD, List.getD_eq_getElem?_getD, List.getElem?_append_left hi]
      · rw [List.getD_eq_getElem?_getD, List.getElem?_append_right (Nat.le_refl _), Nat.sub_self]
        rfl
  exact key g.weights _ rfl
/-- the reciprocal of the probability of a word's first k letters -/
def cr (w : List Nat) (k : Nat) : Rat := ((g.all ^ k : Nat) : Rat) / ((g.heft (w.take k) : Nat) : Rat)
def term (u w : List Nat) (k : Nat) : Rat := if Uw53.ends (w.take k) u = true then cr g w k else 0
/-- the correlation of a sequence and a word -/
def C (u w : List Nat) : Rat := S w.length (fun k => term g u w (k + 1))
theorem heft_snoc (p : List Nat) (c : Nat) : g.heft (p ++ [c]) = g.heft p * g.weight c := by
  show (p ++ [c]).foldl (fun p x => p * g.weight x) 1 = _
  rw [List.foldl_append]
  rfl
variable {g}
theorem heft_pos (hp : Pos g) : ∀ {w : List Nat}, Let g w → 0 < g.heft w := by
  intro w
  induction w using snocInd with
  | h0 => intro _; exact Nat.one_pos
  | h1 l x ih =>
    intro h
    rw [heft_snoc]
    exact Nat.mul_pos (ih fun y hy => h y (List.mem_append_left _ hy)) (hp x (h x (List.mem_append_right _ (List.mem_singleton.mpr rfl))))
theorem Let.take {w : List Nat} (h : Let g w) (k : Nat) : Let g (w.take k) := fun x hx => h x (List.mem_of_mem_take hx)
theorem pays_q (hp : Pos g) {u w : List Nat} (hw : Let g w) : g.pays u w = q (C g u w) := by
  have e : g.pays u w = Uw53.sum ((((List.range w.length).filter fun k => Uw53.ends (w.take (k + 1)) u).map fun k => cr g w (k + 1)).map q) := by
    show Uw53.sum (((List.range w.length).filter fun k => Uw53.ends (w.take (k + 1)) u).map fun k => Uw53.frac ((g.all ^ (k + 1) : Nat) : Int) (g.heft (w.take (k + 1)))) = _
    rw [List.map_map]
    congr 1
    refine List.map_congr_left fun k _ => ?_
    rw [frac_val _ _ (Nat.pos_iff_ne_zero.mp (heft_pos hp (hw.take _)))]
    rfl
  rw [e, sum_q, sum_filter]
  rfl
theorem cr_zero (w : List Nat) : cr g w 0 = 1 := by
  show ((1 : Nat) : Rat) / ((1 : Nat) : Rat) = 1
  decide +kernel
theorem term_zero (u w : List Nat) : term g u w 0 = 1 := by
  have h : Uw53.ends (w.take 0) u = true := ends_iff.mpr (by rw [List.take_zero]; exact List.nil_suffix)
  show (if Uw53.ends (w.take 0) u = true then cr g w 0 else 0) = 1
  rw [if_pos h, cr_zero]
theorem wt_pos (hp : Pos g) {x : Nat} (hx : x < g.weights.length) : 0 < wt g x := Rat.natCast_pos.mpr (hp x hx)
theorem take_snoc {w : List Nat} {k : Nat} (hk : k < w.length) : w.take (k + 1) = w.take k ++ [w[k]] := by
  rw [List.take_add_one, List.getElem?_eq_getElem hk]
  rfl
theorem cr_succ (hp : Pos g) {w : List Nat} (hw : Let g w) {k : Nat} (hk : k < w.length) : wt g w[k] * cr g w (k + 1) = tot g * cr g w k := by
  have h1 : ((g.heft (w.take k) : Nat) : Rat) ≠ 0 := by
    have := heft_pos hp (hw.take k)
    have := Rat.natCast_pos.mpr this
    grind
  have h2 : wt g w[k] ≠ 0 := by
    have := wt_pos hp (hw _ (List.getElem_mem hk))
    grind
  have e1 : ((g.heft (w.take (k + 1)) : Nat) : Rat) = ((g.heft (w.take k) : Nat) : Rat) * wt g w[k] := by
    rw [take_snoc hk, heft_snoc, Rat.natCast_mul]
    rfl
  have e2 : ((g.all ^ (k + 1) : Nat) : Rat) = ((g.all ^ k : Nat) : Rat) * tot g := by
    rw [Nat.pow_succ, Rat.natCast_mul]
    rfl
  show wt g w[k] * (((g.all ^ (k + 1) : Nat) : Rat) / ((g.heft (w.take (k + 1)) : Nat) : Rat)) = tot g * (((g.all ^ k : Nat) : Rat) / ((g.heft (w.take k) : Nat) : Rat))
  rw [e1, e2]
  grind
/-- a further letter: the correlations behind it, weighed -/
theorem one_step (hp : Pos g) {u w : List Nat} (hw : Let g w) (hu : ¬ w <:+ u) : S g.weights.length (fun x => wt g x * C g (u ++ [x]) w) = tot g * (C g u w + 1) := by
  have a1 : S g.weights.length (fun x => wt g x * C g (u ++ [x]) w) = S w.length (fun k => S g.weights.length (fun x => wt g x * term g (u ++ [x]) w (k + 1))) := by
    rw [← S_swap]
    exact S_congr fun x _ => by rw [S_mul]; rfl
  have a2 : ∀ k, k < w.length → S g.weights.length (fun x => wt g x * term g (u ++ [x]) w (k + 1)) = tot g * term g u w k := by
    intro k hk
    have hx := hw _ (List.getElem_mem hk)
    have ee : ∀ x, Uw53.ends (w.take (k + 1)) (u ++ [x]) = true ↔ (w[k] = x ∧ w.take k <:+ u) := by
      intro x
      rw [ends_iff, take_snoc hk, snoc_suffix]
    rw [S_one hx _ (fun x _ hne => ?_)]
    · show wt g w[k] * (if Uw53.ends (w.take (k + 1)) (u ++ [w[k]]) = true then cr g w (k + 1) else 0) = tot g * (if Uw53.ends (w.take k) u = true then cr g w k else 0)
      by_cases c : w.take k <:+ u
      · rw [if_pos ((ee _).mpr ⟨rfl, c⟩), if_pos (ends_iff.mpr c), cr_succ hp hw hk]
      · rw [if_neg (fun h => c ((ee _).mp h).2), if_neg (fun h => c (ends_iff.mp h))]; grind
    · show wt g x * (if Uw53.ends (w.take (k + 1)) (u ++ [x]) = true then cr g w (k + 1) else 0) = 0
      rw [if_neg (fun h => hne ((ee _).mp h).1.symm)]; grind
  have a3 : term g u w w.length = 0 := by
    show (if Uw53.ends (w.take w.length) u = true then cr g w w.length else 0) = 0
    rw [List.take_length, if_neg (fun h => hu (ends_iff.mp h))]
  have a4 := S_front w.length (term g u w)
  rw [S_succ, a3, term_zero] at a4
  rw [a1, S_congr (g := fun k => tot g * term g u w k) a2, S_mul]
  show _ = tot g * (S w.length (fun k => term g u w (k + 1)) + 1)
  grind
theorem term_nonneg (u w : List Nat) (k : Nat) : 0 ≤ term g u w k := by
  show 0 ≤ (if Uw53.ends (w.take k) u = true then cr g w k else 0)
  split
  · show 0 ≤ ((g.all ^ k : Nat) : Rat) / ((g.heft (w.take k) : Nat) : Rat)
    rw [Rat.div_def]
    have h1 : 0 ≤ ((g.heft (w.take k) : Nat) : Rat)⁻¹ := by
      have : 0 ≤ ((g.heft (w.take k) : Nat) : Rat) := Rat.natCast_nonneg
      by_cases z : ((g.heft (w.take k) : Nat) : Rat) = 0
      · rw [z, Rat.inv_zero]; exact Rat.le_refl
      · have := Rat.inv_pos.mpr (show 0 < ((g.heft (w.take k) : Nat) : Rat) by grind)
        grind
    exact Rat.mul_nonneg Rat.natCast_nonneg h1
  · exact Rat.le_refl
theorem C_nonneg (u w : List Nat) : 0 ≤ C g u w := S_nonneg fun k _ => term_nonneg u w (k + 1)
theorem C_congr {u v w : List Nat} (h : ∀ k, k < w.length → (w.take (k + 1) <:+ u ↔ w.take (k + 1) <:+ v)) : C g u w = C g v w := by
  refine S_congr fun k hk => ?_
  show (if Uw53.ends (w.take (k + 1)) u = true then cr g w (k + 1) else 0) = (if Uw53.ends (w.take (k + 1)) v = true then cr g w (k + 1) else 0)
  by_cases c : w.take (k + 1) <:+ u
  · rw [if_pos (ends_iff.mpr c), if_pos (ends_iff.mpr ((h k hk).mp c))]
  · rw [if_neg (fun z => c (ends_iff.mp z)), if_neg (fun z => c ((h k hk).mpr (ends_iff.mp z)))]
theorem C_nil (w : List Nat) : C g [] w = 0 := by
  refine S_of_zero fun k hk => ?_
  show (if Uw53.ends (w.take (k + 1)) [] = true then cr g w (k + 1) else 0) = 0
  rw [if_neg]
  intro h
  have h2 := (ends_iff.mp h).length_le
  rw [List.length_take, List.length_nil] at h2
  omega
end
end Rw
/-! A race's chain of states, and Conway's equations. -/
namespace Rw
open Uw53 (Q Game)
/-- the word with a number -/
def W (ws : List (List Nat)) (i : Nat) : List Nat := ws.getD i []
theorem W_mem {ws : List (List Nat)} {i : Nat} (h : i < ws.length) : W ws i ∈ ws := by
  unfold W
  rw [List.getD_eq_getElem?_getD, List.getElem?_eq_getElem h]
  exact List.getElem_mem h
theorem mem_W {ws : List (List Nat)} {w : List Nat} (h : w ∈ ws) : ∃ i, i < ws.length ∧ W ws i = w := by
  obtain ⟨i, hi, e⟩ := List.getElem_of_mem h
  refine ⟨i, hi, ?_⟩
  unfold W
  rw [List.getD_eq_getElem?_getD, List.getElem?_eq_getElem hi]
  exact e
/-- a race's words: none is empty, none is contained in another one -/
structure Free (ws : List (List Nat)) : Prop where
  ne : ∀ i, i < ws.length → W ws i ≠ []
  fr : ∀ i j, i < ws.length → j < ws.length → i ≠ j → ¬ W ws i <:+: W ws j
/-- no word occurs in a sequence -/
def Clean (ws : List (List Nat)) (u : List Nat) : Prop := ∀ i, i < ws.length → ¬ W ws i <:+: u
theorem ended_unique {ws : List (List Nat)} (F : Free ws) {i j : Nat} {u : List Nat} (hi : i < ws.length) (hj : j < ws.length) (h1 : W ws i <:+ u) (h2 : W ws j <:+ u) : i = j := by
  apply Classical.byContradiction
  intro ne
  rcases List.suffix_or_suffix_of_suffix h1 h2 with h | h
  · exact F.fr i j hi hj ne h.isInfix
  · exact F.fr j i hj hi (Ne.symm ne) h.isInfix
theorem C_end {g : Game} {ws : List (List Nat)} (F : Free ws) {i j : Nat} {u : List Nat} (hi : i < ws.length) (hj : j < ws.length) (h : W ws i <:+ u) : C g u (W ws j) = C g (W ws i) (W ws j) := by
  refine C_congr fun k hk => ⟨fun hv => ?_, fun hv => hv.trans h⟩
  rcases List.suffix_or_suffix_of_suffix hv h with h1 | h1
  · exact h1
  · have h2 : W ws i <:+: W ws j := h1.isInfix.trans (List.take_prefix _ _).isInfix
    have e : i = j := Classical.byContradiction fun ne => F.fr i j hi hj ne h2
    subst e
    have h3 : (W ws i).length ≤ ((W ws i).take (k + 1)).length := h1.length_le
    have h4 : (W ws i).take (k + 1) = W ws i := List.take_of_length_le (by rw [List.length_take] at h3; omega)
    rw [h4]
    exact List.suffix_rfl
theorem C_tail {g : Game} {ws : List (List Nat)} (F : Free ws) {i j : Nat} (hi : i < ws.length) (hj : j < ws.length) :
    C g (W ws i) (W ws j) - C g (W ws i).tail (W ws j) = cr g (W ws i) (W ws i).length * one i j := by
  have key : ∀ v : List Nat, v <:+ W ws i ↔ v = W ws i ∨ v <:+ (W ws i).tail := by
    intro v
    cases e : W ws i with
    | nil => exact absurd e (F.ne i hi)
    | cons x r => rw [List.suffix_cons_iff, List.tail_cons]
  by_cases c : j = i
  · subst c
    rw [one_self]
    obtain ⟨L, hL⟩ : ∃ L, (W ws j).length = L + 1 := ⟨(W ws j).length - 1, by have := List.length_pos_iff.mpr (F.ne j hj); omega⟩
    have t1 : ∀ k, k < L → term g (W ws j) (W ws j) (k + 1) = term g (W ws j).tail (W ws j) (k + 1) := by
      intro k hk
      show (if Uw53.ends ((W ws j).take (k + 1)) (W ws j) = true then cr g (W ws j) (k + 1) else 0) = (if Uw53.ends ((W ws j).take (k + 1)) (W ws j).tail = true then cr g (W ws j) (k + 1) else 0)
      have : ((W ws j).take (k + 1) <:+ W ws j) ↔ ((W ws j).take (k + 1) <:+ (W ws j).tail) := by
        rw [key]
        constructor
        · rintro (h | h)
          · have := congrArg List.length h
            rw [List.length_take] at this
            omega
          · exact h
        · exact Or.inr
      by_cases cc : (W ws j).take (k + 1) <:+ (W ws j).tail
      · rw [if_pos (ends_iff.mpr cc), if_pos (ends_iff.mpr (this.mpr cc))]
      · rw [if_neg (fun z => cc (ends_iff.mp z)), if_neg (fun z => cc (this.mp (ends_iff.mp z)))]
    have t2 : term g (W ws j) (W ws j) (L + 1) = cr g (W ws j) (L + 1) := by
      show (if Uw53.ends ((W ws j).take (L + 1)) (W ws j) = true then cr g (W ws j) (L + 1) else 0) = _
      rw [if_pos]
      rw [← hL, List.take_length]
      exact ends_iff.mpr List.suffix_rfl
    have t3 : term g (W ws j).tail (W ws j) (L + 1) = 0 := by
      show (if Uw53.ends ((W ws j).take (L + 1)) (W ws j).tail = true then cr g (W ws j) (L + 1) else 0) = _
      rw [if_neg]
      rw [← hL, List.take_length]
      intro h
      have := (ends_iff.mp h).length_le
      rw [List.length_tail] at this
      omega
    unfold C
    rw [hL, S_succ, S_succ, S_congr t1, t2, t3]
    grind
  · rw [one_ne c]
    have : C g (W ws i) (W ws j) = C g (W ws i).tail (W ws j) := by
      refine C_congr fun k _ => ?_
      rw [key]
      constructor
      · rintro (h | h)
        · exact absurd (h ▸ (List.take_prefix _ _).isInfix) (F.fr i j hi hj (Ne.symm c))
        · exact h
      · exact Or.inr
    rw [this]
    grind
theorem clean_tail {ws : List (List Nat)} (F : Free ws) {i : Nat} (hi : i < ws.length) : Clean ws (W ws i).tail := by
  intro j hj h
  have h2 : W ws j <:+: W ws i := h.trans (List.tail_suffix _).isInfix
  by_cases c : j = i
  · subst c
    have := h.length_le
    have := List.length_pos_iff.mpr (F.ne j hj)
    rw [List.length_tail] at *
    omega
  · exact F.fr j i hj hi c h2
theorem clean_nil {ws : List (List Nat)} (F : Free ws) : Clean ws [] := fun i hi h => F.ne i hi (List.infix_nil.mp h)
/-! ### The chain -/
/-- states, for each state and letter the word that occurs, or else the state reached -/
structure Chain (g : Game) (ws : List (List Nat)) (n : Nat) (st : Nat → List Nat) (win : Nat → Nat → Option Nat) (nxt : Nat → Nat → Nat) : Prop where
  clean : ∀ s, s < n → Clean ws (st s)
  won : ∀ s x i, s < n → x < g.weights.length → win s x = some i → i < ws.length ∧ W ws i <:+ st s ++ [x]
  goes : ∀ s x, s < n → x < g.weights.length → win s x = none → nxt s x < n ∧ ∀ j, j < ws.length → C g (st s ++ [x]) (W ws j) = C g (st (nxt s x)) (W ws j)
  reach : ∀ u, Clean ws u → ∃ t, t < n ∧ ∀ j, j < ws.length → C g u (W ws j) = C g (st t) (W ws j)
section
variable {g : Game} {ws : List (List Nat)} {n : Nat} {st : Nat → List Nat} {win : Nat → Nat → Option Nat} {nxt : Nat → Nat → Nat}
/-- the chain's equations: for a state the states, and the words -/
def A (g : Game) (win : Nat → Nat → Option Nat) (nxt : Nat → Nat → Nat) (s t : Nat) : Rat := tot g * one s t - S g.weights.length (fun x => if win s x = none ∧ nxt s x = t then wt g x else 0)
def B (g : Game) (win : Nat → Nat → Option Nat) (s i : Nat) : Rat := S g.weights.length (fun x => if win s x = some i then wt g x else 0)
theorem A_app (K : Chain g ws n st win nxt) (h : Nat → Rat) {s : Nat} (hs : s < n) : S n (fun t => A g win nxt s t * h t) = tot g * h s - S g.weights.length (fun x => if win s x = none then wt g x * h (nxt s x) else 0) := by
  have e1 : S n (fun t => A g win nxt s t * h t) = S n (fun t => tot g * h t * one s t) - S n (fun t => S g.weights.length (fun x => (if win s x = none ∧ nxt s x = t then wt g x else 0) * h t)) := by
    rw [← S_sub]
    refine S_congr fun t _ => ?_
    show (tot g * one s t - S g.weights.length (fun x => if win s x = none ∧ nxt s x = t then wt g x else 0)) * h t = tot g * h t * one s t - S g.weights.length (fun x => (if win s x = none ∧ nxt s x = t then wt g x else 0) * h t)
    rw [S_mul_r]
    grind
  rw [e1, S_pick hs, S_swap]
  congr 1
  refine S_congr fun x hx => ?_
  cases hw : win s x with
  | some i =>
    rw [if_neg (by simp)]
    exact S_of_zero fun t _ => by rw [if_neg (by simp)]; grind
  | none =>
    rw [if_pos rfl]
    obtain ⟨hn, _⟩ := K.goes s x hs hx hw
    rw [S_one hn _ (fun t _ hne => by rw [if_neg (fun z => hne z.2.symm)]; grind), if_pos ⟨rfl, rfl⟩]
theorem B_app (K : Chain g ws n st win nxt) (h : Nat → Rat) {s : Nat} (hs : s < n) : S ws.length (fun i => B g win s i * h i) = S g.weights.length (fun x => match win s x with
    | some i => wt g x * h i
    | none => 0) := by
  have e1 : S ws.length (fun i => B g win s i * h i) = S ws.length (fun i => S g.weights.length (fun x => (if win s x = some i then wt g x else 0) * h i)) :=
    S_congr fun i _ => by rw [S_mul_r]; rfl
  rw [e1, S_swap]
  refine S_congr fun x hx => ?_
  cases hw : win s x with
  | none => exact S_of_zero fun i _ => by rw [if_neg (by simp)]; grind
  | some i =>
    obtain ⟨hi, _⟩ := K.won s x i hs hx hw
    rw [S_one hi _ (fun t _ hne => by rw [if_neg (fun z => hne (Option.some.inj z).symm)]; grind), if_pos rfl]
/-- every letter goes on or ends the race -/
theorem split (s : Nat) (f : Nat → Rat) : S g.weights.length f = S g.weights.length (fun x => if win s x = none then f x else 0) + S g.weights.length (fun x => match win s x with
    | some _ => f x
    | none => 0) := by
  rw [← S_add]
  refine S_congr fun x _ => ?_
  cases win s x with
  | none => show f x = (if none = none then f x else 0) + 0; rw [if_pos rfl]; grind
  | some i => show f x = (if some i = none then f x else 0) + f x; rw [if_neg (by simp)]; grind
theorem A_one (K : Chain g ws n st win nxt) {s : Nat} (hs : s < n) : S n (fun t => A g win nxt s t * 1) = S ws.length (fun i => B g win s i * 1) := by
  rw [A_app K (fun _ => 1) hs, B_app K (fun _ => 1) hs, tot_sum]
  have e := split (g := g) (win := win) s (fun x => wt g x * 1)
  have e2 : S g.weights.length (fun x => wt g x * 1) = S g.weights.length (wt g) := S_congr fun x _ => by grind
  rw [e2] at e
  grind
theorem A_C (hp : Pos g) (F : Free ws) (hl : ∀ j, j < ws.length → Let g (W ws j)) (K : Chain g ws n st win nxt) {s j : Nat} (hs : s < n) (hj : j < ws.length) :
    S n (fun t => A g win nxt s t * C g (st t) (W ws j)) = S ws.length (fun i => B g win s i * C g (W ws i) (W ws j)) - tot g := by
  rw [A_app K (fun t => C g (st t) (W ws j)) hs, B_app K (fun i => C g (W ws i) (W ws j)) hs]
  have e := one_step hp (hl j hj) (u := st s) (fun h => K.clean s hs j hj h.isInfix)
  rw [split (win := win) s] at e
  have e1 : S g.weights.length (fun x => if win s x = none then wt g x * C g (st s ++ [x]) (W ws j) else 0) = S g.weights.length (fun x => if win s x = none then wt g x * C g (st (nxt s x)) (W ws j) else 0) := by
    refine S_congr fun x hx => ?_
    by_cases c : win s x = none
    · rw [if_pos c, if_pos c, (K.goes s x hs hx c).2 j hj]
    · rw [if_neg c, if_neg c]
  have e2 : S g.weights.length (fun x => match win s x with
      | some _ => wt g x * C g (st s ++ [x]) (W ws j)
      | none => 0) = S g.weights.length (fun x => match win s x with
      | some i => wt g x * C g (W ws i) (W ws j)
      | none => 0) := by
    refine S_congr fun x hx => ?_
    cases c : win s x with
    | none => rfl
    | some i =>
      obtain ⟨hi, h⟩ := K.won s x i hs hx c
      show wt g x * C g (st s ++ [x]) (W ws j) = wt g x * C g (W ws i) (W ws j)
      rw [C_end F hi hj h]
  rw [e1, e2] at e
  grind
theorem tot_pos (hp : Pos g) (hn : g.weights ≠ []) : 0 < tot g := by
  rw [tot_sum]
  have h0 : 0 < g.weights.length := List.length_pos_iff.mpr hn
  have h1 := S_ge_one (f := wt g) h0 (fun x hx => by have := wt_pos hp hx; grind)
  have h2 := wt_pos hp h0
  grind
theorem A_off (hp : Pos g) {s t : Nat} (hne : s ≠ t) : A g win nxt s t ≤ 0 := by
  have : 0 ≤ S g.weights.length (fun x => if win s x = none ∧ nxt s x = t then wt g x else 0) := S_nonneg fun x hx => by
    split
    · have := wt_pos hp hx; grind
    · exact Rat.le_refl
  show tot g * one s t - S g.weights.length (fun x => if win s x = none ∧ nxt s x = t then wt g x else 0) ≤ 0
  rw [one_ne (Ne.symm hne)]
  grind
/-- a positive vector that the chain's matrix makes positive: nobody stays for ever -/
theorem A_pos (hp : Pos g) (hn : g.weights ≠ []) (F : Free ws) (hl : ∀ j, j < ws.length → Let g (W ws j)) (hw : ws ≠ []) (K : Chain g ws n st win nxt) :
    ∃ v : Nat → Rat, (∀ t, t < n → 0 < v t) ∧ ∀ s, s < n → 0 < S n (fun t => A g win nxt s t * v t) := by
  have h0 : 0 < ws.length := List.length_pos_iff.mpr hw
  let k : Rat := 1 + S n (fun t => C g (st t) (W ws 0)) + S ws.length (fun i => C g (W ws i) (W ws 0))
  have k1 : ∀ t, t < n → C g (st t) (W ws 0) < k := by
    intro t ht
    have h1 := S_ge_one (f := fun t => C g (st t) (W ws 0)) ht (fun i _ => C_nonneg _ _)
    have h2 : 0 ≤ S ws.length (fun i => C g (W ws i) (W ws 0)) := S_nonneg fun i _ => C_nonneg _ _
    show _ < 1 + _ + _
    grind
  have k2 : ∀ i, i < ws.length → C g (W ws i) (W ws 0) ≤ k := by
    intro i hi
    have h1 := S_ge_one (f := fun i => C g (W ws i) (W ws 0)) hi (fun i _ => C_nonneg _ _)
    have h2 : 0 ≤ S n (fun t => C g (st t) (W ws 0)) := S_nonneg fun i _ => C_nonneg _ _
    show _ ≤ 1 + _ + _
    grind
  refine ⟨fun t => k - C g (st t) (W ws 0), fun t ht => by have := k1 t ht; grind, fun s hs => ?_⟩
  have e : S n (fun t => A g win nxt s t * (k - C g (st t) (W ws 0))) = k * S n (fun t => A g win nxt s t * 1) - S n (fun t => A g win nxt s t * C g (st t) (W ws 0)) := by
    rw [← S_mul, ← S_sub]
    exact S_congr fun t _ => by grind
  rw [e, A_one K hs, A_C hp F hl K hs h0]
  have e2 : k * S ws.length (fun i => B g win s i * 1) - S ws.length (fun i => B g win s i * C g (W ws i) (W ws 0)) = S ws.length (fun i => B g win s i * (k - C g (W ws i) (W ws 0))) := by
    rw [← S_mul, ← S_sub]
    exact S_congr fun t _ => by grind
  have e3 : 0 ≤ S ws.length (fun i => B g win s i * (k - C g (W ws i) (W ws 0))) := S_nonneg fun i hi => by
    refine Rat.mul_nonneg (S_nonneg fun x hx => ?_) (by have := k2 i hi; grind)
    split
    · have := wt_pos hp hx; grind
    · exact Rat.le_refl
  have := tot_pos hp hn
  grind
/-- Conway's equations for a sequence u, with probabilities P and time T -/
structure Conway (g : Game) (ws : List (List Nat)) (u : List Nat) (P : Nat → Rat) (T : Rat) : Prop where
  eqs : ∀ j, j < ws.length → S ws.length (fun i => P i * C g (W ws i) (W ws j)) - T = C g u (W ws j)
  sum : S ws.length P = 1
/-- what the chain's equations give when all states but one are eliminated keeps Conway's equations -/
theorem conway (hp : Pos g) (F : Free ws) (hl : ∀ j, j < ws.length → Let g (W ws j)) (K : Chain g ws n st win nxt) {u : List Nat} {t0 : Nat} (h0 : t0 < n) (hu : ∀ j, j < ws.length → C g u (W ws j) = C g (st t0) (W ws j))
    {y : Nat → Rat} {d : Rat} (hd : d ≠ 0) (hy : ∀ t, t < n → S n (fun s => y s * A g win nxt s t) = d * one t0 t) :
    Conway g ws u (fun i => S n (fun s => y s * B g win s i) / d) (S n (fun s => y s * tot g) / d) := by
  have pull : ∀ h : Nat → Rat, S n (fun s => y s * S n (fun t => A g win nxt s t * h t)) = d * h t0 := by
    intro h
    have a1 : S n (fun s => y s * S n (fun t => A g win nxt s t * h t)) = S n (fun s => S n (fun t => y s * A g win nxt s t * h t)) :=
      S_congr fun s _ => by rw [← S_mul]; exact S_congr fun t _ => by grind
    rw [a1, S_swap]
    have a2 : S n (fun t => S n (fun s => y s * A g win nxt s t * h t)) = S n (fun t => d * h t * one t0 t) :=
      S_congr fun t ht => by rw [S_mul_r, hy t ht]; grind
    rw [a2, S_pick h0]
  have push : ∀ h : Nat → Rat, S ws.length (fun i => S n (fun s => y s * B g win s i) / d * h i) = S n (fun s => y s * S ws.length (fun i => B g win s i * h i)) / d := by
    intro h
    have a1 : S ws.length (fun i => S n (fun s => y s * B g win s i) / d * h i) = S ws.length (fun i => S n (fun s => y s * B g win s i * h i) * (1 / d)) :=
      S_congr fun i _ => by rw [S_mul_r]; grind
    have a2 : S n (fun s => y s * S ws.length (fun i => B g win s i * h i)) = S n (fun s => S ws.length (fun i => y s * B g win s i * h i)) :=
      S_congr fun s _ => by rw [← S_mul]; exact S_congr fun i _ => by grind
    rw [a1, S_mul_r, a2, S_swap]
    grind
  refine ⟨fun j hj => ?_, ?_⟩
  · have e := pull (fun t => C g (st t) (W ws j))
    rw [S_congr (g := fun s => y s * S ws.length (fun i => B g win s i * C g (W ws i) (W ws j)) - y s * tot g) (fun s hs => by rw [A_C hp F hl K hs hj]; grind), S_sub] at e
    rw [push (fun i => C g (W ws i) (W ws j)), hu j hj]
    grind
  · have e := pull (fun _ => 1)
    rw [S_congr (g := fun s => y s * S ws.length (fun i => B g win s i * 1)) (fun s hs => by rw [A_one K hs])] at e
    have e2 := push (fun _ => 1)
    have e3 : S ws.length (fun i => S n (fun s => y s * B g win s i) / d) = S ws.length (fun i => S n (fun s => y s * B g win s i) / d * 1) := S_congr fun i _ => by grind
    rw [e3, e2, e]
    grind
/-- every sequence in which no word occurs has a solution of Conway's equations -/
theorem conway_some (hp : Pos g) (hn : g.weights ≠ []) (F : Free ws) (hl : ∀ j, j < ws.length → Let g (W ws j)) (hw : ws ≠ []) (K : Chain g ws n st win nxt) {u : List Nat} (hu : Clean ws u) : ∃ P T, Conway g ws u P T := by
  obtain ⟨t0, h0, h1⟩ := K.reach u hu
  obtain ⟨v, hv, hA⟩ := A_pos hp hn F hl hw K
  obtain ⟨y, hy⟩ := meets (inj_of_pos (fun s t _ _ hne => A_off (win := win) (nxt := nxt) hp hne) v hv hA) (one t0)
  exact ⟨_, _, conway hp F hl K h0 h1 (d := 1) (by decide) (fun t ht => by rw [hy t ht]; grind)⟩
end
end Rw
/-! Conway's equations have one solution; the specification's race is that one. -/
namespace Rw
open Uw53 (Q Game)
section
variable {g : Game} {ws : List (List Nat)} {n : Nat} {st : Nat → List Nat} {win : Nat → Nat → Option Nat} {nxt : Nat → Nat → Nat}
/-- the matrix of Conway's equations -/
def CM (g : Game) (ws : List (List Nat)) (r c : Nat) : Rat :=
  if r < ws.length then (if c < ws.length then C g (W ws c) (W ws r) else -1) else (if c < ws.length then 1 else 0)
theorem CM_low {r c : Nat} (hr : r < ws.length) (hc : c < ws.length) : CM g ws r c = C g (W ws c) (W ws r) := by
  unfold CM
  rw [if_pos hr, if_pos hc]
theorem CM_time {r : Nat} (hr : r < ws.length) : CM g ws r ws.length = -1 := by
  unfold CM
  rw [if_pos hr, if_neg (by omega)]
theorem CM_sum {c : Nat} (hc : c < ws.length) : CM g ws ws.length c = 1 := by
  unfold CM
  rw [if_neg (by omega), if_pos hc]
theorem CM_last : CM g ws ws.length ws.length = 0 := by
  unfold CM
  rw [if_neg (by omega), if_neg (by omega)]
theorem CM_row (X : Nat → Rat) {r : Nat} (hr : r < ws.length) : S (ws.length + 1) (fun k => CM g ws r k * X k) = S ws.length (fun i => X i * C g (W ws i) (W ws r)) - X ws.length := by
  rw [S_succ, CM_time hr, S_congr (g := fun i => X i * C g (W ws i) (W ws r)) (fun i hi => by rw [CM_low hr hi]; grind)]
  grind
theorem CM_row_last (X : Nat → Rat) : S (ws.length + 1) (fun k => CM g ws ws.length k * X k) = S ws.length X := by
  rw [S_succ, CM_last, S_congr (g := X) (fun i hi => by rw [CM_sum hi]; grind)]
  grind
theorem cr_pos (hp : Pos g) (hn : g.weights ≠ []) {w : List Nat} (hw : Let g w) (k : Nat) : 0 < cr g w k := by
  have h1 : 0 < ((g.heft (w.take k) : Nat) : Rat) := Rat.natCast_pos.mpr (heft_pos hp (hw.take k))
  have h2 : 0 < ((g.all ^ k : Nat) : Rat) := Rat.natCast_pos.mpr (Nat.pow_pos (Rat.natCast_pos.mp (tot_pos hp hn)))
  show 0 < ((g.all ^ k : Nat) : Rat) / ((g.heft (w.take k) : Nat) : Rat)
  rw [Rat.div_def]
  exact Rat.mul_pos h2 (Rat.inv_pos.mpr h1)
theorem CM_inj (hp : Pos g) (hn : g.weights ≠ []) (F : Free ws) (hl : ∀ j, j < ws.length → Let g (W ws j)) (hw : ws ≠ []) (K : Chain g ws n st win nxt) (x : Nat → Rat)
    (hx : ∀ r, r < ws.length + 1 → S (ws.length + 1) (fun k => CM g ws r k * x k) = 0) : ∀ k, k < ws.length + 1 → x k = 0 := by
  have vec : ∀ u, Clean ws u → ∃ X : Nat → Rat, Conway g ws u X (X ws.length) := by
    intro u hu
    obtain ⟨P, T, h⟩ := conway_some hp hn F hl hw K hu
    refine ⟨fun k => if k < ws.length then P k else T, ?_, ?_⟩
    · intro j hj
      show _ - (if ws.length < ws.length then P ws.length else T) = _
      rw [if_neg (by omega), ← h.eqs j hj, S_congr (g := fun i => P i * C g (W ws i) (W ws j)) (fun i hi => by rw [if_pos hi])]
    · rw [← h.sum]
      exact S_congr fun i hi => by rw [if_pos hi]
  have all : ∀ i : Nat, ∃ X : Nat → Rat, i < ws.length → Conway g ws (W ws i).tail X (X ws.length) := by
    intro i
    by_cases hi : i < ws.length
    · obtain ⟨X, hX⟩ := vec _ (clean_tail F hi)
      exact ⟨X, fun _ => hX⟩
    · exact ⟨fun _ => 0, fun h => absurd h hi⟩
  obtain ⟨X, hX⟩ := Classical.axiomOfChoice all
  obtain ⟨E, hE⟩ := vec _ (clean_nil F)
  refine inj_of_right (R := fun k c => if c < ws.length then (one c k - X c k) / cr g (W ws c) (W ws c).length else E k) (fun r c hr hc => ?_) x hx
  by_cases c0 : c < ws.length
  · have e1 : S (ws.length + 1) (fun k => CM g ws r k * (if c < ws.length then (one c k - X c k) / cr g (W ws c) (W ws c).length else E k)) = (S (ws.length + 1) (fun k => CM g ws r k * one c k) - S (ws.length + 1) (fun k => CM g ws r k * X c k)) / cr g (W ws c) (W ws c).length := by
      rw [← S_sub]
      have : ∀ (f : Nat → Rat) (z : Rat), S (ws.length + 1) f / z = S (ws.length + 1) (fun k => f k * (1 / z)) := fun f z => by rw [S_mul_r]; grind
      rw [this]
      exact S_congr fun k _ => by rw [if_pos c0]; grind
    have hk := cr_pos hp hn (hl c c0) (W ws c).length
    rw [e1, S_pick (by omega)]
    by_cases r0 : r < ws.length
    · rw [CM_row (X c) r0, (hX c c0).eqs r r0, CM_low r0 c0, C_tail F c0 r0]
      grind
    · have : r = ws.length := by omega
      subst this
      rw [CM_row_last, (hX c c0).sum, CM_sum c0, one_ne (by omega)]
      grind
  · have : c = ws.length := by omega
    subst this
    rw [S_congr (g := fun k => CM g ws r k * E k) (fun k _ => by rw [if_neg (by omega)])]
    by_cases r0 : r < ws.length
    · rw [CM_row E r0, hE.eqs r r0, C_nil, one_ne (by omega)]
    · have : r = ws.length := by omega
      subst this
      rw [CM_row_last, hE.sum, one_self]
/-- the rows of the specification's race -/
def raceRows (g : Game) (ws : List (List Nat)) (u : List Nat) : List Row := (ws.map fun w => ws.map (fun v => C g v w) ++ [-1, C g u w]) ++ [ws.map (fun _ => (1 : Rat)) ++ [0, 1]]
theorem rows_q (hp : Pos g) (hl : ∀ j, j < ws.length → Let g (W ws j)) (u : List Nat) : g.rows ws u = (raceRows g ws u).map qs := by
  have hm : ∀ w, w ∈ ws → Let g w := fun w h => by
    obtain ⟨i, hi, rfl⟩ := mem_W h
    exact hl i hi
  show (ws.map fun w => ws.map (fun v => g.pays v w) ++ [Uw53.whole (-1), g.pays u w]) ++ [ws.map (fun _ => Uw53.whole 1) ++ [Uw53.whole 0, Uw53.whole 1]] = _
  unfold raceRows
  rw [List.map_append, List.map_map]
  congr 1
  · refine List.map_congr_left fun w h => ?_
    show _ = ((ws.map fun v => C g v w) ++ [-1, C g u w]).map q
    rw [List.map_append, List.map_map, pays_q hp (hm w h)]
    congr 1
    exact List.map_congr_left fun v _ => pays_q hp (hm w h)
  · show _ = [((ws.map fun _ => (1 : Rat)) ++ [0, 1]).map q]
    rw [List.map_append, List.map_map]
    rfl
theorem gt_low (f : List Nat → Rat) (a b : Rat) {j : Nat} (hj : j < ws.length) : gt (ws.map f ++ [a, b]) j = f (W ws j) := by
  show (ws.map f ++ [a, b]).getD j 0 = _
  unfold W
  rw [List.getD_eq_getElem?_getD, List.getElem?_append_left (by rw [List.length_map]; exact hj), List.getElem?_map, List.getD_eq_getElem?_getD, List.getElem?_eq_getElem hj]
  rfl
theorem gt_mid (f : List Nat → Rat) (a b : Rat) : gt (ws.map f ++ [a, b]) ws.length = a := by
  show (ws.map f ++ [a, b]).getD ws.length 0 = _
  rw [List.getD_eq_getElem?_getD, List.getElem?_append_right (by rw [List.length_map]; exact Nat.le_refl _), List.length_map, Nat.sub_self]
  rfl
theorem gt_high (f : List Nat → Rat) (a b : Rat) : gt (ws.map f ++ [a, b]) (ws.length + 1) = b := by
  show (ws.map f ++ [a, b]).getD (ws.length + 1) 0 = _
  rw [List.getD_eq_getElem?_getD, List.getElem?_append_right (by rw [List.length_map]; omega), List.length_map, Nat.add_sub_cancel_left]
  rfl
/-- **The specification's race** is what keeps Conway's equations. -/
theorem race_q (hp : Pos g) (hn : g.weights ≠ []) (F : Free ws) (hl : ∀ j, j < ws.length → Let g (W ws j)) (hw : ws ≠ []) (K : Chain g ws n st win nxt) {u : List Nat} {P : Nat → Rat} {T : Rat} (h : Conway g ws u P T) :
    g.race ws u = some ⟨(List.range ws.length).map fun i => q (P i), q T⟩ := by
  let X : Nat → Rat := fun k => if k < ws.length then P k else T
  have xl : ∀ k, k < ws.length → X k = P k := fun k hk => if_pos hk
  have xm : X ws.length = T := if_neg (by omega)
  have lin1 : ∀ (w : List Nat) (c : Rat) (Y : Nat → Rat), S (ws.length + 1) (fun j => gt (ws.map (fun v => C g v w) ++ [-1, c]) j * Y j) = S ws.length (fun i => Y i * C g (W ws i) w) - Y ws.length := by
    intro w c Y
    rw [S_succ, gt_mid, S_congr (g := fun i => Y i * C g (W ws i) w) (fun i hi => by rw [gt_low _ _ _ hi]; grind)]
    grind
  have lin2 : ∀ (Y : Nat → Rat), S (ws.length + 1) (fun j => gt (ws.map (fun _ => (1 : Rat)) ++ [0, 1]) j * Y j) = S ws.length Y := by
    intro Y
    rw [S_succ, gt_mid, S_congr (g := Y) (fun i hi => by rw [gt_low (fun _ => (1 : Rat)) _ _ hi]; grind)]
    grind
  have hs := solve_q (n := ws.length + 1) (rows := raceRows g ws u) (x := X)
    (by unfold raceRows; rw [List.length_append, List.length_map]; rfl)
    (by
      intro r hr
      unfold raceRows at hr
      rcases List.mem_append.mp hr with hr | hr
      · obtain ⟨w, _, rfl⟩ := List.mem_map.mp hr
        rw [List.length_append, List.length_map]; rfl
      · rw [List.mem_singleton.mp hr, List.length_append, List.length_map]; rfl)
    (by
      intro r hr
      unfold raceRows at hr
      rcases List.mem_append.mp hr with hr | hr
      · obtain ⟨w, hw2, rfl⟩ := List.mem_map.mp hr
        obtain ⟨j, hj, rfl⟩ := mem_W hw2
        show S (ws.length + 1) _ = _
        rw [lin1, gt_high, xm, S_congr (g := fun i => P i * C g (W ws i) (W ws j)) (fun i hi => by rw [xl i hi])]
        exact h.eqs j hj
      · rw [List.mem_singleton.mp hr]
        show S (ws.length + 1) _ = _
        rw [lin2, gt_high, S_congr (g := P) xl]
        exact h.sum)
    (by
      intro y hy
      refine CM_inj hp hn F hl hw K y fun r hr => ?_
      by_cases r0 : r < ws.length
      · rw [CM_row y r0]
        have := hy _ (List.mem_append.mpr (Or.inl (List.mem_map.mpr ⟨W ws r, W_mem r0, rfl⟩)))
        unfold Hom at this
        rw [lin1] at this
        exact this
      · have e : r = ws.length := by omega
        subst e
        rw [CM_row_last]
        have := hy _ (List.mem_append.mpr (Or.inr (List.mem_singleton.mpr rfl)))
        unfold Hom at this
        rw [lin2] at this
        exact this)
  show (if ws = [] then none else (Uw53.solve (ws.length + 1) (g.rows ws u)).map fun l => (⟨l.take ws.length, l.getD ws.length (Uw53.whole 0)⟩ : Uw53.Race)) = _
  rw [if_neg hw, rows_q hp hl, hs]
  show some (⟨((List.range (ws.length + 1)).map fun i => q (X i)).take ws.length, ((List.range (ws.length + 1)).map fun i => q (X i)).getD ws.length (Uw53.whole 0)⟩ : Uw53.Race) = _
  have e1 : ((List.range (ws.length + 1)).map fun i => q (X i)).take ws.length = (List.range ws.length).map fun i => q (P i) := by
    rw [List.range_succ, List.map_append, List.take_left' (by rw [List.length_map, List.length_range])]
    exact List.map_congr_left fun i hi => by rw [xl i (List.mem_range.mp hi)]
  have e2 : ((List.range (ws.length + 1)).map fun i => q (X i)).getD ws.length (Uw53.whole 0) = q T := by
    rw [List.getD_eq_getElem?_getD, List.getElem?_map, List.getElem?_range (by omega)]
    show q (X ws.length) = q T
    rw [xm]
  rw [e1, e2]
end
end Rw
/-! A determinant by its first row: what elimination without fractions needs of it. -/
namespace Rw
def sg : Nat → Rat
  | 0 => 1
  | k + 1 => - sg k
def det : Nat → (Nat → Nat → Rat) → Rat
  | 0, _ => 1
  | n + 1, a => S (n + 1) (fun c => a 0 c * (sg c * det n (fun i j => a (i + 1) (skip c j))))
theorem det_succ (n : Nat) (a : Nat → Nat → Rat) : det (n + 1) a = S (n + 1) (fun c => a 0 c * (sg c * det n (fun i j => a (i + 1) (skip c j)))) := rfl
/-- whole numbers -/
def Whole (r : Rat) : Prop := ∃ z : Int, r = (z : Rat)
theorem Whole.add {a b : Rat} (ha : Whole a) (hb : Whole b) : Whole (a + b) := by
  obtain ⟨x, rfl⟩ := ha
  obtain ⟨y, rfl⟩ := hb
  exact ⟨x + y, (Rat.intCast_add x y).symm⟩
theorem Whole.mul {a b : Rat} (ha : Whole a) (hb : Whole b) : Whole (a * b) := by
  obtain ⟨x, rfl⟩ := ha
  obtain ⟨y, rfl⟩ := hb
  exact ⟨x * y, (Rat.intCast_mul x y).symm⟩
theorem Whole.neg {a : Rat} (ha : Whole a) : Whole (-a) := by
  obtain ⟨x, rfl⟩ := ha
  exact ⟨-x, (Rat.intCast_neg x).symm⟩
theorem whole_S {n : Nat} {f : Nat → Rat} (h : ∀ i, i < n → Whole (f i)) : Whole (S n f) := by
  induction n with
  | zero => exact ⟨0, rfl⟩
  | succ n ih => exact (ih fun i hi => h i (by omega)).add (h n (by omega))
theorem whole_sg : ∀ k, Whole (sg k)
  | 0 => ⟨1, rfl⟩
  | k + 1 => (whole_sg k).neg
theorem whole_det : ∀ (n : Nat) (a : Nat → Nat → Rat), (∀ i j, Whole (a i j)) → Whole (det n a)
  | 0, _, _ => ⟨1, rfl⟩
  | n + 1, _, h => whole_S fun c _ => (h 0 c).mul ((whole_sg c).mul (whole_det n _ fun i j => h (i + 1) (skip c j)))
/-- the place of e where c is left out -/
def unskip (c e : Nat) : Nat := if e < c then e else e - 1
theorem skip_unskip {c e : Nat} (h : e ≠ c) : skip c (unskip c e) = e := by
  unfold skip unskip
  by_cases h1 : e < c
  · rw [if_pos h1, if_pos h1]
  · rw [if_neg h1, if_neg (by omega)]; omega
theorem unskip_skip (c d : Nat) : unskip c (skip c d) = d := by
  unfold skip unskip
  by_cases h1 : d < c
  · rw [if_pos h1, if_pos h1]
  · rw [if_neg h1, if_neg (by omega)]; omega
theorem skip_ne (c d : Nat) : skip c d ≠ c := by
  unfold skip
  split <;> omega
/-- a sum with one place left out -/
theorem S_skip (n c : Nat) (hc : c < n + 1) (f : Nat → Rat) : S (n + 1) f = f c + S n (fun d => f (skip c d)) := by
  induction n with
  | zero =>
    have : c = 0 := by omega
    subst this
    rw [S_succ, S_zero, S_zero]; grind
  | succ n ih =>
    by_cases e : c = n + 1
    · subst e
      rw [S_succ, S_congr (g := fun d => f (skip (n + 1) d)) (fun d hd => by unfold skip; rw [if_pos hd])]
      grind
    · rw [S_succ, ih (by omega), S_succ]
      have : skip c n = n + 1 := by unfold skip; rw [if_neg (by omega)]
      rw [this]
      grind
theorem sg_pred {e : Nat} (h : 0 < e) : sg e = - sg (e - 1) := by
  cases e with
  | zero => omega
  | succ e => rfl
/-- rows 0 and 1 exchanged -/
def swap01 (a : Nat → Nat → Rat) (i j : Nat) : Rat := if i = 0 then a 1 j else if i = 1 then a 0 j else a i j
/-- the two first rows' columns c and e, and the rest -/
def two (n : Nat) (b : Nat → Nat → Rat) (c e : Nat) : Rat := if e = c then 0 else sg c * sg (unskip c e) * det n (fun i j => b i (skip c (skip (unskip c e) j)))
theorem two_anti_lt (n : Nat) (b : Nat → Nat → Rat) {c e : Nat} (h : c < e) : two n b c e = - two n b e c := by
  unfold two
  rw [if_neg (by omega), if_neg (by omega)]
  have u1 : unskip c e = e - 1 := by unfold unskip; rw [if_neg (by omega)]
  have u2 : unskip e c = c := by unfold unskip; rw [if_pos h]
  have m : (fun i j => b i (skip c (skip (e - 1) j))) = fun i j => b i (skip e (skip c j)) := by
    funext i j
    congr 1
    unfold skip
    split <;> split <;> (try split) <;> (try split) <;> omega
  rw [u1, u2, m, sg_pred (show 0 < e by omega)]
  grind
theorem two_anti (n : Nat) (b : Nat → Nat → Rat) (c e : Nat) : two n b c e = - two n b e c := by
  rcases Nat.lt_trichotomy c e with h | h | h
  · exact two_anti_lt n b h
  · subst h
    unfold two
    rw [if_pos rfl]; grind
  · have := two_anti_lt n b h
    grind
theorem det_two (n : Nat) (a : Nat → Nat → Rat) : det (n + 2) a = S (n + 2) (fun c => S (n + 2) (fun e => a 0 c * a 1 e * two n (fun i j => a (i + 2) j) c e)) := by
  rw [det_succ]
  refine S_congr fun c hc => ?_
  rw [S_skip (n + 1) c hc]
  have z : a 0 c * a 1 c * two n (fun i j => a (i + 2) j) c c = 0 := by
    unfold two
    rw [if_pos rfl]; grind
  rw [z, det_succ, ← S_mul, ← S_mul]
  have : ∀ x : Rat, 0 + x = x := fun x => by grind
  rw [this]
  refine S_congr fun d _ => ?_
  unfold two
  rw [if_neg (skip_ne c d), unskip_skip]
  show a 0 c * (sg c * (a (0 + 1) (skip c d) * (sg d * det n (fun i j => a (i + 1 + 1) (skip c (skip d j)))))) = a 0 c * a 1 (skip c d) * (sg c * sg d * det n (fun i j => a (i + 2) (skip c (skip d j))))
  grind
theorem det_swap (n : Nat) (a : Nat → Nat → Rat) : det (n + 2) (swap01 a) = - det (n + 2) a := by
  rw [det_two, det_two, S_swap, ← S_neg]
  refine S_congr fun c _ => ?_
  rw [← S_neg]
  refine S_congr fun e _ => ?_
  have r0 : ∀ j, swap01 a 0 j = a 1 j := fun j => if_pos rfl
  have r1 : ∀ j, swap01 a 1 j = a 0 j := fun j => rfl
  have r2 : (fun i j => swap01 a (i + 2) j) = fun i j => a (i + 2) j := by
    funext i j
    unfold swap01
    rw [if_neg (by omega), if_neg (by omega)]
  rw [r0, r1, r2, two_anti]
  grind
/-- a first row that is another row, too -/
theorem det_same : ∀ (n : Nat) (a : Nat → Nat → Rat) (i : Nat), 0 < i → i < n → (∀ j, a 0 j = a i j) → det n a = 0
  | 0, _, _, _, h, _ => absurd h (by omega)
  | 1, _, _, h1, h2, _ => absurd h1 (by omega)
  | n + 2, a, i, h0, hi, h => by
    have hs := det_swap n a
    by_cases ci : i = 1
    · subst ci
      have : swap01 a = a := by
        funext i j
        unfold swap01
        by_cases c0 : i = 0
        · rw [if_pos c0, c0, h]
        · rw [if_neg c0]
          by_cases c1 : i = 1
          · rw [if_pos c1, c1, h]
          · rw [if_neg c1]
      rw [this] at hs
      grind
    · have z : det (n + 2) (swap01 a) = 0 := by
        rw [det_succ]
        refine S_of_zero fun c _ => ?_
        rw [det_same (n + 1) (fun k j => swap01 a (k + 1) (skip c j)) (i - 1) (by omega) (by omega) (fun j => ?_)]
        · grind
        · show swap01 a (0 + 1) (skip c j) = swap01 a (i - 1 + 1) (skip c j)
          have e : i - 1 + 1 = i := by omega
          rw [e]
          unfold swap01
          rw [if_neg (by omega), if_pos (show 0 + 1 = 1 from rfl), if_neg (by omega), if_neg (show ¬ i = 1 from ci)]
          exact h _
      rw [z] at hs
      grind
/-- the first row put anew -/
def row0 (f : Nat → Rat) (a : Nat → Nat → Rat) (i j : Nat) : Rat := if i = 0 then f j else a i j
theorem det_row0 (n : Nat) (f : Nat → Rat) (a : Nat → Nat → Rat) : det (n + 1) (row0 f a) = S (n + 1) (fun c => f c * (sg c * det n (fun i j => a (i + 1) (skip c j)))) := by
  rw [det_succ]
  refine S_congr fun c _ => ?_
  have e1 : row0 f a 0 c = f c := if_pos rfl
  have e2 : (fun i j => row0 f a (i + 1) (skip c j)) = fun i j => a (i + 1) (skip c j) := by
    funext i j
    exact if_neg (by omega)
  rw [e1, e2]
/-- a combination of the other rows taken off the first row; what is left stands in the first column alone -/
theorem det_schur (k : Nat) (a : Nat → Nat → Rat) (f : Nat → Rat) (l : Nat → Rat) (h : ∀ j, a 0 j = f j + S k (fun s => l s * a (s + 1) j)) (hz : ∀ j, 0 < j → j < k + 1 → f j = 0) :
    det (k + 1) a = f 0 * det k (fun i j => a (i + 1) (j + 1)) := by
  have e0 : a = row0 (a 0) a := by
    funext i j
    unfold row0
    split
    · next h => rw [h]
    · rfl
  have e1 : det (k + 1) a = det (k + 1) (row0 f a) + S k (fun s => l s * det (k + 1) (row0 (a (s + 1)) a)) := by
    rw [e0, det_row0]
    have e2 : ∀ s, det (k + 1) (row0 (a (s + 1)) a) = S (k + 1) (fun c => a (s + 1) c * (sg c * det k (fun i j => a (i + 1) (skip c j)))) := fun s => det_row0 ..
    have e3 : (fun i j => row0 (a 0) a (i + 1) j) = fun i j => a (i + 1) j := rfl
    rw [← e0, det_row0]
    have e4 : S k (fun s => l s * det (k + 1) (row0 (a (s + 1)) a)) = S (k + 1) (fun c => S k (fun s => l s * a (s + 1) c) * (sg c * det k (fun i j => a (i + 1) (skip c j)))) := by
      rw [S_congr (g := fun s => S (k + 1) (fun c => l s * a (s + 1) c * (sg c * det k (fun i j => a (i + 1) (skip c j))))) (fun s _ => by rw [e2, ← S_mul]; exact S_congr fun c _ => by grind), S_swap]
      exact S_congr fun c _ => by rw [S_mul_r]
    rw [e4, ← S_add]
    refine S_congr fun c _ => ?_
    rw [h c]
    grind
  rw [e1, S_of_zero (f := fun s => l s * det (k + 1) (row0 (a (s + 1)) a)) (fun s hs => ?_), det_row0, S_front]
  · have e5 : S k (fun i => f (i + 1) * (sg (i + 1) * det k (fun r j => a (r + 1) (skip (i + 1) j)))) = 0 := S_of_zero fun i hi => by rw [hz (i + 1) (by omega) (by omega)]; grind
    have e6 : (fun i j => a (i + 1) (skip 0 j)) = fun i j => a (i + 1) (j + 1) := by
      funext i j
      unfold skip
      rw [if_neg (by omega)]
    rw [e5, e6]
    show f 0 * (1 * det k (fun i j => a (i + 1) (j + 1))) + 0 + 0 = _
    grind
  · rw [det_same (k + 1) (row0 (a (s + 1)) a) (s + 1) (by omega) (by omega) (fun j => ?_)]
    · grind
    · show (if 0 = 0 then a (s + 1) j else a 0 j) = (if s + 1 = 0 then a (s + 1) j else a (s + 1) j)
      rw [if_pos rfl, if_neg (by omega)]
end Rw
/-! Elimination without fractions (Bareiss), from the last unknown to the first. -/
namespace Rw
/-- row or column i of the block behind b, with r ahead of it -/
def pos (b r i : Nat) : Nat := if i = 0 then r else b + (i - 1)
theorem pos_zero (b r : Nat) : pos b r 0 = r := if_pos rfl
theorem pos_succ (b r i : Nat) : pos b r (i + 1) = b + i := by
  unfold pos
  rw [if_neg (by omega)]
  omega
section
variable (R : Nat → Nat → Int) (n : Nat)
def rr (r c : Nat) : Rat := ((R r c : Int) : Rat)
/-- row r made free of the k unknowns from b on -/
def free (b k : Nat) (l : Nat → Rat) (r c : Nat) : Rat := rr R r c + S k (fun s => l s * rr R (b + s) c)
def block (b k : Nat) : Rat := det k (fun i j => rr R (b + i) (b + j))
variable {R n}
theorem schur {b k r c : Nat} {l : Nat → Rat} (hz : ∀ s, s < k → free R b k l r (b + s) = 0) :
    det (k + 1) (fun i j => rr R (pos b r i) (pos b c j)) = free R b k l r c * block R b k := by
  have e := det_schur k (fun i j => rr R (pos b r i) (pos b c j)) (fun j => free R b k l r (pos b c j)) (fun s => - l s) (fun j => ?_) (fun j h0 hj => ?_)
  · rw [e]
    show free R b k l r (pos b c 0) * det k (fun i j => rr R (pos b r (i + 1)) (pos b c (j + 1))) = _
    have e2 : (fun i j => rr R (pos b r (i + 1)) (pos b c (j + 1))) = fun i j => rr R (b + i) (b + j) := by
      funext i j
      rw [pos_succ, pos_succ]
    rw [pos_zero, e2]
    rfl
  · show rr R (pos b r 0) (pos b c j) = (rr R r (pos b c j) + S k (fun s => l s * rr R (b + s) (pos b c j))) + S k (fun s => - l s * rr R (pos b r (s + 1)) (pos b c j))
    rw [pos_zero, S_congr (f := fun s => - l s * rr R (pos b r (s + 1)) (pos b c j)) (g := fun s => - (l s * rr R (b + s) (pos b c j))) (fun s _ => by rw [pos_succ]; grind), S_neg]
    grind
  · obtain ⟨i, rfl⟩ : ∃ i, j = i + 1 := ⟨j - 1, by omega⟩
    rw [pos_succ]
    exact hz i (by omega)
/-- the state of the elimination: k unknowns from b on are gone, T is what stands now, d the last pivot -/
structure Gone (R : Nat → Nat → Int) (b k : Nat) (T : Nat → Nat → Int) (d : Int) : Prop where
  dpos : 0 < d
  dis : (d : Rat) = block R b k
  row : ∀ r, r < b → ∃ l : Nat → Rat, (∀ s, s < k → 0 ≤ l s) ∧ (∀ s, s < k → free R b k l r (b + s) = 0) ∧ (∀ t, t < b → t ≠ r → free R b k l r t ≤ 0) ∧ ∀ c, ((T r c : Int) : Rat) = (d : Rat) * free R b k l r c
/-- what is asked of the rows: nothing positive off the diagonal, a positive vector made positive -/
structure Good (R : Nat → Nat → Int) (n : Nat) (v : Nat → Rat) : Prop where
  off : ∀ s t, s < n → t < n → t ≠ s → rr R s t ≤ 0
  vpos : ∀ t, t < n → 0 < v t
  pos : ∀ s, s < n → 0 < S n (fun t => rr R s t * v t)
theorem gone_start {v : Nat → Rat} (G : Good R n v) : Gone R n 0 R 1 := by
  refine ⟨by decide, rfl, fun r hr => ⟨fun _ => 0, fun s hs => absurd hs (by omega), fun s hs => absurd hs (by omega), fun t ht hne => ?_, fun c => ?_⟩⟩
  · show rr R r t + 0 ≤ 0
    have := G.off r t hr ht hne
    grind
  · show ((R r c : Int) : Rat) = ((1 : Int) : Rat) * (((R r c : Int) : Rat) + 0)
    rw [Rat.intCast_one]
    grind
theorem free_pos {v : Nat → Rat} (G : Good R n v) {b k r : Nat} (hn : b + k = n) (hr : r < b) {l : Nat → Rat} (h0 : ∀ s, s < k → 0 ≤ l s) (hz : ∀ s, s < k → free R b k l r (b + s) = 0) (ho : ∀ t, t < b → t ≠ r → free R b k l r t ≤ 0) :
    0 < free R b k l r r := by
  have sum : S n (fun t => free R b k l r t * v t) = S n (fun t => rr R r t * v t) + S k (fun s => l s * S n (fun t => rr R (b + s) t * v t)) := by
    have e1 : S k (fun s => l s * S n (fun t => rr R (b + s) t * v t)) = S n (fun t => S k (fun s => l s * rr R (b + s) t) * v t) := by
      rw [S_congr (g := fun s => S n (fun t => l s * rr R (b + s) t * v t)) (fun s _ => by rw [← S_mul]; exact S_congr fun t _ => by grind), S_swap]
      exact S_congr fun t _ => by rw [S_mul_r]
    rw [e1, ← S_add]
    exact S_congr fun t _ => by show (rr R r t + S k (fun s => l s * rr R (b + s) t)) * v t = _; grind
  have p1 := G.pos r (by omega)
  have p2 : 0 ≤ S k (fun s => l s * S n (fun t => rr R (b + s) t * v t)) := S_nonneg fun s hs => Rat.mul_nonneg (h0 s hs) (by have := G.pos (b + s) (by omega); grind)
  have p3 : S n (fun t => free R b k l r t * v t) ≤ S n (fun t => free R b k l r r * v r * one r t) := by
    refine S_le fun t ht => ?_
    by_cases c : t = r
    · subst c
      rw [one_self]; grind
    · rw [one_ne c]
      by_cases hb : t < b
      · have h1 := ho t hb c
        have h2 := G.vpos t ht
        have : 0 ≤ (- free R b k l r t) * v t := Rat.mul_nonneg (by grind) (by grind)
        grind
      · obtain ⟨s, rfl⟩ : ∃ s, t = b + s := ⟨t - b, by omega⟩
        rw [hz s (by omega)]; grind
  rw [S_pick (f := fun _ => free R b k l r r * v r) (by omega)] at p3
  have p4 : 0 < free R b k l r r * v r := by grind
  have p5 := G.vpos r (by omega)
  apply Classical.byContradiction
  intro hne
  have : 0 ≤ (- free R b k l r r) * v r := Rat.mul_nonneg (by grind) (by grind)
  grind
/-- one unknown more -/
theorem gone_step {v : Nat → Rat} (G : Good R n v) {b k : Nat} {T : Nat → Nat → Int} {d : Int} (hn : b + 1 + k = n) (I : Gone R (b + 1) k T d) :
    0 < T b b ∧ (∀ r, r < b → ∀ c, d ∣ T r c * T b b - T r b * T b c) ∧ Gone R b (k + 1) (fun r c => (T r c * T b b - T r b * T b c) / d) (T b b) := by
  obtain ⟨lq, q0, qz, qo, qT⟩ := I.row b (by omega)
  have qp := free_pos G hn (by omega) q0 qz qo
  have dR : (0 : Rat) < (d : Rat) := Rat.intCast_pos.mpr I.dpos
  have tb : ((T b b : Int) : Rat) = (d : Rat) * free R (b + 1) k lq b b := qT b
  have tpos : 0 < T b b := by
    have : (0 : Rat) < ((T b b : Int) : Rat) := by rw [tb]; exact Rat.mul_pos dR qp
    exact Rat.intCast_pos.mp this
  have tblock : ((T b b : Int) : Rat) = block R b (k + 1) := by
    rw [tb, I.dis, Rat.mul_comm, ← schur (c := b) qz]
    show _ = det (k + 1) (fun i j => rr R (b + i) (b + j))
    congr 1
    funext i j
    have : ∀ i, pos (b + 1) b i = b + i := by
      intro i
      unfold pos
      split <;> omega
    rw [this, this]
  -- the new multipliers
  have new : ∀ r, r < b → ∃ l : Nat → Rat, (∀ s, s < k + 1 → 0 ≤ l s) ∧ (∀ s, s < k + 1 → free R b (k + 1) l r (b + s) = 0) ∧ (∀ t, t < b → t ≠ r → free R b (k + 1) l r t ≤ 0) ∧
      ∀ c, ((T r c * T b b - T r b * T b c : Int) : Rat) = (d : Rat) * (((T b b : Int) : Rat) * free R b (k + 1) l r c) := by
    intro r hr
    obtain ⟨lr, r0, rz, ro, rT⟩ := I.row r (by omega)
    have hm : 0 ≤ - free R (b + 1) k lr r b / free R (b + 1) k lq b b := by
      have h1 := ro b (by omega) (by omega)
      rw [Rat.div_def]
      exact Rat.mul_nonneg (by grind) (by have := Rat.inv_pos.mpr qp; grind)
    let m : Rat := - free R (b + 1) k lr r b / free R (b + 1) k lq b b
    let l : Nat → Rat := fun s => if s = 0 then m else lr (s - 1) + m * lq (s - 1)
    have l0 : l 0 = m := if_pos rfl
    have ls : ∀ s, l (s + 1) = lr s + m * lq s := fun s => by
      show (if s + 1 = 0 then m else lr (s + 1 - 1) + m * lq (s + 1 - 1)) = _
      rw [if_neg (by omega)]
      rfl
    have key : ∀ c, free R b (k + 1) l r c = free R (b + 1) k lr r c + m * free R (b + 1) k lq b c := by
      intro c
      unfold free
      rw [S_front, l0]
      have e1 : S k (fun i => l (i + 1) * rr R (b + (i + 1)) c) = S k (fun s => lr s * rr R (b + 1 + s) c) + m * S k (fun s => lq s * rr R (b + 1 + s) c) := by
        rw [← S_mul, ← S_add]
        refine S_congr fun s _ => ?_
        have e : b + (s + 1) = b + 1 + s := by omega
        rw [ls, e]
        grind
      rw [e1]
      show rr R r c + (m * rr R (b + 0) c + _) = _
      rw [Nat.add_zero]
      grind
    refine ⟨l, fun s hs => ?_, fun s hs => ?_, fun t ht hne => ?_, fun c => ?_⟩
    · cases s with
      | zero => rw [l0]; exact hm
      | succ s =>
        rw [ls]
        have h1 := r0 s (by omega)
        have h2 := Rat.mul_nonneg hm (q0 s (by omega))
        show 0 ≤ lr s + m * lq s
        have h3 : 0 ≤ m * lq s := h2
        grind
    · rw [key]
      cases s with
      | zero =>
        rw [Nat.add_zero]
        show _ + - free R (b + 1) k lr r b / free R (b + 1) k lq b b * _ = 0
        grind
      | succ s =>
        have e : b + (s + 1) = b + 1 + s := by omega
        rw [e, rz s (by omega), qz s (by omega)]; grind
    · rw [key]
      have h1 := ro t (by omega) hne
      have h2 := qo t (by omega) (by omega)
      have h3 : 0 ≤ m * (- free R (b + 1) k lq b t) := Rat.mul_nonneg hm (by grind)
      grind
    · rw [key, Rat.intCast_sub, Rat.intCast_mul, Rat.intCast_mul, rT c, rT b, tb, qT c]
      show _ = (d : Rat) * ((d : Rat) * free R (b + 1) k lq b b * (free R (b + 1) k lr r c + - free R (b + 1) k lr r b / free R (b + 1) k lq b b * free R (b + 1) k lq b c))
      grind
  have quot : ∀ r, r < b → ∀ c, ∃ z : Int, T r c * T b b - T r b * T b c = d * z := by
    intro r hr c
    obtain ⟨l, _, lz, _, lT⟩ := new r hr
    obtain ⟨z, hzz⟩ := whole_det (k + 1 + 1) (fun i j => rr R (pos b r i) (pos b c j)) (fun i j => ⟨_, rfl⟩)
    refine ⟨z, ?_⟩
    rw [schur lz, ← tblock] at hzz
    have h1 := lT c
    have h2 : ((T r c * T b b - T r b * T b c : Int) : Rat) = ((d * z : Int) : Rat) := by
      rw [h1, Rat.intCast_mul, ← hzz]
      grind
    exact Rat.intCast_inj.mp h2
  refine ⟨tpos, fun r hr c => ?_, tpos, tblock, fun r hr => ?_⟩
  · obtain ⟨z, hzz⟩ := quot r hr c
    exact ⟨z, hzz⟩
  · obtain ⟨l, h0, hz, ho, hT⟩ := new r hr
    refine ⟨l, h0, hz, ho, fun c => ?_⟩
    obtain ⟨z, hzz⟩ := quot r hr c
    have h1 := hT c
    have dne : d ≠ 0 := by have := I.dpos; omega
    show (((T r c * T b b - T r b * T b c) / d : Int) : Rat) = _
    rw [hzz, Int.mul_ediv_cancel_left _ dne]
    rw [hzz, Rat.intCast_mul] at h1
    have : (d : Rat) ≠ 0 := by grind
    grind
/-- what is left of row 0 when all other unknowns are gone: a combination of the rows with multipliers that are not negative -/
theorem gone_end {v : Nat → Rat} (G : Good R n v) {k : Nat} {T : Nat → Nat → Int} {d : Int} (hn : 1 + k = n) (I : Gone R 1 k T d) :
    0 < T 0 0 ∧ (∀ t, 0 < t → t < n → T 0 t = 0) ∧ ∃ y : Nat → Rat, (∀ s, s < n → 0 ≤ y s) ∧ ∀ c, ((T 0 c : Int) : Rat) = S n (fun s => y s * rr R s c) := by
  obtain ⟨l, h0, hz, ho, hT⟩ := I.row 0 (by omega)
  have p := free_pos G hn (by omega) h0 hz ho
  have dR : (0 : Rat) < (d : Rat) := Rat.intCast_pos.mpr I.dpos
  refine ⟨?_, fun t h1 h2 => ?_, fun s => if s = 0 then (d : Rat) else (d : Rat) * l (s - 1), fun s hs => ?_, fun c => ?_⟩
  · have : (0 : Rat) < ((T 0 0 : Int) : Rat) := by rw [hT]; exact Rat.mul_pos dR p
    exact Rat.intCast_pos.mp this
  · have : ((T 0 t : Int) : Rat) = 0 := by
      obtain ⟨s, rfl⟩ : ∃ s, t = 1 + s := ⟨t - 1, by omega⟩
      rw [hT, hz s (by omega)]; grind
    exact Rat.intCast_eq_zero_iff.mp this
  · show 0 ≤ (if s = 0 then (d : Rat) else (d : Rat) * l (s - 1))
    split
    · grind
    · exact Rat.mul_nonneg (by grind) (h0 _ (by omega))
  · subst hn
    rw [hT, Nat.add_comm 1 k, S_front]
    show _ = (if 0 = 0 then (d : Rat) else (d : Rat) * l (0 - 1)) * rr R 0 c + S k (fun i => (if i + 1 = 0 then (d : Rat) else (d : Rat) * l (i + 1 - 1)) * rr R (i + 1) c)
    rw [if_pos rfl]
    have e : S k (fun i => (if i + 1 = 0 then (d : Rat) else (d : Rat) * l (i + 1 - 1)) * rr R (i + 1) c) = (d : Rat) * S k (fun s => l s * rr R (1 + s) c) := by
      rw [← S_mul]
      refine S_congr fun i _ => ?_
      rw [if_neg (by omega), Nat.add_sub_cancel, Nat.add_comm 1 i]
      grind
    rw [e]
    show (d : Rat) * (rr R 0 c + S k (fun s => l s * rr R (1 + s) c)) = _
    grind
end
end Rw
/-! The states of a race: the beginnings of its words. -/
namespace Rw
open Uw53 (Q Game)
/-- the longest end of u that is one of the states (the empty one is) -/
def lp (sts : List (List Nat)) : List Nat → List Nat
  | [] => []
  | x :: u => if (x :: u) ∈ sts then x :: u else lp sts u
theorem lp_suffix (sts : List (List Nat)) : ∀ u, lp sts u <:+ u
  | [] => List.suffix_rfl
  | x :: u => by
    unfold lp
    split
    · exact List.suffix_rfl
    · exact (lp_suffix sts u).trans (List.suffix_cons ..)
theorem lp_mem {sts : List (List Nat)} (h0 : [] ∈ sts) : ∀ u, lp sts u ∈ sts
  | [] => h0
  | x :: u => by
    unfold lp
    split
    · assumption
    · exact lp_mem h0 u
theorem lp_long {sts : List (List Nat)} : ∀ {u v : List Nat}, v ∈ sts → v <:+ u → v <:+ lp sts u
  | [], v, _, h => h
  | x :: u, v, hv, h => by
    unfold lp
    split
    · exact h
    · next hn =>
      rcases List.suffix_cons_iff.mp h with h | h
      · subst h; exact absurd hv hn
      · exact lp_long hv h
theorem suffix_antisymm {u v : List Nat} (h1 : u <:+ v) (h2 : v <:+ u) : u = v := h1.eq_of_length (Nat.le_antisymm h1.length_le h2.length_le)
/-- what is in the states, ends u and is as long as any such one is lp -/
theorem lp_eq {sts : List (List Nat)} {u v : List Nat} (h0 : [] ∈ sts) (hv : v ∈ sts) (h : v <:+ u) (hl : ∀ z, z ∈ sts → z <:+ u → z.length ≤ v.length) : lp sts u = v := by
  have h1 := lp_long hv h
  have h2 := hl _ (lp_mem h0 u) (lp_suffix sts u)
  exact (h1.eq_of_length (Nat.le_antisymm h1.length_le h2)).symm
/-- the states are the words' beginnings, but for the words themselves -/
structure States (ws sts : List (List Nat)) : Prop where
  nil : [] ∈ sts
  pre : ∀ v, v ∈ sts → v = [] ∨ ∃ w, w ∈ ws ∧ v <+: w ∧ v ≠ w
  all : ∀ w v, w ∈ ws → v <+: w → v ≠ w → v ∈ sts
theorem clean_state {ws sts : List (List Nat)} (F : Free ws) (T : States ws sts) {v : List Nat} (hv : v ∈ sts) : Clean ws v := by
  rcases T.pre v hv with rfl | ⟨w, hw, hp, hne⟩
  · exact clean_nil F
  · intro i hi h
    obtain ⟨j, hj, rfl⟩ := mem_W hw
    have h2 : W ws i <:+: W ws j := h.trans hp.isInfix
    by_cases c : i = j
    · subst c
      exact hne (hp.eq_of_length (Nat.le_antisymm hp.length_le h.length_le))
    · exact F.fr i j hi hj c h2
theorem clean_snoc {ws : List (List Nat)} {u : List Nat} {x : Nat} (h : Clean ws u) (hn : ∀ i, i < ws.length → ¬ W ws i <:+ u ++ [x]) : Clean ws (u ++ [x]) := by
  intro i hi hf
  obtain ⟨s, t, e⟩ := hf
  by_cases c : t = []
  · subst c
    rw [List.append_nil] at e
    exact hn i hi ⟨s, e⟩
  · obtain ⟨t1, y, rfl⟩ : ∃ t1 y, t = t1 ++ [y] := ⟨t.dropLast, t.getLast c, (List.dropLast_concat_getLast c).symm⟩
    rw [← List.append_assoc] at e
    have := List.append_inj' e rfl
    exact h i hi ⟨s, t1, this.1⟩
theorem clean_of_suffix {ws : List (List Nat)} {u v : List Nat} (h : Clean ws u) (hv : v <:+ u) : Clean ws v := fun i hi hf => h i hi (hf.trans hv.isInfix)
/-- beginnings of words that end u are ends of lp u -/
theorem pre_lp {ws sts : List (List Nat)} (T : States ws sts) {u v w : List Nat} (hw : w ∈ ws) (hp : v <+: w) (hne : v ≠ w) : v <:+ u ↔ v <:+ lp sts u :=
  ⟨fun h => lp_long (T.all w v hw hp hne) h, fun h => h.trans (lp_suffix sts u)⟩
theorem C_lp {g : Game} {ws sts : List (List Nat)} (T : States ws sts) {u : List Nat} (hu : Clean ws u) {j : Nat} (hj : j < ws.length) : C g u (W ws j) = C g (lp sts u) (W ws j) := by
  refine C_congr fun k _ => ?_
  by_cases c : (W ws j).take (k + 1) = W ws j
  · rw [c]
    exact ⟨fun h => absurd h.isInfix (hu j hj), fun h => absurd h.isInfix (clean_of_suffix hu (lp_suffix sts u) j hj)⟩
  · exact pre_lp T (W_mem hj) (List.take_prefix _ _) c
/-- the word that occurs with a further letter is told by lp -/
theorem snoc_lp {ws sts : List (List Nat)} (F : Free ws) (T : States ws sts) {u : List Nat} {x i : Nat} (hi : i < ws.length) : W ws i <:+ u ++ [x] ↔ W ws i <:+ lp sts u ++ [x] := by
  obtain ⟨p, y, e⟩ : ∃ p y, W ws i = p ++ [y] := ⟨_, _, (List.dropLast_concat_getLast (F.ne i hi)).symm⟩
  have hp : p <+: W ws i := ⟨[y], e.symm⟩
  have hne : p ≠ W ws i := by
    intro h
    have := congrArg List.length h
    rw [e, List.length_append, List.length_singleton] at this
    omega
  rw [e, snoc_suffix, snoc_suffix, pre_lp T (W_mem hi) hp hne]
theorem ended_some {ws : List (List Nat)} {u : List Nat} {i : Nat} (h : Uw53.ended ws u = some i) : i < ws.length ∧ W ws i <:+ u := by
  unfold Uw53.ended at h
  obtain ⟨hi, h1, _⟩ := List.findIdx?_eq_some_iff_getElem.mp h
  refine ⟨hi, ?_⟩
  unfold W
  rw [List.getD_eq_getElem?_getD, List.getElem?_eq_getElem hi]
  exact ends_iff.mp h1
theorem ended_none {ws : List (List Nat)} {u : List Nat} : Uw53.ended ws u = none ↔ ∀ i, i < ws.length → ¬ W ws i <:+ u := by
  unfold Uw53.ended
  rw [List.findIdx?_eq_none_iff]
  constructor
  · intro h i hi hs
    have := h _ (W_mem hi)
    rw [ends_iff.mpr hs] at this
    cases this
  · intro h w hw
    obtain ⟨i, hi, rfl⟩ := mem_W hw
    exact ends_false.mpr (h i hi)
theorem ended_congr {ws : List (List Nat)} {u v : List Nat} (h : ∀ i, i < ws.length → (W ws i <:+ u ↔ W ws i <:+ v)) : Uw53.ended ws u = Uw53.ended ws v := by
  have key : ∀ (l : List (List Nat)), (∀ w, w ∈ l → w ∈ ws) → l.findIdx? (fun w => Uw53.ends w u) = l.findIdx? (fun w => Uw53.ends w v) := by
    intro l
    induction l with
    | nil => intro _; rfl
    | cons w l ih =>
      intro hl
      rw [List.findIdx?_cons, List.findIdx?_cons, ih fun z hz => hl z (List.mem_cons_of_mem _ hz)]
      have : Uw53.ends w u = Uw53.ends w v := by
        obtain ⟨i, hi, rfl⟩ := mem_W (hl w (List.mem_cons_self ..))
        have := h i hi
        rw [← ends_iff, ← ends_iff] at this
        exact Bool.eq_iff_iff.mpr this
      rw [this]
  exact key ws fun w hw => hw
theorem ended_lp {ws sts : List (List Nat)} (F : Free ws) (T : States ws sts) (u : List Nat) (x : Nat) : Uw53.ended ws (u ++ [x]) = Uw53.ended ws (lp sts u ++ [x]) := ended_congr fun _ hi => snoc_lp F T hi
/-- lp goes letter by letter -/
theorem lp_snoc {ws sts : List (List Nat)} (T : States ws sts) (u : List Nat) (x : Nat) : lp sts (u ++ [x]) = lp sts (lp sts u ++ [x]) := by
  have sub : lp sts u ++ [x] <:+ u ++ [x] := by
    obtain ⟨t, h⟩ := lp_suffix sts u
    exact ⟨t, by rw [← List.append_assoc, h]⟩
  refine lp_eq T.nil (lp_mem T.nil _) ((lp_suffix sts _).trans sub) fun z hz hs => ?_
  refine (lp_long hz ?_).length_le
  rcases T.pre z hz with rfl | ⟨w, hw, hp, hne⟩
  · exact List.nil_suffix
  · by_cases c : z = []
    · subst c; exact List.nil_suffix
    · obtain ⟨p, y, e⟩ : ∃ p y, z = p ++ [y] := ⟨_, _, (List.dropLast_concat_getLast c).symm⟩
      subst e
      obtain ⟨h1, h2⟩ := snoc_suffix.mp hs
      have pp : p <+: w := (List.prefix_append p [y]).trans hp
      have pne : p ≠ w := by
        intro h
        have := hp.length_le
        rw [← h, List.length_append, List.length_singleton] at this
        omega
      exact snoc_suffix.mpr ⟨h1, (pre_lp T hw pp pne).mp h2⟩
/-- the chain of a list of states; nxt leads to the place of lp -/
theorem chain_of {g : Game} {ws sts : List (List Nat)} (F : Free ws) (T : States ws sts) {nxt : Nat → Nat → Nat}
    (hn : ∀ s x, s < sts.length → x < g.weights.length → Uw53.ended ws (W sts s ++ [x]) = none → nxt s x < sts.length ∧ W sts (nxt s x) = lp sts (W sts s ++ [x])) :
    Chain g ws sts.length (W sts) (fun s x => Uw53.ended ws (W sts s ++ [x])) nxt := by
  refine ⟨fun s hs => clean_state F T (W_mem hs), fun s x i _ _ h => ended_some h, fun s x hs hx h => ?_, fun u hu => ?_⟩
  · obtain ⟨h1, h2⟩ := hn s x hs hx h
    refine ⟨h1, fun j hj => ?_⟩
    rw [h2]
    exact C_lp T (clean_snoc (clean_state F T (W_mem hs)) (ended_none.mp h)) hj
  · obtain ⟨t, ht, e⟩ := mem_W (lp_mem T.nil u)
    exact ⟨t, ht, fun j hj => by rw [e]; exact C_lp T hu hj⟩
end Rw
/-! Letter by letter: the specification's open sequences, gathered by the states of the race. -/
namespace Rw
open Uw53 (Q Game Far)
/-- sums of natural numbers: below n; over a list -/
def N : Nat → (Nat → Nat) → Nat
  | 0, _ => 0
  | n + 1, f => N n f + f n
def L {a : Type} (l : List a) (f : a → Nat) : Nat := match l with
  | [] => 0
  | x :: r => f x + L r f
theorem N_congr {n : Nat} {f g : Nat → Nat} (h : ∀ i, i < n → f i = g i) : N n f = N n g := by
  induction n with
  | zero => rfl
  | succ n ih => show N n f + f n = N n g + g n; rw [ih (fun i hi => h i (by omega)), h n (by omega)]
theorem N_zero {n : Nat} {f : Nat → Nat} (h : ∀ i, i < n → f i = 0) : N n f = 0 := by
  induction n with
  | zero => rfl
  | succ n ih => show N n f + f n = 0; rw [ih (fun i hi => h i (by omega)), h n (by omega)]
theorem N_add (n : Nat) (f g : Nat → Nat) : N n (fun i => f i + g i) = N n f + N n g := by
  induction n with
  | zero => rfl
  | succ n ih => show N n _ + (f n + g n) = (N n f + f n) + (N n g + g n); rw [ih]; omega
theorem N_mul (n c : Nat) (f : Nat → Nat) : N n (fun i => c * f i) = c * N n f := by
  induction n with
  | zero => rfl
  | succ n ih => show N n _ + c * f n = c * (N n f + f n); rw [ih, Nat.mul_add]
theorem N_one {n k : Nat} (hk : k < n) (f : Nat → Nat) (h : ∀ i, i < n → i ≠ k → f i = 0) : N n f = f k := by
  induction n with
  | zero => omega
  | succ n ih =>
    show N n f + f n = f k
    by_cases e : k = n
    · subst e
      rw [N_zero (fun i hi => h i (by omega) (by omega)), Nat.zero_add]
    · rw [ih (by omega) (fun i hi hne => h i (by omega) hne), h n (by omega) (by omega), Nat.add_zero]
theorem L_append {a : Type} (l m : List a) (f : a → Nat) : L (l ++ m) f = L l f + L m f := by
  induction l with
  | nil => show L m f = 0 + L m f; omega
  | cons x l ih => show f x + L (l ++ m) f = f x + L l f + L m f; rw [ih]; omega
theorem L_congr {a : Type} {l : List a} {f g : a → Nat} (h : ∀ x, x ∈ l → f x = g x) : L l f = L l g := by
  induction l with
  | nil => rfl
  | cons x l ih => show f x + L l f = g x + L l g; rw [h x (List.mem_cons_self ..), ih fun y hy => h y (List.mem_cons_of_mem _ hy)]
theorem L_map {a b : Type} (l : List a) (h : a → b) (f : b → Nat) : L (l.map h) f = L l (fun x => f (h x)) := by
  induction l with
  | nil => rfl
  | cons x l ih => show f (h x) + L (l.map h) f = f (h x) + L l _; rw [ih]
theorem L_flat {a b : Type} (l : List a) (h : a → List b) (f : b → Nat) : L (l.flatMap h) f = L l (fun x => L (h x) f) := by
  induction l with
  | nil => rfl
  | cons x l ih => rw [List.flatMap_cons, L_append, ih]; rfl
theorem L_range (n : Nat) (f : Nat → Nat) : L (List.range n) f = N n f := by
  induction n with
  | zero => rfl
  | succ n ih => rw [List.range_succ, L_append, ih]; show N n f + (f n + 0) = N n f + f n; omega
theorem L_add {a : Type} (l : List a) (f g : a → Nat) : L l (fun x => f x + g x) = L l f + L l g := by
  induction l with
  | nil => rfl
  | cons x l ih => show f x + g x + L l _ = (f x + L l f) + (g x + L l g); rw [ih]; omega
theorem L_swap {a : Type} (l : List a) (n : Nat) (f : a → Nat → Nat) : L l (fun x => N n (f x)) = N n (fun i => L l (fun x => f x i)) := by
  induction l with
  | nil => exact (N_zero fun _ _ => rfl).symm
  | cons x l ih =>
    show N n (f x) + L l _ = N n (fun i => f x i + L l (fun x => f x i))
    rw [ih, N_add]
theorem total_L (l : List Nat) : Uw53.total l = L l (fun x => x) := by
  have key : ∀ (l : List Nat) (a : Nat), l.foldl (fun a b => a + b) a = a + L l (fun x => x) := by
    intro l
    induction l with
    | nil => intro a; rfl
    | cons x l ih => intro a; rw [List.foldl_cons, ih]; show a + x + L l _ = a + (x + L l _); omega
  show l.foldl (fun a b => a + b) 0 = _
  rw [key]; omega
/-- all open sequences in the state v, with their weights -/
def agg (sts : List (List Nat)) (rows : List (List Nat × Nat)) (v : List Nat) : Nat := L rows (fun r => if lp sts r.1 = v then r.2 else 0)
theorem agg_add (sts : List (List Nat)) (u : List Nat) (k : Nat) (v : List Nat) : ∀ rows, agg sts (Uw53.addRow u k rows) v = agg sts rows v + if lp sts u = v then k else 0
  | [] => by
    show (if lp sts u = v then k else 0) + 0 = 0 + if lp sts u = v then k else 0
    omega
  | x :: l => by
    unfold Uw53.addRow
    by_cases h : x.1 = u
    · rw [if_pos h]
      show (if lp sts u = v then x.2 + k else 0) + agg sts l v = ((if lp sts x.1 = v then x.2 else 0) + agg sts l v) + if lp sts u = v then k else 0
      rw [h]
      split <;> omega
    · rw [if_neg h]
      show (if lp sts x.1 = v then x.2 else 0) + agg sts (Uw53.addRow u k l) v = ((if lp sts x.1 = v then x.2 else 0) + agg sts l v) + if lp sts u = v then k else 0
      rw [agg_add sts u k v l]
      omega
theorem add_key {u : List Nat} {k : Nat} {P : List Nat → Prop} (hu : P u) : ∀ {rows : List (List Nat × Nat)}, (∀ r, r ∈ rows → P r.1) → ∀ r, r ∈ Uw53.addRow u k rows → P r.1
  | [], _, r, h => by rw [List.mem_singleton.mp h]; exact hu
  | x :: l, ha, r, h => by
    unfold Uw53.addRow at h
    split at h
    · rcases List.mem_cons.mp h with rfl | h
      · exact hu
      · exact ha r (List.mem_cons_of_mem _ h)
    · rcases List.mem_cons.mp h with rfl | h
      · exact ha _ (List.mem_cons_self ..)
      · exact add_key hu (fun z hz => ha z (List.mem_cons_of_mem _ hz)) r h
section
variable {g : Game} {ws sts : List (List Nat)}
/-- one further letter of one open sequence -/
def put (ws : List (List Nat)) (z : Far) (y : List Nat × Nat) : Far := match Uw53.ended ws y.1 with
  | some i => { z with done := z.done.set i (z.done.getD i 0 + y.2) }
  | none => { z with rows := Uw53.addRow (Uw53.keep (Uw53.longest ws - 1) y.1) y.2 z.rows }
theorem put_rows (z : Far) (y : List Nat × Nat) (v : List Nat) : agg sts (put ws z y).rows v = agg sts z.rows v + if Uw53.ended ws y.1 = none ∧ lp sts (Uw53.keep (Uw53.longest ws - 1) y.1) = v then y.2 else 0 := by
  unfold put
  cases h : Uw53.ended ws y.1 with
  | some i => show agg sts z.rows v = agg sts z.rows v + if (some i = none ∧ _) then y.2 else 0; rw [if_neg (by simp)]; rfl
  | none =>
    show agg sts (Uw53.addRow _ _ _) v = _
    rw [agg_add]
    by_cases c : lp sts (Uw53.keep (Uw53.longest ws - 1) y.1) = v
    · rw [if_pos c, if_pos ⟨rfl, c⟩]
    · rw [if_neg c, if_neg fun z => c z.2]
theorem put_len (z : Far) (y : List Nat × Nat) : (put ws z y).done.length = z.done.length := by
  unfold put
  cases Uw53.ended ws y.1 with
  | some i => exact List.length_set ..
  | none => rfl
theorem put_done (z : Far) (y : List Nat × Nat) {i : Nat} (hi : i < z.done.length) : (put ws z y).done.getD i 0 = z.done.getD i 0 + if Uw53.ended ws y.1 = some i then y.2 else 0 := by
  unfold put
  cases h : Uw53.ended ws y.1 with
  | none => show z.done.getD i 0 = z.done.getD i 0 + if none = some i then y.2 else 0; rw [if_neg (by simp)]; rfl
  | some j =>
    show (z.done.set j (z.done.getD j 0 + y.2)).getD i 0 = _
    rw [List.getD_eq_getElem?_getD, List.getElem?_set]
    by_cases c : j = i
    · subst c
      rw [if_pos rfl, if_pos hi, if_pos rfl]
      rfl
    · rw [if_neg c, if_neg (fun z => c (Option.some.inj z)), ← List.getD_eq_getElem?_getD]
      rfl
theorem put_clean (z : Far) (y : List Nat × Nat) (hz : ∀ r, r ∈ z.rows → Clean ws r.1) (hy : Uw53.ended ws y.1 = none → Clean ws y.1) : ∀ r, r ∈ (put ws z y).rows → Clean ws r.1 := by
  unfold put
  cases h : Uw53.ended ws y.1 with
  | some i => exact hz
  | none => exact add_key (P := Clean ws) (clean_of_suffix (hy h) (List.drop_suffix _ _)) hz
theorem puts (l : List (List Nat × Nat)) (z : Far) (hz : ∀ r, r ∈ z.rows → Clean ws r.1) (hl : ∀ y, y ∈ l → Uw53.ended ws y.1 = none → Clean ws y.1) :
    (∀ v, agg sts (l.foldl (put ws) z).rows v = agg sts z.rows v + L l (fun y => if Uw53.ended ws y.1 = none ∧ lp sts (Uw53.keep (Uw53.longest ws - 1) y.1) = v then y.2 else 0)) ∧
    (l.foldl (put ws) z).done.length = z.done.length ∧
    (∀ i, i < z.done.length → (l.foldl (put ws) z).done.getD i 0 = z.done.getD i 0 + L l (fun y => if Uw53.ended ws y.1 = some i then y.2 else 0)) ∧
    ∀ r, r ∈ (l.foldl (put ws) z).rows → Clean ws r.1 := by
  induction l generalizing z with
  | nil => exact ⟨fun v => rfl, rfl, fun i _ => rfl, hz⟩
  | cons y l ih =>
    obtain ⟨h1, h2, h3, h4⟩ := ih (put ws z y) (put_clean z y hz (hl y (List.mem_cons_self ..))) fun w hw => hl w (List.mem_cons_of_mem _ hw)
    refine ⟨fun v => ?_, ?_, fun i hi => ?_, h4⟩
    · rw [List.foldl_cons, h1, put_rows]
      exact Nat.add_assoc _ _ _
    · rw [List.foldl_cons, h2, put_len]
    · rw [List.foldl_cons, h3 i (by rw [put_len]; exact hi), put_done z y hi]
      exact Nat.add_assoc _ _ _
/-- every state is shorter than the longest word -/
theorem le_longest {w : List Nat} (hw : w ∈ ws) : w.length ≤ Uw53.longest ws := by
  have key : ∀ (l : List (List Nat)) (a : Nat), a ≤ l.foldl (fun m w => max m w.length) a ∧ ∀ w, w ∈ l → w.length ≤ l.foldl (fun m w => max m w.length) a := by
    intro l
    induction l with
    | nil => intro a; exact ⟨Nat.le_refl _, fun w h => absurd h List.not_mem_nil⟩
    | cons x l ih =>
      intro a
      obtain ⟨h1, h2⟩ := ih (max a x.length)
      refine ⟨?_, fun w h => ?_⟩
      · rw [List.foldl_cons]; omega
      · rw [List.foldl_cons]
        rcases List.mem_cons.mp h with rfl | h
        · omega
        · exact h2 w h
  exact (key ws 0).2 w hw
theorem state_len (T : States ws sts) {v : List Nat} (hv : v ∈ sts) : v.length ≤ Uw53.longest ws - 1 := by
  rcases T.pre v hv with rfl | ⟨w, hw, hp, hne⟩
  · exact Nat.zero_le _
  · have h1 := le_longest hw
    have h2 := hp.length_le
    have h3 : v.length ≠ w.length := fun h => hne (hp.eq_of_length h)
    omega
theorem lp_keep (T : States ws sts) (u : List Nat) : lp sts (Uw53.keep (Uw53.longest ws - 1) u) = lp sts u := by
  have sub : Uw53.keep (Uw53.longest ws - 1) u <:+ u := List.drop_suffix _ _
  symm
  refine lp_eq T.nil (lp_mem T.nil _) ((lp_suffix sts _).trans sub) fun z hz hs => ?_
  refine (lp_long hz ?_).length_le
  refine List.suffix_of_suffix_length_le hs sub ?_
  have := state_len T hz
  have := hs.length_le
  show z.length ≤ (u.drop (u.length - (Uw53.longest ws - 1))).length
  rw [List.length_drop]
  omega
/-- gathered by states -/
theorem gather (T : States ws sts) (nd : sts.Nodup) (G : List Nat → Nat) : ∀ rows : List (List Nat × Nat), L rows (fun r => r.2 * G (lp sts r.1)) = N sts.length (fun s => agg sts rows (W sts s) * G (W sts s))
  | [] => by
    refine (N_zero fun s _ => ?_).symm
    show 0 * _ = 0
    omega
  | r :: rows => by
    obtain ⟨s, hs, e⟩ := mem_W (lp_mem T.nil r.1)
    have e1 : N sts.length (fun s => (if lp sts r.1 = W sts s then r.2 else 0) * G (W sts s)) = r.2 * G (lp sts r.1) := by
      rw [N_one hs]
      · rw [if_pos e.symm, e]
      · intro i hi hne
        rw [if_neg, Nat.zero_mul]
        intro h
        rw [← e] at h
        unfold W at h
        rw [List.getD_eq_getElem?_getD, List.getD_eq_getElem?_getD, List.getElem?_eq_getElem hs, List.getElem?_eq_getElem hi] at h
        exact hne ((List.getElem_inj nd).mp h).symm
    show r.2 * G (lp sts r.1) + L rows _ = N sts.length (fun s => ((if lp sts r.1 = W sts s then r.2 else 0) + agg sts rows (W sts s)) * G (W sts s))
    rw [gather T nd G rows, ← e1, ← N_add]
    exact N_congr fun s _ => (Nat.add_mul ..).symm
/-- what the walk of n letters is: by states, and by words -/
structure Told (g : Game) (ws sts : List (List Nat)) (f : Far) : Prop where
  clean : ∀ r, r ∈ f.rows → Clean ws r.1
  len : f.done.length = ws.length
theorem far_zero (F : Free ws) : Told g ws sts (g.far ws 0) := by
  refine ⟨fun r hr => ?_, List.length_map ..⟩
  rw [List.mem_singleton.mp hr]
  exact clean_nil F
theorem further_told (F : Free ws) (T : States ws sts) (nd : sts.Nodup) {f : Far} (I : Told g ws sts f) :
    Told g ws sts (g.further ws f) ∧
    (∀ v, agg sts (g.further ws f).rows v = N sts.length (fun s => agg sts f.rows (W sts s) * N g.weights.length (fun x => if Uw53.ended ws (W sts s ++ [x]) = none ∧ lp sts (W sts s ++ [x]) = v then g.weight x else 0))) ∧
    ∀ i, i < ws.length → (g.further ws f).done.getD i 0 = f.done.getD i 0 * g.all + N sts.length (fun s => agg sts f.rows (W sts s) * N g.weights.length (fun x => if Uw53.ended ws (W sts s ++ [x]) = some i then g.weight x else 0)) := by
  have e : g.further ws f = (f.rows.flatMap fun r => (List.range g.weights.length).map fun x => (r.1 ++ [x], r.2 * g.weight x)).foldl (put ws) ⟨[], f.done.map fun n => n * g.all⟩ := rfl
  have hl : ∀ y, y ∈ (f.rows.flatMap fun r => (List.range g.weights.length).map fun x => (r.1 ++ [x], r.2 * g.weight x)) → Uw53.ended ws y.1 = none → Clean ws y.1 := by
    intro y hy hn
    obtain ⟨r, hr, hy⟩ := List.mem_flatMap.mp hy
    obtain ⟨x, _, rfl⟩ := List.mem_map.mp hy
    exact clean_snoc (I.clean r hr) (ended_none.mp hn)
  obtain ⟨h1, h2, h3, h4⟩ := puts (sts := sts) _ ⟨[], f.done.map fun n => n * g.all⟩ (fun r hr => absurd hr List.not_mem_nil) hl
  rw [e]
  refine ⟨⟨h4, by rw [h2, List.length_map, I.len]⟩, fun v => ?_, fun i hi => ?_⟩
  · rw [h1, L_flat]
    show 0 + _ = _
    rw [Nat.zero_add, ← gather T nd (fun s => N g.weights.length (fun x => if Uw53.ended ws (s ++ [x]) = none ∧ lp sts (s ++ [x]) = v then g.weight x else 0))]
    refine L_congr fun r _ => ?_
    rw [L_map, L_range, ← N_mul]
    refine N_congr fun x _ => ?_
    rw [lp_keep T, ended_lp F T, lp_snoc T]
    split
    · rfl
    · rw [Nat.mul_zero]
  · rw [h3 i (by rw [List.length_map, I.len]; exact hi), L_flat]
    have e1 : (f.done.map fun n => n * g.all).getD i 0 = f.done.getD i 0 * g.all := by
      rw [List.getD_eq_getElem?_getD, List.getElem?_map, List.getD_eq_getElem?_getD]
      cases f.done[i]? with
      | none => show 0 = 0 * g.all; rw [Nat.zero_mul]
      | some x => rfl
    show (f.done.map fun n => n * g.all).getD i 0 + _ = _
    rw [e1, ← gather T nd (fun s => N g.weights.length (fun x => if Uw53.ended ws (s ++ [x]) = some i then g.weight x else 0))]
    congr 1
    refine L_congr fun r _ => ?_
    rw [L_map, L_range, ← N_mul]
    refine N_congr fun x _ => ?_
    rw [ended_lp F T]
    split
    · rfl
    · rw [Nat.mul_zero]
theorem far_told (F : Free ws) (T : States ws sts) (nd : sts.Nodup) : ∀ n, Told g ws sts (g.far ws n)
  | 0 => far_zero F
  | n + 1 => (further_told F T nd (far_told F T nd n)).1
/-- the probability's numerator that no word has occurred: all states together -/
theorem open_told (T : States ws sts) (nd : sts.Nodup) (n : Nat) : g.open_ ws n = N sts.length (fun s => agg sts (g.far ws n).rows (W sts s)) := by
  show Uw53.total ((g.far ws n).rows.map fun r => r.2) = _
  rw [total_L, L_map]
  have := gather T nd (fun _ => 1) (g.far ws n).rows
  rw [L_congr (g := fun r => r.2) (fun r _ => Nat.mul_one r.2)] at this
  rw [this]
  exact N_congr fun s _ => Nat.mul_one _
end
end Rw
/-! Sound states; what is told of fractions. -/
namespace Rw
open Uw53 (Q Game)
theorem stands_iff {w u : List Nat} : Uw53.stands w u = true ↔ w <:+: u := by
  unfold Uw53.stands
  rw [List.any_eq_true]
  constructor
  · rintro ⟨k, _, h⟩
    exact (ends_iff.mp h).isInfix.trans (List.take_prefix _ _).isInfix
  · rintro ⟨s, t, e⟩
    refine ⟨(s ++ w).length, List.mem_range.mpr ?_, ends_iff.mpr ?_⟩
    · rw [← e, List.length_append (bs := t)]
      omega
    · rw [← e, List.take_left' rfl]
      exact List.suffix_append _ _
/-- what the operations keep of a session -/
structure Sound (g : Game) : Prop where
  w2 : 2 ≤ g.weights.length
  w3 : g.weights.length ≤ 3
  wr : ∀ x, x ∈ g.weights → 1 ≤ x ∧ x ≤ 10
  n4 : g.words.length ≤ 4
  fine : ∀ w, w ∈ g.words → g.fine w = true
  apart : ∀ i j, i < g.words.length → j < g.words.length → i ≠ j → ¬ W g.words i <:+: W g.words j
theorem fine_iff {g : Game} {w : List Nat} : g.fine w = true ↔ 1 ≤ w.length ∧ w.length ≤ 5 ∧ ∀ x, x ∈ w → x < g.weights.length := by
  show (decide (1 ≤ w.length) && (decide (w.length ≤ 5) && w.all fun x => decide (x < g.weights.length))) = true ↔ _
  rw [Bool.and_eq_true, Bool.and_eq_true, decide_eq_true_iff, decide_eq_true_iff, List.all_eq_true]
  constructor
  · rintro ⟨h1, h2, h3⟩
    exact ⟨h1, h2, fun x hx => of_decide_eq_true (h3 x hx)⟩
  · rintro ⟨h1, h2, h3⟩
    exact ⟨h1, h2, fun x hx => decide_eq_true (h3 x hx)⟩
section
variable {g : Game}
theorem Sound.pos (h : Sound g) : Pos g := by
  intro x hx
  show 0 < g.weights.getD x 0
  rw [List.getD_eq_getElem?_getD, List.getElem?_eq_getElem hx]
  exact (h.wr _ (List.getElem_mem hx)).1
theorem Sound.ne (h : Sound g) : g.weights ≠ [] := by
  intro e
  have := h.w2
  rw [e] at this
  exact absurd this (by decide)
theorem Sound.let_ (h : Sound g) : ∀ j, j < g.words.length → Let g (W g.words j) := fun _ hj => (fine_iff.mp (h.fine _ (W_mem hj))).2.2
theorem Sound.free (h : Sound g) : Free g.words := ⟨fun i hi e => by
  have := (fine_iff.mp (h.fine _ (W_mem hi))).1
  rw [e] at this
  exact absurd this (by decide), h.apart⟩
theorem total_le {l : List Nat} (h : ∀ x, x ∈ l → x ≤ 10) : Uw53.total l ≤ 10 * l.length := by
  induction l using snocInd with
  | h0 => exact Nat.le_refl _
  | h1 l x ih =>
    rw [total_append, List.length_append, List.length_singleton]
    have h1 := ih fun y hy => h y (List.mem_append_left _ hy)
    have h2 := h x (List.mem_append_right _ (List.mem_singleton.mpr rfl))
    omega
theorem Sound.tot30 (h : Sound g) : tot g ≤ 30 := by
  have h1 := total_le fun x hx => (h.wr x hx).2
  have h2 : g.all ≤ 30 := by
    have := h.w3
    show Uw53.total g.weights ≤ 30
    omega
  exact Rat.natCast_le_natCast.mpr h2
theorem sound_init : Sound Uw53.init := ⟨by decide, by decide, by decide, by decide, fun w h => absurd h List.not_mem_nil, fun i j hi => absurd hi (Nat.not_lt_zero i)⟩
theorem fst_ite {c : Prop} [Decidable c] {a b : Game × Uw53.Ans} (h1 : a.1 = g) (h2 : b.1 = g) : (if c then a else b).1 = g := by
  split
  · exact h1
  · exact h2
theorem sound_step (h : Sound g) (c : Uw53.Call) : Sound (Uw53.step g c).1 := by
  cases c with
  | begins l =>
    show Sound (if l.length < 2 ∨ 3 < l.length ∨ l.any (fun x => decide (x < 1) || decide (10 < x)) = true then (g, Uw53.ok (-1)) else ((⟨l, []⟩ : Game), Uw53.ok (Uw53.total l : Nat))).1
    by_cases c : l.length < 2 ∨ 3 < l.length ∨ l.any (fun x => decide (x < 1) || decide (10 < x)) = true
    · rw [if_pos c]; exact h
    · rw [if_neg c]
      refine ⟨by show 2 ≤ l.length; omega, by show l.length ≤ 3; omega, fun x hx => ?_, Nat.zero_le 4, fun w hw => absurd hw List.not_mem_nil, fun i j hi => absurd hi (Nat.not_lt_zero i)⟩
      have h3 : ¬ l.any (fun x => decide (x < 1) || decide (10 < x)) = true := fun z => c (Or.inr (Or.inr z))
      rw [List.any_eq_true] at h3
      constructor
      · apply Classical.byContradiction
        intro z
        exact h3 ⟨x, hx, by rw [decide_eq_true (by omega)]; rfl⟩
      · apply Classical.byContradiction
        intro z
        exact h3 ⟨x, hx, by rw [decide_eq_true (show 10 < x by omega), Bool.or_true]⟩
  | word w =>
    show Sound (if g.fine w = false then (g, Uw53.ok (-1)) else match g.clash w with
      | some i => (g, ⟨-6, [(i : Int)]⟩)
      | none => if 4 ≤ g.words.length then (g, Uw53.ok (-5)) else ({ g with words := g.words ++ [w] }, Uw53.ok (g.words.length : Nat))).1
    by_cases c : g.fine w = false
    · rw [if_pos c]; exact h
    · rw [if_neg c]
      cases hc : g.clash w with
      | some i => exact h
      | none =>
        show Sound (if 4 ≤ g.words.length then (g, Uw53.ok (-5)) else ({ g with words := g.words ++ [w] }, Uw53.ok (g.words.length : Nat))).1
        by_cases c4 : 4 ≤ g.words.length
        · rw [if_pos c4]; exact h
        · rw [if_neg c4]
          have no : ∀ v, v ∈ g.words → ¬ v <:+: w ∧ ¬ w <:+: v := by
            intro v hv
            have hc2 : (g.words.findIdx? fun v => Uw53.stands v w || Uw53.stands w v) = none := hc
            have := List.findIdx?_eq_none_iff.mp hc2 v hv
            rw [Bool.or_eq_false_iff] at this
            constructor
            · intro z; rw [stands_iff.mpr z] at this; exact Bool.noConfusion this.1
            · intro z; rw [stands_iff.mpr z] at this; exact Bool.noConfusion this.2
          have wl : ∀ i, i < g.words.length → W (g.words ++ [w]) i = W g.words i := by
            intro i hi
            unfold W
            rw [List.getD_eq_getElem?_getD, List.getElem?_append_left hi, List.getD_eq_getElem?_getD]
          have wn : W (g.words ++ [w]) g.words.length = w := by
            unfold W
            rw [List.getD_eq_getElem?_getD, List.getElem?_append_right (Nat.le_refl _), Nat.sub_self]
            rfl
          have ln : (g.words ++ [w]).length = g.words.length + 1 := by rw [List.length_append]; rfl
          refine ⟨h.w2, h.w3, h.wr, by show (g.words ++ [w]).length ≤ 4; omega, fun v hv => ?_, fun i j hi hj ne => ?_⟩
          · rcases List.mem_append.mp hv with hv | hv
            · exact h.fine v hv
            · rw [List.mem_singleton.mp hv]
              cases e : g.fine w with
              | true => exact e
              | false => exact absurd e c
          · have hi : i < g.words.length + 1 := ln ▸ hi
            have hj : j < g.words.length + 1 := ln ▸ hj
            show ¬ W (g.words ++ [w]) i <:+: W (g.words ++ [w]) j
            by_cases ci : i < g.words.length
            · rw [wl i ci]
              by_cases cj : j < g.words.length
              · rw [wl j cj]; exact h.apart i j ci cj ne
              · have : j = g.words.length := by omega
                rw [this, wn]
                exact (no _ (W_mem ci)).1
            · have e : i = g.words.length := by omega
              rw [e, wn, wl j (by omega)]
              exact (no _ (W_mem (by omega))).2
  | wait w =>
    show Sound (if g.fine w = false then (g, Uw53.ok (-1)) else (g, ⟨0, (g.pays w w).told⟩)).1
    split <;> exact h
  | first => exact h
  | by_ n =>
    have e : (Uw53.step g (.by_ n)).1 = g := fst_ite rfl (fst_ite rfl rfl)
    rw [e]
    exact h
  | after u =>
    have e : (Uw53.step g (.after u)).1 = g := by
      refine fst_ite rfl (fst_ite rfl ?_)
      cases Uw53.came g.words u <;> rfl
    rw [e]
    exact h
  | reply w =>
    have e : (Uw53.step g (.reply w)).1 = g := fst_ite rfl rfl
    rw [e]
    exact h
  | ring n =>
    have e : (Uw53.step g (.ring n)).1 = g := fst_ite rfl rfl
    rw [e]
    exact h
end
/-- a fraction of natural numbers in lowest terms, as two numbers -/
def low (a b : Nat) : List Int := [((a / Nat.gcd a b : Nat) : Int), ((b / Nat.gcd a b : Nat) : Int)]
theorem frac_low {a b : Nat} (hb : 0 < b) : (Uw53.frac (a : Int) b).told = low a b := by
  have hg : Nat.gcd a b ≠ 0 := fun e => by have := Nat.eq_zero_of_gcd_eq_zero_right e; omega
  show (if Nat.gcd (a : Int).natAbs b = 0 then (⟨0, 1⟩ : Q) else ⟨(a : Int) / (Nat.gcd (a : Int).natAbs b : Nat), b / Nat.gcd (a : Int).natAbs b⟩).told = _
  rw [Int.natAbs_natCast, if_neg hg]
  rfl
theorem q_low {a b : Nat} (hb : 0 < b) : (q (((a : Nat) : Rat) / ((b : Nat) : Rat))).told = low a b := by
  rw [← frac_low hb, frac_val _ _ (by omega)]
  rfl
/-- the answer of a race, number by number -/
theorem race_told {m : Nat} {P : Nat → Rat} {T : Rat} {p : Nat → Nat} {t d : Nat} (hd : 0 < d) (hp : ∀ i, i < m → P i = ((p i : Nat) : Rat) / ((d : Nat) : Rat)) (ht : T = ((t : Nat) : Rat) / ((d : Nat) : Rat)) :
    (⟨(List.range m).map fun i => q (P i), q T⟩ : Uw53.Race).told = low t d ++ (List.range m).flatMap fun i => low (p i) d := by
  show (q T).told ++ ((List.range m).map fun i => q (P i)).flatMap Q.told = _
  rw [ht, q_low hd, List.flatMap_map]
  congr 1
  rw [List.flatMap_def, List.flatMap_def]
  congr 1
  exact List.map_congr_left fun i hi => by rw [hp i (List.mem_range.mp hi), q_low hd]
end Rw
/-! What is handed in, call by call. -/
namespace Rw
open Uw53 (Game Call Ans)
def zs (l : List Nat) : List Int := l.map fun (n : Nat) => (n : Int)
theorem zs_len (l : List Nat) : (zs l).length = l.length := List.length_map ..
/-- a call as it is handed in -/
def enc : Call → List Int
  | .begins l => 0 :: (l.length : Int) :: zs l
  | .word l => 1 :: (l.length : Int) :: zs l
  | .wait l => 2 :: (l.length : Int) :: zs l
  | .first => [3]
  | .by_ n => [4, (n : Int)]
  | .after l => 5 :: (l.length : Int) :: zs l
  | .reply l => 6 :: (l.length : Int) :: zs l
  | .ring n => [7, (n : Int)]
/-- within the document's bounds -/
def InB : Call → Prop
  | .begins l => l.length ≤ 8 ∧ ∀ x, x ∈ l → x < 2 ^ 32
  | .word l => l.length ≤ 8 ∧ ∀ x, x ∈ l → x < 2 ^ 32
  | .wait l => l.length ≤ 8 ∧ ∀ x, x ∈ l → x < 2 ^ 32
  | .first => True
  | .by_ n => n < 2 ^ 32
  | .after l => l.length ≤ 24 ∧ ∀ x, x ∈ l → x < 2 ^ 32
  | .reply l => l.length ≤ 8 ∧ ∀ x, x ∈ l → x < 2 ^ 32
  | .ring n => n < 2 ^ 32
/-- all that is due -/
def due : Game → List Call → List Int
  | _, [] => []
  | g, c :: cs => ((Uw53Neutral.out (Uw53.step g c).2).length : Int) :: (Uw53Neutral.out (Uw53.step g c).2 ++ due (Uw53.step g c).1 cs)
theorem nat_toNat {l : List Int} (h : l.all Uw53Neutral.nat = true) : zs (l.map Int.toNat) = l ∧ ∀ x, x ∈ l.map Int.toNat → x < 2 ^ 32 := by
  rw [List.all_eq_true] at h
  have hb : ∀ z, z ∈ l → 0 ≤ z ∧ z < 2 ^ 32 := fun z hz => by
    have := h z hz
    unfold Uw53Neutral.nat at this
    rw [Bool.and_eq_true, decide_eq_true_iff, decide_eq_true_iff] at this
    exact this
  constructor
  · unfold zs
    rw [List.map_map]
    refine (List.map_congr_left fun z hz => ?_).trans (List.map_id l)
    have := hb z hz
    show ((z.toNat : Nat) : Int) = z
    omega
  · intro x hx
    obtain ⟨z, hz, rfl⟩ := List.mem_map.mp hx
    have := hb z hz
    omega
/-- one call of the flat list: what it is in the document -/
theorem one_call {c : List (List Int)} {p : Int} {r t : List Int} (h : PyFlat.call PyUw53.shape (p :: r) = some (c, t)) (ha : Uw53Neutral.asked1 ((PyUw53.whole c).headD []) = true) :
    ∃ x, Uw53Neutral.callOf ((PyUw53.whole c).headD []) = some x ∧ p :: r = enc x ++ t ∧ InB x := by
  have hsh : PyUw53.shape p = some (0, 1) ∧ (p = 0 ∨ p = 1 ∨ p = 2 ∨ p = 5 ∨ p = 6) ∨ PyUw53.shape p = some (0, 0) ∧ p = 3 ∨ PyUw53.shape p = some (1, 0) ∧ (p = 4 ∨ p = 7) ∨ PyUw53.shape p = none := by
    unfold PyUw53.shape
    repeat' (split; · simp_all)
    simp
  unfold PyFlat.call at h
  dsimp only at h
  rcases hsh with ⟨hs, hp⟩ | ⟨hs, hp⟩ | ⟨hs, hp⟩ | hs
  · rw [hs] at h
    simp only [List.drop_zero, List.take_zero] at h
    unfold PyFlat.rows at h
    cases hr : PyFlat.row r with
    | none => rw [hr] at h; simp at h
    | some xs =>
      obtain ⟨u, s⟩ := xs
      rw [hr] at h
      simp [PyFlat.rows] at h
      obtain ⟨rfl, rfl⟩ := h
      have hr2 : r = (u.length : Int) :: (u ++ s) := by
        unfold PyFlat.row at hr
        cases r with
        | nil => cases hr
        | cons n r =>
          by_cases c : 0 ≤ n ∧ n.toNat ≤ r.length
          · simp only [if_pos c] at hr
            have := Option.some.inj hr
            obtain ⟨e1, e2⟩ := Prod.mk.inj this
            rw [← e1, ← e2, List.take_append_drop, List.length_take, Nat.min_eq_left c.2]
            congr 1
            omega
          · simp only [if_neg c] at hr
            cases hr
      unfold Uw53Neutral.asked1 at ha
      have hall : ∀ (q : Int) (z : Nat), q = z → Uw53Neutral.callOf (q :: u) = (if (u.all Uw53Neutral.nat) = false ∨ Uw53Neutral.nat q = false then none else Uw53Neutral.callIn (z :: u.map Int.toNat)) := by
        intro q z hq
        subst hq
        unfold Uw53Neutral.callOf
        rw [List.all_cons]
        cases h1 : Uw53Neutral.nat (z : Int) <;> cases h2 : u.all Uw53Neutral.nat <;> simp
      have fin : ∀ (z : Nat), p = z → ∀ (k : Nat) (mk : List Nat → Call), (∀ l, Uw53Neutral.callIn (z :: l) = Uw53Neutral.upTo k l (mk l)) → (PyUw53.whole [[p], u]).headD [] = p :: u → (∀ l, enc (mk l) = (z : Int) :: (l.length : Int) :: zs l) →
          (∀ l, InB (mk l) = (l.length ≤ k ∧ ∀ x, x ∈ l → x < 2 ^ 32)) → ∃ x, Uw53Neutral.callOf ((PyUw53.whole [[p], u]).headD []) = some x ∧ p :: r = enc x ++ s ∧ InB x := by
        intro z hz k mk h1 h2 h3 h4
        rw [h2] at ha ⊢
        rw [hall p z hz] at ha ⊢
        by_cases c : (u.all Uw53Neutral.nat) = false ∨ Uw53Neutral.nat p = false
        · rw [if_pos c] at ha; cases ha
        · rw [if_neg c] at ha ⊢
          rw [h1] at ha ⊢
          unfold Uw53Neutral.upTo at ha ⊢
          by_cases c2 : (u.map Int.toNat).length ≤ k
          · rw [if_pos c2]
            have hu : u.all Uw53Neutral.nat = true := by
              cases e : u.all Uw53Neutral.nat with
              | true => rfl
              | false => exact absurd (Or.inl e) c
            obtain ⟨e1, e2⟩ := nat_toNat hu
            refine ⟨_, rfl, ?_, ?_⟩
            · rw [h3, e1, hr2, hz, List.length_map]
              rfl
            · rw [h4]
              exact ⟨c2, e2⟩
          · rw [if_neg c2] at ha; cases ha
      rcases hp with rfl | rfl | rfl | rfl | rfl
      · exact fin 0 rfl 8 .begins (fun _ => rfl) rfl (fun _ => rfl) (fun _ => rfl)
      · exact fin 1 rfl 8 .word (fun _ => rfl) rfl (fun _ => rfl) (fun _ => rfl)
      · exact fin 2 rfl 8 .wait (fun _ => rfl) rfl (fun _ => rfl) (fun _ => rfl)
      · exact fin 5 rfl 24 .after (fun _ => rfl) rfl (fun _ => rfl) (fun _ => rfl)
      · exact fin 6 rfl 8 .reply (fun _ => rfl) rfl (fun _ => rfl) (fun _ => rfl)
  · rw [hs] at h
    subst hp
    simp [PyFlat.rows] at h
    obtain ⟨rfl, rfl⟩ := h
    exact ⟨.first, rfl, rfl, trivial⟩
  · rw [hs] at h
    cases r with
    | nil => simp at h
    | cons n r =>
      simp [PyFlat.rows] at h
      obtain ⟨rfl, rfl⟩ := h
      have fin : ∀ (z : Nat), p = z → ∀ (mk : Nat → Call), (∀ m, Uw53Neutral.callIn [z, m] = some (mk m)) → (PyUw53.whole [[p, n]]).headD [] = [p, n] → (∀ m, enc (mk m) = [(z : Int), (m : Int)]) → (∀ m, InB (mk m) = (m < 2 ^ 32)) →
          ∃ x, Uw53Neutral.callOf ((PyUw53.whole [[p, n]]).headD []) = some x ∧ p :: n :: r = enc x ++ r ∧ InB x := by
        intro z hz mk h1 h2 h3 h4
        rw [h2] at ha ⊢
        subst hz
        unfold Uw53Neutral.asked1 Uw53Neutral.callOf at ha
        unfold Uw53Neutral.callOf
        cases e : ([(z : Int), n] : List Int).all Uw53Neutral.nat with
        | false => rw [e, if_pos rfl] at ha; cases ha
        | true =>
          rw [if_neg (by exact fun h => Bool.noConfusion h)]
          obtain ⟨e1, e2⟩ := nat_toNat e
          have em : ([(z : Int), n] : List Int).map Int.toNat = [z, n.toNat] := rfl
          rw [em] at e1 e2 ⊢
          rw [h1]
          refine ⟨_, rfl, ?_, ?_⟩
          · rw [h3]
            have : zs [z, n.toNat] = [(z : Int), (n.toNat : Int)] := rfl
            rw [this] at e1
            rw [e1]
            rfl
          · rw [h4]
            exact e2 n.toNat (by simp)
      rcases hp with rfl | rfl
      · exact fin 4 rfl .by_ (fun _ => rfl) rfl (fun _ => rfl) (fun _ => rfl)
      · exact fin 7 rfl .ring (fun _ => rfl) rfl (fun _ => rfl) (fun _ => rfl)
  · rw [hs] at h
    cases h
theorem all_calls : ∀ (f : Nat) (ns : List Int) (raw : List (List (List Int))), PyFlat.calls PyUw53.shape f ns = some raw → (∀ c, c ∈ raw → Uw53Neutral.asked1 ((PyUw53.whole c).headD []) = true) →
    ∃ cs : List Call, ns = cs.flatMap enc ∧ cs.length = raw.length ∧ (∀ c, c ∈ cs → InB c) ∧ ∀ g : Game, PyFlat.told (PyFlat.played (fun s c => Uw53Neutral.step s (c.headD [])) g (raw.map PyUw53.whole)) = due g cs
  | f, [], raw, h, _ => by
    have e : raw = [] := by
      cases f <;> exact (Option.some.inj h).symm
    subst e
    exact ⟨[], rfl, rfl, fun c hc => absurd hc List.not_mem_nil, fun g => rfl⟩
  | 0, p :: r, raw, h, _ => by cases h
  | f + 1, p :: r, raw, h, ha => by
    unfold PyFlat.calls at h
    cases hc : PyFlat.call PyUw53.shape (p :: r) with
    | none => rw [hc] at h; cases h
    | some ct =>
      obtain ⟨c, t⟩ := ct
      rw [hc] at h
      cases hr : PyFlat.calls PyUw53.shape f t with
      | none => simp only [hr] at h; cases h
      | some raw2 =>
        simp only [hr] at h
        have e := (Option.some.inj h).symm
        subst e
        obtain ⟨x, h1, h2, h3⟩ := one_call hc (ha c (List.mem_cons_self ..))
        obtain ⟨cs, g1, g2, g3, g4⟩ := all_calls f t raw2 hr fun z hz => ha z (List.mem_cons_of_mem _ hz)
        refine ⟨x :: cs, by rw [h2, g1, List.flatMap_cons], by rw [List.length_cons, List.length_cons, g2], fun z hz => ?_, fun g => ?_⟩
        · rcases List.mem_cons.mp hz with rfl | hz
          · exact h3
          · exact g3 z hz
        · have es : Uw53Neutral.step g ((PyUw53.whole c).headD []) = ((Uw53.step g x).1, Uw53Neutral.out (Uw53.step g x).2) := by
            unfold Uw53Neutral.step
            rw [h1]
          show PyFlat.told ((Uw53Neutral.step g ((PyUw53.whole c).headD [])).2 :: PyFlat.played (fun s c => Uw53Neutral.step s (c.headD [])) (Uw53Neutral.step g ((PyUw53.whole c).headD [])).1 (raw2.map PyUw53.whole)) = _
          rw [es]
          show (((Uw53Neutral.out (Uw53.step g x).2).length : Int) :: Uw53Neutral.out (Uw53.step g x).2) ++ PyFlat.told (PyFlat.played (fun s c => Uw53Neutral.step s (c.headD [])) (Uw53.step g x).1 (raw2.map PyUw53.whole)) = _
          rw [g4]
          rfl
/-- what is asked: calls of the document, and their answers -/
theorem asked_calls {ns : List Int} (h : PyUw53.answers_asked ns = true) : ∃ cs : List Call, ns = cs.flatMap enc ∧ 1 ≤ cs.length ∧ cs.length ≤ 40 ∧ (∀ c, c ∈ cs → InB c) ∧ PyUw53.answers ns = due Uw53.init cs := by
  unfold PyUw53.answers_asked at h
  cases hc : PyFlat.calls PyUw53.shape ns.length ns with
  | none => rw [hc] at h; cases h
  | some raw =>
    rw [hc] at h
    simp only [Bool.and_eq_true] at h
    obtain ⟨⟨⟨⟨h1, h2⟩, _⟩, h4⟩, _⟩ := h
    have ha : ∀ c, c ∈ raw → Uw53Neutral.asked1 ((PyUw53.whole c).headD []) = true := by
      unfold Uw53Neutral.asked at h4
      rw [Bool.and_eq_true] at h4
      have := List.all_eq_true.mp h4.1
      intro c hc
      exact this _ (List.mem_map.mpr ⟨_, List.mem_map.mpr ⟨c, hc, rfl⟩, rfl⟩)
    obtain ⟨cs, g1, g2, g3, g4⟩ := all_calls _ ns raw hc ha
    refine ⟨cs, g1, ?_, ?_, g3, ?_⟩
    · cases raw with
      | nil => cases h1
      | cons c r => rw [g2, List.length_cons]; omega
    · rw [g2]
      unfold PyFlat.atMost at h2
      exact of_decide_eq_true h2
    · have : PyUw53.answers ns = PyFlat.told (PyFlat.played (fun s c => Uw53Neutral.step s (c.headD [])) Uw53Neutral.start (raw.map PyUw53.whole)) := by
        unfold PyUw53.answers PyUw53.calls
        rw [hc]
      rw [this, g4]
      rfl
end Rw
/-! The program's own words for a race, as plain functions, and what they are. -/
namespace Rt
open Rw (Free States lp W S wt tot A B rr free block)
/-- without_unknown -/
def wu (row prow : List Int) (k : Nat) (last : Int) : List Int := List.zipWith (fun v p => (v * prow.getD k 0 - row.getD k 0 * p) / last) row prow
theorem wu_len {row prow : List Int} {k : Nat} {last : Int} (h : row.length = prow.length) : (wu row prow k last).length = row.length := by
  unfold wu
  rw [List.length_zipWith]
  omega
/-- what is left, and the last pivot, when i unknowns are gone -/
def fuSt (rows : List (List Int)) : Nat → List (List Int) × Int
  | 0 => (rows, 1)
  | i + 1 => let s := fuSt rows i
    let j := rows.length - 1 - i
    ((s.1.take j).map (fun row => wu row (s.1.getD j []) j s.2), (s.1.getD j []).getD j 0)
def fu (rows : List (List Int)) : List Int := (fuSt rows (rows.length - 1)).1.getD 0 []
theorem fuSt_len (rows : List (List Int)) : ∀ i, i < rows.length → (fuSt rows i).1.length = rows.length - i
  | 0, _ => rfl
  | i + 1, h => by
    show (((fuSt rows i).1.take (rows.length - 1 - i)).map _).length = _
    rw [List.length_map, List.length_take, fuSt_len rows i (by omega)]
    omega
theorem getDL {a : Type} {l : List (List a)} {i : Nat} (h : i < l.length) : l.getD i [] = l[i] := by
  rw [List.getD_eq_getElem?_getD, List.getElem?_eq_getElem h]
  rfl
theorem getDL_mem {a : Type} {l : List (List a)} {i : Nat} (h : i < l.length) : l.getD i [] ∈ l := by
  rw [getDL h]
  exact List.getElem_mem h
theorem fuSt_row {rows : List (List Int)} {m : Nat} (hm : ∀ r, r ∈ rows → r.length = m) : ∀ i, i < rows.length → ∀ r, r ∈ (fuSt rows i).1 → r.length = m
  | 0, _, r, hr => hm r hr
  | i + 1, h, r, hr => by
    obtain ⟨x, hx, rfl⟩ := List.mem_map.mp hr
    have hx2 := fuSt_row hm i (by omega) x (List.mem_of_mem_take hx)
    have hp := fuSt_row hm i (by omega) _ (getDL_mem (l := (fuSt rows i).1) (i := rows.length - 1 - i) (by rw [fuSt_len rows i (by omega)]; omega))
    rw [wu_len (by rw [hx2, hp]), hx2]
/-- numbers that are not too great -/
def Sm (z : Int) : Prop := z.natAbs < 2 ^ 3000
/-- no number grows too great -/
def Tame (rows : List (List Int)) : Prop := ∀ i, i < rows.length → 0 < (fuSt rows i).2 ∧ Sm (fuSt rows i).2 ∧ ∀ r, r ∈ (fuSt rows i).1 → ∀ x, x ∈ r → Sm x
/-! ### the states -/
/-- the first k beginnings of w, each once -/
def addPre (w : List Nat) : Nat → List (List Nat) → List (List Nat)
  | 0, st => st
  | k + 1, st => if w.take (k + 1) ∈ addPre w k st then addPre w k st else addPre w k st ++ [w.take (k + 1)]
def stOf (ws : List (List Nat)) : List (List Nat) := ws.foldl (fun st w => addPre w (w.length - 1) st) [[]]
theorem addPre_len (w : List Nat) (st : List (List Nat)) : ∀ k, (addPre w k st).length ≤ st.length + k
  | 0 => Nat.le_refl _
  | k + 1 => by
    have := addPre_len w st k
    unfold addPre
    split
    · omega
    · rw [List.length_append, List.length_singleton]; omega
theorem stOf_snoc (ws : List (List Nat)) (w : List Nat) : stOf (ws ++ [w]) = addPre w (w.length - 1) (stOf ws) := by
  unfold stOf
  rw [List.foldl_append]
  rfl
theorem stOf_len : ∀ (ws : List (List Nat)) (m : Nat), (∀ w, w ∈ ws → w.length ≤ m) → (stOf ws).length ≤ 1 + ws.length * m := by
  intro ws m
  have key : ∀ (l : List (List Nat)) (st : List (List Nat)), (∀ w, w ∈ l → w.length ≤ m) → (l.foldl (fun st w => addPre w (w.length - 1) st) st).length ≤ st.length + l.length * m := by
    intro l
    induction l with
    | nil => intro st _; show st.length ≤ st.length + 0 * m; omega
    | cons w l ih =>
      intro st h
      rw [List.foldl_cons, List.length_cons, Nat.add_mul]
      have h1 := ih (addPre w (w.length - 1) st) fun v hv => h v (List.mem_cons_of_mem _ hv)
      have h2 := addPre_len w st (w.length - 1)
      have h3 := h w (List.mem_cons_self ..)
      omega
  intro h
  exact key ws [[]] h
/-- the k-th beginning -/
theorem mem_addPre (w : List Nat) (st : List (List Nat)) (v : List Nat) : ∀ k, v ∈ addPre w k st ↔ v ∈ st ∨ ∃ j, 1 ≤ j ∧ j ≤ k ∧ v = w.take j
  | 0 => ⟨Or.inl, fun h => h.elim id fun ⟨j, h1, h2, _⟩ => by omega⟩
  | k + 1 => by
    have ih := mem_addPre w st v k
    unfold addPre
    split
    · next hin =>
      rw [ih]
      constructor
      · rintro (h | ⟨j, h1, h2, e⟩)
        · exact Or.inl h
        · exact Or.inr ⟨j, h1, by omega, e⟩
      · rintro (h | ⟨j, h1, h2, e⟩)
        · exact Or.inl h
        · by_cases c : j = k + 1
          · subst c
            rw [e]
            exact (mem_addPre w st (w.take (k + 1)) k).mp hin
          · exact Or.inr ⟨j, h1, by omega, e⟩
    · rw [List.mem_append, ih, List.mem_singleton]
      constructor
      · rintro ((h | ⟨j, h1, h2, e⟩) | h)
        · exact Or.inl h
        · exact Or.inr ⟨j, h1, by omega, e⟩
        · exact Or.inr ⟨k + 1, by omega, by omega, h⟩
      · rintro (h | ⟨j, h1, h2, e⟩)
        · exact Or.inl (Or.inl h)
        · by_cases c : j = k + 1
          · subst c; exact Or.inr e
          · exact Or.inl (Or.inr ⟨j, h1, by omega, e⟩)
theorem mem_stOf (v : List Nat) (ws : List (List Nat)) : v ∈ stOf ws ↔ v = [] ∨ ∃ w, w ∈ ws ∧ ∃ j, 1 ≤ j ∧ j ≤ w.length - 1 ∧ v = w.take j := by
  induction ws using Rw.snocInd with
  | h0 =>
    show v ∈ [[]] ↔ _
    rw [List.mem_singleton]
    constructor
    · exact Or.inl
    · rintro (h | ⟨w, hw, _⟩)
      · exact h
      · exact absurd hw List.not_mem_nil
  | h1 ws x ih =>
    rw [stOf_snoc, mem_addPre, ih]
    constructor
    · rintro ((h | ⟨w, hw, r⟩) | r)
      · exact Or.inl h
      · exact Or.inr ⟨w, List.mem_append_left _ hw, r⟩
      · exact Or.inr ⟨x, List.mem_append_right _ (List.mem_singleton.mpr rfl), r⟩
    · rintro (h | ⟨w, hw, r⟩)
      · exact Or.inl (Or.inl h)
      · rcases List.mem_append.mp hw with hw | hw
        · exact Or.inl (Or.inr ⟨w, hw, r⟩)
        · rw [List.mem_singleton.mp hw] at r
          exact Or.inr r
theorem states_stOf (ws : List (List Nat)) : States ws (stOf ws) := by
  refine ⟨(mem_stOf _ _).mpr (Or.inl rfl), fun v hv => ?_, fun w v hw hp hne => ?_⟩
  · rcases (mem_stOf v ws).mp hv with h | ⟨w, hw, j, h1, h2, e⟩
    · exact Or.inl h
    · refine Or.inr ⟨w, hw, e ▸ List.take_prefix _ _, fun h => ?_⟩
      have := congrArg List.length (e.symm.trans h)
      rw [List.length_take] at this
      omega
  · refine (mem_stOf v ws).mpr ?_
    by_cases c : v = []
    · exact Or.inl c
    · have e := List.prefix_iff_eq_take.mp hp
      have h1 := List.length_pos_iff.mpr c
      have h2 := hp.length_le
      have h3 : v.length ≠ w.length := fun h => hne (hp.eq_of_length h)
      exact Or.inr ⟨w, hw, v.length, h1, by omega, e⟩
theorem addPre_app (w : List Nat) (st : List (List Nat)) : ∀ k, ∃ l, addPre w k st = st ++ l
  | 0 => ⟨[], (List.append_nil _).symm⟩
  | k + 1 => by
    obtain ⟨l, h⟩ := addPre_app w st k
    unfold addPre
    split
    · exact ⟨l, h⟩
    · exact ⟨l ++ [w.take (k + 1)], by rw [h, List.append_assoc]⟩
theorem stOf_zero (ws : List (List Nat)) : ∃ l, stOf ws = [] :: l := by
  induction ws using Rw.snocInd with
  | h0 => exact ⟨[], rfl⟩
  | h1 ws x ih =>
    obtain ⟨l, h⟩ := ih
    obtain ⟨m, h2⟩ := addPre_app x (stOf ws) (x.length - 1)
    exact ⟨l ++ m, by rw [stOf_snoc, h2, h]; rfl⟩
theorem addPre_nodup (w : List Nat) (st : List (List Nat)) (h : st.Nodup) : ∀ k, (addPre w k st).Nodup
  | 0 => h
  | k + 1 => by
    have ih := addPre_nodup w st h k
    unfold addPre
    split
    · exact ih
    · next hn => exact List.nodup_append.mpr ⟨ih, List.nodup_cons.mpr ⟨List.not_mem_nil, List.nodup_nil⟩, fun a ha b hb e => hn (by rw [List.mem_singleton.mp hb] at e; rw [← e]; exact ha)⟩
theorem stOf_nodup (ws : List (List Nat)) : (stOf ws).Nodup := by
  induction ws using Rw.snocInd with
  | h0 => exact List.nodup_cons.mpr ⟨List.not_mem_nil, List.nodup_nil⟩
  | h1 ws x ih => rw [stOf_snoc]; exact addPre_nodup _ _ ih _
/-! ### elimination -/
theorem gone_congr {R T T' : Nat → Nat → Int} {b k : Nat} {d : Int} (G : Rw.Gone R b k T d) (h : ∀ r c, r < b → T' r c = T r c) : Rw.Gone R b k T' d := by
  refine ⟨G.dpos, G.dis, fun r hr => ?_⟩
  obtain ⟨l, h1, h2, h3, h4⟩ := G.row r hr
  exact ⟨l, h1, h2, h3, fun c => by rw [h r c hr]; exact h4 c⟩
/-- what stands in row r at c when i unknowns are gone -/
def TT (rows : List (List Int)) (i r c : Nat) : Int := ((fuSt rows i).1.getD r []).getD c 0
theorem getD_zip (row prow : List Int) (f : Int → Int → Int) (h0 : ∀ x, f x 0 = 0 ∨ True) (hl : row.length = prow.length) (c : Nat) (hc : c < row.length) : (List.zipWith f row prow).getD c 0 = f (row.getD c 0) (prow.getD c 0) := by
  rw [List.getD_eq_getElem?_getD, List.getElem?_zipWith, List.getD_eq_getElem?_getD, List.getD_eq_getElem?_getD, List.getElem?_eq_getElem hc, List.getElem?_eq_getElem (hl ▸ hc)]
  rfl
theorem getD_out {l : List Int} {c : Nat} (h : l.length ≤ c) : l.getD c 0 = 0 := by
  rw [List.getD_eq_getElem?_getD, List.getElem?_eq_none h]
  rfl
theorem TT_step {rows : List (List Int)} {m : Nat} (hm : ∀ r, r ∈ rows → r.length = m) {i r : Nat} (hi : i + 1 < rows.length) (hr : r < rows.length - 1 - i) (c : Nat) :
    TT rows (i + 1) r c = (TT rows i r c * TT rows i (rows.length - 1 - i) (rows.length - 1 - i) - TT rows i r (rows.length - 1 - i) * TT rows i (rows.length - 1 - i) c) / (fuSt rows i).2 := by
  have hl := fuSt_len rows i (by omega)
  have e1 : (fuSt rows (i + 1)).1.getD r [] = wu ((fuSt rows i).1.getD r []) ((fuSt rows i).1.getD (rows.length - 1 - i) []) (rows.length - 1 - i) (fuSt rows i).2 := by
    show (((fuSt rows i).1.take (rows.length - 1 - i)).map _).getD r [] = _
    have hr2 : r < ((fuSt rows i).1.take (rows.length - 1 - i)).length := by rw [List.length_take]; omega
    rw [List.getD_eq_getElem?_getD, List.getElem?_map, List.getElem?_eq_getElem hr2, List.getElem_take, getDL (l := (fuSt rows i).1) (i := r) (by omega)]
    rfl
  have l1 : ((fuSt rows i).1.getD r []).length = m := fuSt_row hm i (by omega) _ (getDL_mem (by omega))
  have l2 : ((fuSt rows i).1.getD (rows.length - 1 - i) []).length = m := fuSt_row hm i (by omega) _ (getDL_mem (by omega))
  unfold TT
  rw [e1]
  by_cases hc : c < m
  · unfold wu
    rw [getD_zip _ _ _ (fun _ => Or.inr trivial) (by rw [l1, l2]) c (by omega)]
  · rw [getD_out (l := wu _ _ _ _) (by rw [wu_len (by rw [l1, l2])]; omega), getD_out (l := (fuSt rows i).1.getD r []) (c := c) (by omega), getD_out (l := (fuSt rows i).1.getD (rows.length - 1 - i) []) (c := c) (by omega)]
    simp
theorem gone_at {rows : List (List Int)} {m : Nat} {v : Nat → Rat} (hm : ∀ r, r ∈ rows → r.length = m) (G : Rw.Good (TT rows 0) rows.length v) : ∀ i, i < rows.length → Rw.Gone (TT rows 0) (rows.length - i) i (TT rows i) (fuSt rows i).2
  | 0, _ => Rw.gone_start G
  | i + 1, hi => by
    have ih := gone_at hm G i (by omega)
    have eb : rows.length - i = rows.length - 1 - i + 1 := by omega
    rw [eb] at ih
    obtain ⟨_, _, h3⟩ := Rw.gone_step G (by omega) ih
    have eb2 : rows.length - (i + 1) = rows.length - 1 - i := by omega
    rw [eb2]
    exact gone_congr h3 fun r c hr => TT_step hm (by omega) hr c
/-! bounds -/
def bd (b : Nat) : Nat → Nat
  | 0 => 1
  | n + 1 => (n + 1) * b * bd b n
theorem S_bound {n : Nat} {f : Nat → Rat} {b : Rat} (h : ∀ i, i < n → -b ≤ f i ∧ f i ≤ b) : -((n : Nat) : Rat) * b ≤ S n f ∧ S n f ≤ ((n : Nat) : Rat) * b := by
  induction n with
  | zero =>
    show -((0 : Nat) : Rat) * b ≤ 0 ∧ 0 ≤ ((0 : Nat) : Rat) * b
    have : ((0 : Nat) : Rat) = 0 := rfl
    rw [this]
    grind
  | succ n ih =>
    have h1 := ih fun i hi => h i (by omega)
    have h2 := h n (by omega)
    rw [Rw.S_succ]
    have : ((n + 1 : Nat) : Rat) = ((n : Nat) : Rat) + 1 := by rw [Rat.natCast_add]; rfl
    rw [this]
    grind
theorem sg_cases : ∀ c, Rw.sg c = 1 ∨ Rw.sg c = -1
  | 0 => Or.inl rfl
  | c + 1 => by
    show - Rw.sg c = 1 ∨ - Rw.sg c = -1
    rcases sg_cases c with h | h
    · rw [h]; exact Or.inr rfl
    · rw [h]; left; grind
theorem mul_bound {x y a b : Rat} (hx : -a ≤ x ∧ x ≤ a) (hy : -b ≤ y ∧ y ≤ b) : -(a * b) ≤ x * y ∧ x * y ≤ a * b := by
  have ha : 0 ≤ a := by grind
  have hb : 0 ≤ b := by grind
  have h1 : 0 ≤ (a - x) * (b + y) := Rat.mul_nonneg (by grind) (by grind)
  have h2 : 0 ≤ (a + x) * (b - y) := Rat.mul_nonneg (by grind) (by grind)
  have h3 : 0 ≤ (a - x) * (b - y) := Rat.mul_nonneg (by grind) (by grind)
  have h4 : 0 ≤ (a + x) * (b + y) := Rat.mul_nonneg (by grind) (by grind)
  constructor <;> grind
theorem det_bound (b : Nat) : ∀ (n : Nat) (a : Nat → Nat → Rat), (∀ i j, i < n → -((b : Nat) : Rat) ≤ a i j ∧ a i j ≤ ((b : Nat) : Rat)) → -((bd b n : Nat) : Rat) ≤ Rw.det n a ∧ Rw.det n a ≤ ((bd b n : Nat) : Rat)
  | 0, _, _ => by
    show -((1 : Nat) : Rat) ≤ 1 ∧ (1 : Rat) ≤ ((1 : Nat) : Rat)
    have : ((1 : Nat) : Rat) = 1 := rfl
    rw [this]
    grind
  | n + 1, a, h => by
    have e : ((bd b (n + 1) : Nat) : Rat) = ((n + 1 : Nat) : Rat) * (((b : Nat) : Rat) * ((bd b n : Nat) : Rat)) := by
      show (((n + 1) * b * bd b n : Nat) : Rat) = _
      rw [Rat.natCast_mul, Rat.natCast_mul]
      grind
    rw [e, Rw.det_succ]
    have := S_bound (n := n + 1) (f := fun c => a 0 c * (Rw.sg c * Rw.det n (fun i j => a (i + 1) (Rw.skip c j)))) (b := ((b : Nat) : Rat) * ((bd b n : Nat) : Rat)) fun c hc => by
      refine mul_bound (h 0 c (by omega)) ?_
      have h2 := det_bound b n (fun i j => a (i + 1) (Rw.skip c j)) fun i j hi => h (i + 1) _ (by omega)
      rcases sg_cases c with h3 | h3 <;> rw [h3] <;> constructor <;> grind
    constructor <;> grind
theorem bd_mono {b : Nat} (hb : 0 < b) {n m : Nat} (h : n ≤ m) : bd b n ≤ bd b m := by
  induction m with
  | zero =>
    have : n = 0 := by omega
    subst this
    exact Nat.le_refl _
  | succ m ih =>
    by_cases c : n = m + 1
    · subst c; exact Nat.le_refl _
    · have h1 := ih (by omega)
      show _ ≤ (m + 1) * b * bd b m
      have : 1 ≤ (m + 1) * b := Nat.mul_pos (by omega) hb
      calc bd b n ≤ bd b m := h1
        _ = 1 * bd b m := (Nat.one_mul _).symm
        _ ≤ _ := Nat.mul_le_mul_right _ this
theorem bd_small {n : Nat} (h : n ≤ 60) : bd 30 n < 2 ^ 3000 := Nat.lt_of_le_of_lt (bd_mono (by decide) h) (by decide +kernel)
theorem sm_of {z : Int} {n : Nat} (hn : n ≤ 60) (h : -((bd 30 n : Nat) : Rat) ≤ (z : Rat) ∧ (z : Rat) ≤ ((bd 30 n : Nat) : Rat)) : Sm z := by
  have h1 : -((bd 30 n : Nat) : Int) ≤ z := by
    have : (((-((bd 30 n : Nat) : Int)) : Int) : Rat) ≤ (z : Rat) := by rw [Rat.intCast_neg]; exact h.1
    exact Rat.intCast_le_intCast.mp this
  have h2 : z ≤ ((bd 30 n : Nat) : Int) := Rat.intCast_le_intCast.mp h.2
  have := bd_small hn
  show z.natAbs < 2 ^ 3000
  omega
theorem tame_of {rows : List (List Int)} {m : Nat} {v : Nat → Rat} (hm : ∀ r, r ∈ rows → r.length = m) (G : Rw.Good (TT rows 0) rows.length v) (hn : rows.length ≤ 50) (hb : ∀ s c, s < rows.length → -((30 : Nat) : Rat) ≤ rr (TT rows 0) s c ∧ rr (TT rows 0) s c ≤ ((30 : Nat) : Rat)) : Tame rows := by
  intro i hi
  have I := gone_at hm G i hi
  have hl := fuSt_len rows i hi
  refine ⟨I.dpos, sm_of (n := i) (by omega) ?_, fun r hr x hx => ?_⟩
  · rw [I.dis]
    exact det_bound 30 i _ fun a b ha => hb _ _ (by omega)
  · obtain ⟨j, hj, e⟩ := List.getElem_of_mem hr
    obtain ⟨c, hc, e2⟩ := List.getElem_of_mem hx
    obtain ⟨l, _, lz, _, lT⟩ := I.row j (by omega)
    have h1 := lT c
    have ex : TT rows i j c = x := by
      unfold TT
      rw [getDL hj, e, List.getD_eq_getElem?_getD, List.getElem?_eq_getElem hc, e2]
      rfl
    rw [ex, I.dis, Rat.mul_comm, ← Rw.schur lz] at h1
    refine sm_of (n := i + 1) (by omega) ?_
    rw [h1]
    refine det_bound 30 (i + 1) _ fun a b ha => hb _ _ ?_
    unfold Rw.pos
    split <;> omega
end Rt
/-! The program's race: its states, moves and equations, and the outcome. -/
namespace Rt
open Rw (Free States Clean lp W S wt tot A B rr free block low)
/-- the states, first of them the one that u leads to -/
def stFrom (ws : List (List Nat)) (u : List Nat) : List (List Nat) := lp (stOf ws) u :: (stOf ws).filter fun v => !(v == lp (stOf ws) u)
/-- the place behind a sequence: a state, or a word -/
def plOf (sts ws : List (List Nat)) (u : List Nat) : Nat := match Uw53.ended ws u with
  | none => sts.idxOf (lp sts u)
  | some i => sts.length + i
def mvOf (sts ws : List (List Nat)) (k : Nat) (s : List Nat) : List Nat := (List.range k).map fun x => plOf sts ws (s ++ [x])
def mvsOf (sts ws : List (List Nat)) (k : Nat) : List (List Nat) := sts.map (mvOf sts ws k)
/-- a letter's part of an equation -/
def eqStep (n : Nat) (row : List Int) (p w : Nat) : List Int := if p < n then row.set p (row.getD p 0 - w) else row.set p (row.getD p 0 + w)
def eqTo (n m : Nat) (ws ps : List Nat) (s : Nat) : Nat → List Int
  | 0 => (List.replicate (n + m) (0 : Int)).set s ((ws.sum : Nat) : Int)
  | i + 1 => eqStep n (eqTo n m ws ps s i) (ps.getD i 0) (ws.getD i 0)
def eqOf (n m : Nat) (ws ps : List Nat) (s : Nat) : List Int := eqTo n m ws ps s ws.length ++ [((ws.sum : Nat) : Int)]
def rowsS (ws0 : List Nat) (sts ws : List (List Nat)) : List (List Int) := (List.range sts.length).map fun s => eqOf sts.length ws.length ws0 (mvOf sts ws ws0.length (W sts s)) s
theorem eqStep_len (n : Nat) (row : List Int) (p w : Nat) : (eqStep n row p w).length = row.length := by
  unfold eqStep
  split <;> exact List.length_set ..
theorem eqTo_len (n m : Nat) (ws ps : List Nat) (s : Nat) : ∀ i, (eqTo n m ws ps s i).length = n + m
  | 0 => by
    show ((List.replicate (n + m) (0 : Int)).set s _).length = _
    rw [List.length_set, List.length_replicate]
  | i + 1 => (eqStep_len ..).trans (eqTo_len n m ws ps s i)
theorem eqOf_len (n m : Nat) (ws ps : List Nat) (s : Nat) : (eqOf n m ws ps s).length = n + m + 1 := by
  unfold eqOf
  rw [List.length_append, eqTo_len]
  rfl
theorem getD_set (l : List Int) (i j : Nat) (z : Int) (h : i < l.length) : (l.set i z).getD j 0 = if j = i then z else l.getD j 0 := by
  rw [List.getD_eq_getElem?_getD, List.getElem?_set, List.getD_eq_getElem?_getD]
  by_cases c : j = i
  · subst c
    rw [if_pos rfl, if_pos rfl, if_pos h]
    rfl
  · rw [if_neg (fun e => c e.symm), if_neg c]
/-! the states that stand first -/
theorem stFrom_mem (ws : List (List Nat)) (u v : List Nat) : v ∈ stFrom ws u ↔ v ∈ stOf ws := by
  unfold stFrom
  rw [List.mem_cons, List.mem_filter]
  constructor
  · rintro (h | h)
    · rw [h]; exact Rw.lp_mem (states_stOf ws).nil u
    · exact h.1
  · intro h
    by_cases c : v = lp (stOf ws) u
    · exact Or.inl c
    · refine Or.inr ⟨h, ?_⟩
      rw [beq_eq_false_iff_ne.mpr c]
      rfl
theorem states_stFrom (ws : List (List Nat)) (u : List Nat) : States ws (stFrom ws u) := by
  have T := states_stOf ws
  exact ⟨(stFrom_mem ws u _).mpr T.nil, fun v hv => T.pre v ((stFrom_mem ws u v).mp hv), fun w v h1 h2 h3 => (stFrom_mem ws u v).mpr (T.all w v h1 h2 h3)⟩
theorem stFrom_nodup (ws : List (List Nat)) (u : List Nat) : (stFrom ws u).Nodup := by
  unfold stFrom
  refine List.nodup_cons.mpr ⟨fun h => ?_, List.Nodup.sublist List.filter_sublist (stOf_nodup ws)⟩
  have := (List.mem_filter.mp h).2
  rw [beq_self_eq_true] at this
  cases this
theorem stFrom_len (ws : List (List Nat)) (u : List Nat) : (stFrom ws u).length ≤ 1 + (stOf ws).length := by
  have := List.length_filter_le (fun v => !(v == lp (stOf ws) u)) (stOf ws)
  show (List.filter _ _).length + 1 ≤ _
  omega
theorem stFrom_zero (ws : List (List Nat)) (u : List Nat) : W (stFrom ws u) 0 = lp (stOf ws) u := rfl
theorem idx_lt {sts : List (List Nat)} {v : List Nat} (h : v ∈ sts) : sts.idxOf v < sts.length := List.idxOf_lt_length_of_mem h
theorem idx_W {sts : List (List Nat)} {v : List Nat} (h : v ∈ sts) : W sts (sts.idxOf v) = v := by
  unfold W
  rw [List.getD_eq_getElem?_getD, List.getElem?_eq_getElem (idx_lt h)]
  exact List.getElem_idxOf (idx_lt h)
theorem W_inj {sts : List (List Nat)} (nd : sts.Nodup) {i j : Nat} (hi : i < sts.length) (hj : j < sts.length) (h : W sts i = W sts j) : i = j := by
  unfold W at h
  rw [List.getD_eq_getElem?_getD, List.getD_eq_getElem?_getD, List.getElem?_eq_getElem hi, List.getElem?_eq_getElem hj] at h
  exact (List.getElem_inj nd).mp h
theorem idx_of {sts : List (List Nat)} (nd : sts.Nodup) {t : Nat} (ht : t < sts.length) : sts.idxOf (W sts t) = t :=
  W_inj nd (idx_lt (Rw.W_mem ht)) ht (idx_W (Rw.W_mem ht))
/-! ### the equations are the chain's -/
section
variable (g : Uw53.Game) (sts ws : List (List Nat))
def winS (s x : Nat) : Option Nat := Uw53.ended ws (W sts s ++ [x])
def nxtS (s x : Nat) : Nat := sts.idxOf (lp sts (W sts s ++ [x]))
def mvS (s x : Nat) : Nat := plOf sts ws (W sts s ++ [x])
theorem W_sum : ((g.weights.sum : Nat) : Rat) = tot g := by
  show ((g.weights.sum : Nat) : Rat) = ((Uw53.total g.weights : Nat) : Rat)
  have key : ∀ (l : List Nat) (a : Nat), l.foldl (fun a b => a + b) a = a + l.sum := by
    intro l
    induction l with
    | nil => intro a; rfl
    | cons x l ih => intro a; rw [List.foldl_cons, ih, List.sum_cons]; omega
  have : Uw53.total g.weights = g.weights.sum := by
    show g.weights.foldl (fun a b => a + b) 0 = _
    rw [key]; omega
  rw [this]
variable {g sts ws}
theorem mvS_none {s x : Nat} (h : winS sts ws s x = none) : mvS sts ws s x = nxtS sts s x := by
  have h2 : Uw53.ended ws (W sts s ++ [x]) = none := h
  unfold mvS plOf
  rw [h2]
  rfl
theorem mvS_some {s x i : Nat} (h : winS sts ws s x = some i) : mvS sts ws s x = sts.length + i := by
  have h2 : Uw53.ended ws (W sts s ++ [x]) = some i := h
  unfold mvS plOf
  rw [h2]
theorem nxt_lt (T : States ws sts) (s x : Nat) : nxtS sts s x < sts.length := idx_lt (Rw.lp_mem T.nil _)
theorem mvS_lt (T : States ws sts) (s x : Nat) : mvS sts ws s x < sts.length + ws.length := by
  cases h : winS sts ws s x with
  | none => rw [mvS_none h]; have := nxt_lt T s x; omega
  | some i => rw [mvS_some h]; have := (Rw.ended_some h).1; omega
theorem mvS_state {s x t : Nat} (ht : t < sts.length) : mvS sts ws s x = t ↔ winS sts ws s x = none ∧ nxtS sts s x = t := by
  cases h : winS sts ws s x with
  | none => rw [mvS_none h]; exact ⟨fun e => ⟨rfl, e⟩, fun e => e.2⟩
  | some i => rw [mvS_some h]; exact ⟨fun e => by omega, fun e => nomatch e.1⟩
theorem mvS_word (T : States ws sts) {s x i : Nat} : mvS sts ws s x = sts.length + i ↔ winS sts ws s x = some i := by
  cases h : winS sts ws s x with
  | none =>
    rw [mvS_none h]
    have := nxt_lt T s x
    exact ⟨fun e => by omega, fun e => nomatch e⟩
  | some j =>
    rw [mvS_some h]
    exact ⟨fun e => by congr 1; omega, fun e => by rw [Option.some.inj e]⟩
theorem mvOf_at {k x s : Nat} (h : x < k) : (mvOf sts ws k (W sts s)).getD x 0 = mvS sts ws s x := by
  unfold mvOf
  rw [List.getD_eq_getElem?_getD, List.getElem?_map, List.getElem?_range h]
  rfl
/-- an equation behind i letters, place by place -/
theorem eqTo_at (T : States ws sts) {s : Nat} (hs : s < sts.length) : ∀ i, i ≤ g.weights.length → ∀ c, c < sts.length + ws.length →
    (((eqTo sts.length ws.length g.weights (mvOf sts ws g.weights.length (W sts s)) s i).getD c 0 : Int) : Rat) =
      (if c < sts.length then tot g * Rw.one s c - S i (fun x => if mvS sts ws s x = c then wt g x else 0)
       else S i (fun x => if mvS sts ws s x = c then wt g x else 0))
  | 0, _, c, hc => by
    show ((((List.replicate (sts.length + ws.length) (0 : Int)).set s ((g.weights.sum : Nat) : Int)).getD c 0 : Int) : Rat) = _
    rw [getD_set _ _ _ _ (by rw [List.length_replicate]; omega)]
    have rep : (List.replicate (sts.length + ws.length) (0 : Int)).getD c 0 = 0 := by
      rw [List.getD_eq_getElem?_getD, List.getElem?_replicate]
      split <;> rfl
    rw [rep]
    by_cases c2 : c < sts.length
    · rw [if_pos c2]
      show _ = tot g * Rw.one s c - 0
      by_cases c3 : c = s
      · rw [if_pos c3, c3, Rw.one_self, ← W_sum]
        show ((g.weights.sum : Nat) : Rat) = _
        grind
      · rw [if_neg c3, Rw.one_ne c3]
        show (0 : Rat) = _
        grind
    · rw [if_neg c2, if_neg (by omega)]
      rfl
  | i + 1, hi, c, hc => by
    have ih := eqTo_at T hs i (by omega)
    have rl := eqTo_len sts.length ws.length g.weights (mvOf sts ws g.weights.length (W sts s)) s i
    have ew : ((g.weights.getD i 0 : Nat) : Rat) = wt g i := rfl
    have hp := mvS_lt T s i
    show (((eqStep sts.length (eqTo sts.length ws.length g.weights (mvOf sts ws g.weights.length (W sts s)) s i) ((mvOf sts ws g.weights.length (W sts s)).getD i 0) (g.weights.getD i 0)).getD c 0 : Int) : Rat) = _
    rw [Rw.S_succ, mvOf_at (by omega)]
    unfold eqStep
    by_cases h1 : mvS sts ws s i < sts.length
    · rw [if_pos h1, getD_set _ _ _ _ (by rw [rl]; omega)]
      by_cases c3 : c = mvS sts ws s i
      · rw [if_pos c3, Rat.intCast_sub, ← c3, ih c hc, if_pos (by omega), if_pos (by omega), if_pos rfl, ← ew]
        show _ - ((g.weights.getD i 0 : Nat) : Rat) = _
        grind
      · have n1 : (if mvS sts ws s i = c then wt g i else 0) = 0 := if_neg (fun z => c3 z.symm)
        rw [if_neg c3, ih c hc, n1]
        split <;> grind
    · rw [if_neg h1, getD_set _ _ _ _ (by rw [rl]; omega)]
      by_cases c3 : c = mvS sts ws s i
      · rw [if_pos c3, Rat.intCast_add, ← c3, ih c hc, if_neg (by omega), if_neg (by omega), if_pos rfl, ← ew]
        rfl
      · have n1 : (if mvS sts ws s i = c then wt g i else 0) = 0 := if_neg (fun z => c3 z.symm)
        rw [if_neg c3, ih c hc, n1]
        split <;> grind
theorem rowsS_len : (rowsS g.weights sts ws).length = sts.length := by
  unfold rowsS
  rw [List.length_map, List.length_range]
theorem rowsS_at {s : Nat} (hs : s < sts.length) : (rowsS g.weights sts ws).getD s [] = eqOf sts.length ws.length g.weights (mvOf sts ws g.weights.length (W sts s)) s := by
  unfold rowsS
  rw [List.getD_eq_getElem?_getD, List.getElem?_map, List.getElem?_range hs]
  rfl
theorem rowsS_row : ∀ r, r ∈ rowsS g.weights sts ws → r.length = sts.length + ws.length + 1 := by
  intro r hr
  obtain ⟨s, _, rfl⟩ := List.mem_map.mp hr
  exact eqOf_len ..
/-- the matrix -/
def RS (g : Uw53.Game) (sts ws : List (List Nat)) : Nat → Nat → Int := TT (rowsS g.weights sts ws) 0
theorem RS_at {s : Nat} (hs : s < sts.length) (c : Nat) (hc : c < sts.length + ws.length) : RS g sts ws s c = (eqTo sts.length ws.length g.weights (mvOf sts ws g.weights.length (W sts s)) s g.weights.length).getD c 0 := by
  show ((rowsS g.weights sts ws).getD s []).getD c 0 = _
  rw [rowsS_at hs]
  unfold eqOf
  rw [List.getD_eq_getElem?_getD, List.getElem?_append_left (by rw [eqTo_len]; exact hc), List.getD_eq_getElem?_getD]
theorem RS_low (T : States ws sts) {s t : Nat} (hs : s < sts.length) (ht : t < sts.length) : rr (RS g sts ws) s t = A g (winS sts ws) (nxtS sts) s t := by
  show ((RS g sts ws s t : Int) : Rat) = _
  rw [RS_at hs t (by omega), eqTo_at T hs _ (Nat.le_refl _) t (by omega), if_pos ht]
  show _ = tot g * Rw.one s t - S g.weights.length _
  congr 1
  refine Rw.S_congr fun x _ => ?_
  by_cases c : mvS sts ws s x = t
  · rw [if_pos c, if_pos ((mvS_state ht).mp c)]
  · rw [if_neg c, if_neg fun z => c ((mvS_state ht).mpr z)]
theorem RS_word (T : States ws sts) {s i : Nat} (hs : s < sts.length) (hi : i < ws.length) : rr (RS g sts ws) s (sts.length + i) = B g (winS sts ws) s i := by
  show ((RS g sts ws s (sts.length + i) : Int) : Rat) = _
  rw [RS_at hs _ (by omega), eqTo_at T hs _ (Nat.le_refl _) _ (by omega), if_neg (by omega)]
  refine Rw.S_congr fun x _ => ?_
  by_cases c : mvS sts ws s x = sts.length + i
  · rw [if_pos c, if_pos ((mvS_word T).mp c)]
  · rw [if_neg c, if_neg fun z => c ((mvS_word T).mpr z)]
theorem RS_time {s : Nat} (hs : s < sts.length) : rr (RS g sts ws) s (sts.length + ws.length) = tot g := by
  show (((((rowsS g.weights sts ws).getD s []).getD (sts.length + ws.length) 0 : Int)) : Rat) = _
  rw [rowsS_at hs]
  unfold eqOf
  rw [List.getD_eq_getElem?_getD, List.getElem?_append_right (by rw [eqTo_len]; exact Nat.le_refl _), eqTo_len, Nat.sub_self, ← W_sum]
  rfl
theorem RS_out {s c : Nat} (hs : s < sts.length) (hc : sts.length + ws.length < c) : RS g sts ws s c = 0 := by
  show ((rowsS g.weights sts ws).getD s []).getD c 0 = 0
  rw [rowsS_at hs]
  exact getD_out (by rw [eqOf_len]; omega)
theorem chainS (F : Free ws) (T : States ws sts) : Rw.Chain g ws sts.length (W sts) (winS sts ws) (nxtS sts) :=
  Rw.chain_of F T fun s x _ _ _ => ⟨nxt_lt T s x, idx_W (Rw.lp_mem T.nil _)⟩
theorem goodS (hp : Rw.Pos g) (hne : g.weights ≠ []) (F : Free ws) (hl : ∀ j, j < ws.length → Rw.Let g (W ws j)) (hw : ws ≠ []) (T : States ws sts) : ∃ v, Rw.Good (RS g sts ws) sts.length v := by
  obtain ⟨v, hv, hA⟩ := Rw.A_pos hp hne F hl hw (chainS (g := g) F T)
  refine ⟨v, fun s t hs ht hst => ?_, hv, fun s hs => ?_⟩
  · rw [RS_low T hs ht]
    exact Rw.A_off hp (Ne.symm hst)
  · rw [Rw.S_congr (g := fun t => A g (winS sts ws) (nxtS sts) s t * v t) (fun t ht => by rw [RS_low T hs ht])]
    exact hA s hs
/-- the equations' numbers lie between -tot and tot -/
theorem RS_bound (hp : Rw.Pos g) (T : States ws sts) {s c : Nat} (hs : s < sts.length) : -tot g ≤ rr (RS g sts ws) s c ∧ rr (RS g sts ws) s c ≤ tot g := by
  have hS : ∀ d, 0 ≤ S g.weights.length (fun x => if mvS sts ws s x = d then wt g x else 0) ∧ S g.weights.length (fun x => if mvS sts ws s x = d then wt g x else 0) ≤ tot g := by
    intro d
    constructor
    · refine Rw.S_nonneg fun x hx => ?_
      split
      · exact Rat.le_of_lt (Rw.wt_pos hp hx)
      · exact Rat.le_refl
    · rw [Rw.tot_sum]
      refine Rw.S_le fun x hx => ?_
      split
      · exact Rat.le_refl
      · exact Rat.le_of_lt (Rw.wt_pos hp hx)
  have t0 : 0 ≤ tot g := by
    have := hS 0
    grind
  by_cases c1 : c < sts.length + ws.length
  · show -tot g ≤ ((RS g sts ws s c : Int) : Rat) ∧ ((RS g sts ws s c : Int) : Rat) ≤ tot g
    rw [RS_at hs c c1, eqTo_at T hs _ (Nat.le_refl _) c c1]
    have := hS c
    split
    · have : Rw.one s c = 0 ∨ Rw.one s c = 1 := by
        unfold Rw.one
        split
        · exact Or.inr rfl
        · exact Or.inl rfl
      rcases this with h | h <;> rw [h] <;> constructor <;> grind
    · constructor <;> grind
  · by_cases c2 : c = sts.length + ws.length
    · rw [c2, RS_time hs]
      constructor <;> grind
    · have := RS_out (g := g) (sts := sts) (ws := ws) hs (show sts.length + ws.length < c by omega)
      show -tot g ≤ ((RS g sts ws s c : Int) : Rat) ∧ ((RS g sts ws s c : Int) : Rat) ≤ tot g
      rw [this]
      constructor <;> grind
end
end Rt
/-! The outcome of a race, as the program tells it. -/
namespace Rt
open Rw (Free States Clean lp W S wt tot A B rr low)
/-- what is told of the row that is left -/
def outL (n m : Nat) (l : List Int) : List Int := low (l.getD (n + m) 0).toNat (l.getD 0 0).toNat ++ (List.range m).flatMap fun i => low (l.getD (n + i) 0).toNat (l.getD 0 0).toNat
def leftS (g : Uw53.Game) (ws : List (List Nat)) (u : List Nat) : List Int := fu (rowsS g.weights (stFrom ws u) ws)
def outc (g : Uw53.Game) (ws : List (List Nat)) (u : List Nat) : List Int := outL (stFrom ws u).length ws.length (leftS g ws u)
theorem stFrom_pos (ws : List (List Nat)) (u : List Nat) : 0 < (stFrom ws u).length := Nat.succ_pos _
section
variable {g : Uw53.Game} {ws : List (List Nat)} {u : List Nat}
/-- the row that is left: multipliers that are not negative -/
theorem left_y (hp : Rw.Pos g) (hne : g.weights ≠ []) (F : Free ws) (hl : ∀ j, j < ws.length → Rw.Let g (W ws j)) (hw : ws ≠ []) (u : List Nat) :
    0 < (leftS g ws u).getD 0 0 ∧ ∃ y : Nat → Rat, (∀ s, s < (stFrom ws u).length → 0 ≤ y s) ∧
      (∀ t, t < (stFrom ws u).length → S (stFrom ws u).length (fun s => y s * A g (winS (stFrom ws u) ws) (nxtS (stFrom ws u)) s t) = (((leftS g ws u).getD 0 0 : Int) : Rat) * Rw.one 0 t) ∧
      (∀ i, i < ws.length → (((leftS g ws u).getD ((stFrom ws u).length + i) 0 : Int) : Rat) = S (stFrom ws u).length (fun s => y s * B g (winS (stFrom ws u) ws) s i)) ∧
      (((leftS g ws u).getD ((stFrom ws u).length + ws.length) 0 : Int) : Rat) = S (stFrom ws u).length (fun s => y s * tot g) := by
  have T := states_stFrom ws u
  have hn := stFrom_pos ws u
  obtain ⟨v, G⟩ := goodS (sts := stFrom ws u) hp hne F hl hw T
  have rl : (rowsS g.weights (stFrom ws u) ws).length = (stFrom ws u).length := rowsS_len
  have I := gone_at (rowsS_row (g := g) (sts := stFrom ws u) (ws := ws)) (v := v) (by rw [rl]; exact G) ((stFrom ws u).length - 1) (by rw [rl]; omega)
  have eb : (rowsS g.weights (stFrom ws u) ws).length - ((stFrom ws u).length - 1) = 1 := by rw [rl]; omega
  rw [eb] at I
  obtain ⟨h0, h1, y, hy, hT⟩ := Rw.gone_end (n := (stFrom ws u).length) G (by omega) I
  have eL : ∀ c, (leftS g ws u).getD c 0 = TT (rowsS g.weights (stFrom ws u) ws) ((stFrom ws u).length - 1) 0 c := by
    intro c
    show ((fuSt _ ((rowsS g.weights (stFrom ws u) ws).length - 1)).1.getD 0 []).getD c 0 = _
    rw [rl]
    rfl
  refine ⟨by rw [eL]; exact h0, y, hy, fun t ht => ?_, fun i hi => ?_, ?_⟩
  · have e1 : S (stFrom ws u).length (fun s => y s * A g (winS (stFrom ws u) ws) (nxtS (stFrom ws u)) s t) = S (stFrom ws u).length (fun s => y s * rr (RS g (stFrom ws u) ws) s t) :=
      Rw.S_congr fun s hs => by rw [RS_low T hs ht]
    rw [e1]
    have := hT t
    rw [← show _ = _ from this]
    by_cases c : t = 0
    · subst c
      rw [Rw.one_self, eL]
      grind
    · rw [h1 t (by omega) ht, Rw.one_ne c]
      rw [Rat.intCast_zero]
      grind
  · rw [eL, hT]
    exact Rw.S_congr fun s hs => by rw [RS_word T hs hi]
  · rw [eL, hT]
    exact Rw.S_congr fun s hs => by rw [RS_time hs]
theorem B_nonneg (hp : Rw.Pos g) {win : Nat → Nat → Option Nat} {s i : Nat} : 0 ≤ B g win s i := Rw.S_nonneg fun x hx => by
  split
  · exact Rat.le_of_lt (Rw.wt_pos hp hx)
  · exact Rat.le_refl
theorem to_rat {z : Int} (h : 0 ≤ z) : ((z.toNat : Nat) : Rat) = (z : Rat) := by
  have : ((z.toNat : Nat) : Int) = z := Int.toNat_of_nonneg h
  rw [← Rat.intCast_natCast, this]
/-- **The outcome**: no number grows too great, and what is told is the specification's race. -/
theorem outc_ok (hp : Rw.Pos g) (hne : g.weights ≠ []) (h30 : tot g ≤ 30) (F : Free ws) (hl : ∀ j, j < ws.length → Rw.Let g (W ws j)) (hw : ws ≠ []) (hn : (stFrom ws u).length ≤ 50) (hu : Clean ws u) :
    Tame (rowsS g.weights (stFrom ws u) ws) ∧ 0 < (leftS g ws u).getD 0 0 ∧ Sm ((leftS g ws u).getD 0 0) ∧ (∀ i, i ≤ ws.length → 0 ≤ (leftS g ws u).getD ((stFrom ws u).length + i) 0) ∧
    ∃ P T, Rw.Conway g ws u P T ∧ (∀ i, i < ws.length → P i = (((leftS g ws u).getD ((stFrom ws u).length + i) 0 : Int) : Rat) / (((leftS g ws u).getD 0 0 : Int) : Rat)) ∧ ∃ r, g.race ws u = some r ∧ r = ⟨(List.range ws.length).map fun i => Rw.q (P i), Rw.q T⟩ ∧ r.told = outc g ws u := by
  have T := states_stFrom ws u
  have np := stFrom_pos ws u
  obtain ⟨d0, y, hy, hA, hB, ht⟩ := left_y hp hne F hl hw u
  obtain ⟨v, G⟩ := goodS (sts := stFrom ws u) hp hne F hl hw T
  have rl : (rowsS g.weights (stFrom ws u) ws).length = (stFrom ws u).length := rowsS_len
  have tame : Tame (rowsS g.weights (stFrom ws u) ws) := by
    refine tame_of (rowsS_row (g := g) (sts := stFrom ws u) (ws := ws)) (v := v) (by rw [rl]; exact G) (by rw [rl]; exact hn) fun s c hs => ?_
    rw [rl] at hs
    have := RS_bound (g := g) hp T hs (c := c)
    have e30 : ((30 : Nat) : Rat) = 30 := rfl
    rw [e30]
    show -30 ≤ rr (RS g (stFrom ws u) ws) s c ∧ rr (RS g (stFrom ws u) ws) s c ≤ 30
    constructor <;> grind
  have nn : ∀ i, i ≤ ws.length → 0 ≤ (leftS g ws u).getD ((stFrom ws u).length + i) 0 := by
    intro i hi
    have : (0 : Rat) ≤ (((leftS g ws u).getD ((stFrom ws u).length + i) 0 : Int) : Rat) := by
      by_cases c : i < ws.length
      · rw [hB i c]
        exact Rw.S_nonneg fun s hs => Rat.mul_nonneg (hy s hs) (B_nonneg hp)
      · have : i = ws.length := by omega
        rw [this, ht]
        exact Rw.S_nonneg fun s hs => Rat.mul_nonneg (hy s hs) (Rat.le_of_lt (Rw.tot_pos hp hne))
    exact Rat.intCast_nonneg.mp this
  have sm : Sm ((leftS g ws u).getD 0 0) := by
    obtain ⟨_, _, h3⟩ := tame ((stFrom ws u).length - 1) (by rw [rl]; omega)
    have l1 := fuSt_len (rowsS g.weights (stFrom ws u) ws) ((stFrom ws u).length - 1) (by rw [rl]; omega)
    rw [rl] at l1
    have mem : leftS g ws u ∈ (fuSt (rowsS g.weights (stFrom ws u) ws) ((stFrom ws u).length - 1)).1 := by
      show (fuSt _ ((rowsS g.weights (stFrom ws u) ws).length - 1)).1.getD 0 [] ∈ _
      rw [rl]
      exact getDL_mem (by omega)
    have len : (leftS g ws u).length = (stFrom ws u).length + ws.length + 1 := fuSt_row (rowsS_row (g := g) (sts := stFrom ws u) (ws := ws)) _ (by rw [rl]; omega) _ mem
    refine h3 _ mem _ ?_
    rw [List.getD_eq_getElem?_getD, List.getElem?_eq_getElem (by omega)]
    exact List.getElem_mem _
  have dne : (((leftS g ws u).getD 0 0 : Int) : Rat) ≠ 0 := by
    have : (0 : Rat) < (((leftS g ws u).getD 0 0 : Int) : Rat) := Rat.intCast_pos.mpr d0
    grind
  have hc : Rw.Conway g ws u (fun i => S (stFrom ws u).length (fun s => y s * B g (winS (stFrom ws u) ws) s i) / (((leftS g ws u).getD 0 0 : Int) : Rat)) (S (stFrom ws u).length (fun s => y s * tot g) / (((leftS g ws u).getD 0 0 : Int) : Rat)) :=
    Rw.conway hp F hl (chainS (g := g) F T) (t0 := 0) np (fun j hj => by rw [stFrom_zero]; exact Rw.C_lp (states_stOf ws) hu hj) dne hA
  refine ⟨tame, d0, sm, nn, _, _, hc, fun i hi => by rw [hB i hi], _, Rw.race_q hp hne F hl hw (chainS (g := g) F T) hc, rfl, ?_⟩
  rw [Rw.race_told (p := fun i => ((leftS g ws u).getD ((stFrom ws u).length + i) 0).toNat) (t := ((leftS g ws u).getD ((stFrom ws u).length + ws.length) 0).toNat) (d := ((leftS g ws u).getD 0 0).toNat) (by omega)
    (fun i hi => by rw [to_rat (nn i (by omega)), to_rat (by omega), hB i hi]) (by rw [to_rat (nn _ (Nat.le_refl _)), to_rat (by omega), ht])]
  rfl
/-- every word may be the first -/
theorem chance_pos (hp : Rw.Pos g) (hne : g.weights ≠ []) (F : Free ws) (hl : ∀ j, j < ws.length → Rw.Let g (W ws j)) {i : Nat} (hi : i < ws.length) : 0 < (leftS g ws []).getD ((stFrom ws []).length + i) 0 := by
  have hw : ws ≠ [] := by
    intro e
    rw [e] at hi
    exact absurd hi (Nat.not_lt_zero i)
  have T := states_stFrom ws []
  have np := stFrom_pos ws []
  obtain ⟨d0, y, hy, hA, hB, _⟩ := left_y hp hne F hl hw []
  have tp := Rw.tot_pos hp hne
  have dR : (0 : Rat) < (((leftS g ws []).getD 0 0 : Int) : Rat) := Rat.intCast_pos.mpr d0
  generalize hsts : stFrom ws [] = sts at *
  have m0 : ∀ s t, 0 ≤ S g.weights.length (fun x => if winS sts ws s x = none ∧ nxtS sts s x = t then wt g x else 0) := fun s t => Rw.S_nonneg fun x hx => by
    split
    · exact Rat.le_of_lt (Rw.wt_pos hp hx)
    · exact Rat.le_refl
  have bal : ∀ t, t < sts.length → tot g * y t = (((leftS g ws []).getD 0 0 : Int) : Rat) * Rw.one 0 t + S sts.length (fun s => y s * S g.weights.length (fun x => if winS sts ws s x = none ∧ nxtS sts s x = t then wt g x else 0)) := by
    intro t ht
    rw [← hA t ht]
    have e1 : S sts.length (fun s => y s * A g (winS sts ws) (nxtS sts) s t) = S sts.length (fun s => tot g * y s * Rw.one t s) - S sts.length (fun s => y s * S g.weights.length (fun x => if winS sts ws s x = none ∧ nxtS sts s x = t then wt g x else 0)) := by
      rw [← Rw.S_sub]
      refine Rw.S_congr fun s _ => ?_
      have : Rw.one s t = Rw.one t s := by
        by_cases c : s = t
        · subst c; rfl
        · rw [Rw.one_ne c, Rw.one_ne (Ne.symm c)]
      show y s * (tot g * Rw.one s t - _) = _
      rw [this]
      grind
    rw [e1, Rw.S_pick ht]
    grind
  have one0 : ∀ t, 0 ≤ Rw.one 0 t := by
    intro t
    unfold Rw.one
    split
    · decide
    · exact Rat.le_refl
  have up : ∀ t s x, t < sts.length → s < sts.length → x < g.weights.length → winS sts ws s x = none → nxtS sts s x = t → 0 < y s → 0 < y t := by
    intro t s x ht hs hx h1 h2 h3
    have e := bal t ht
    have g1 := Rw.S_ge_one (f := fun s => y s * S g.weights.length (fun x => if winS sts ws s x = none ∧ nxtS sts s x = t then wt g x else 0)) hs fun r hr => Rat.mul_nonneg (hy r hr) (m0 r t)
    have g2 := Rw.S_ge_one (f := fun x => if winS sts ws s x = none ∧ nxtS sts s x = t then wt g x else 0) hx fun z hz => by
      split
      · exact Rat.le_of_lt (Rw.wt_pos hp hz)
      · exact Rat.le_refl
    rw [if_pos ⟨h1, h2⟩] at g2
    have wp := Rw.wt_pos hp hx
    have g3 : 0 < y s * S g.weights.length (fun x => if winS sts ws s x = none ∧ nxtS sts s x = t then wt g x else 0) := Rat.mul_pos h3 (by grind)
    have g4 : 0 ≤ (((leftS g ws []).getD 0 0 : Int) : Rat) * Rw.one 0 t := Rat.mul_nonneg (Rat.le_of_lt dR) (one0 t)
    have g5 : 0 < tot g * y t := by grind
    apply Classical.byContradiction
    intro z
    have : y t = 0 := by have := hy t ht; grind
    rw [this] at g5
    grind
  have y0 : 0 < y 0 := by
    have e := bal 0 np
    rw [Rw.one_self] at e
    have g1 : 0 ≤ S sts.length (fun s => y s * S g.weights.length (fun x => if winS sts ws s x = none ∧ nxtS sts s x = 0 then wt g x else 0)) := Rw.S_nonneg fun r hr => Rat.mul_nonneg (hy r hr) (m0 r 0)
    have g5 : 0 < tot g * y 0 := by grind
    apply Classical.byContradiction
    intro z
    have : y 0 = 0 := by have := hy 0 np; grind
    rw [this] at g5
    grind
  have memp : ∀ k, k < (W ws i).length → (W ws i).take k ∈ sts := fun k hk => T.all _ _ (Rw.W_mem hi) (List.take_prefix _ _) (fun e => by
    have := congrArg List.length e
    rw [List.length_take] at this
    omega)
  have z0 : W sts 0 = [] := by rw [← hsts, stFrom_zero]; rfl
  have nd : sts.Nodup := hsts ▸ stFrom_nodup ws []
  have path : ∀ k, k < (W ws i).length → 0 < y (sts.idxOf ((W ws i).take k)) := by
    intro k
    induction k with
    | zero =>
      intro _
      rw [List.take_zero, ← z0, idx_of nd np]
      exact y0
    | succ k ih =>
      intro hk
      have m1 := memp k (by omega)
      have m2 := memp (k + 1) hk
      have eW : W sts (sts.idxOf ((W ws i).take k)) ++ [(W ws i)[k]] = (W ws i).take (k + 1) := by
        rw [idx_W m1]
        exact (Rw.take_snoc (by omega)).symm
      have hx : (W ws i)[k] < g.weights.length := hl i hi _ (List.getElem_mem _)
      refine up _ _ (W ws i)[k] (idx_lt m2) (idx_lt m1) hx ?_ ?_ (ih (by omega))
      · show Uw53.ended ws (W sts (sts.idxOf ((W ws i).take k)) ++ [(W ws i)[k]]) = none
        rw [eW]
        exact Rw.ended_none.mpr fun j hj h => Rw.clean_state F T m2 j hj h.isInfix
      · show sts.idxOf (lp sts (W sts (sts.idxOf ((W ws i).take k)) ++ [(W ws i)[k]])) = _
        rw [eW, Rw.lp_eq T.nil m2 List.suffix_rfl fun z _ hz => hz.length_le]
  have wl : 0 < (W ws i).length := List.length_pos_iff.mpr (F.ne i hi)
  have k1 : (W ws i).length - 1 < (W ws i).length := by omega
  have m1 := memp ((W ws i).length - 1) k1
  have eW : W sts (sts.idxOf ((W ws i).take ((W ws i).length - 1))) ++ [(W ws i)[(W ws i).length - 1]] = W ws i := by
    rw [idx_W m1, ← Rw.take_snoc k1]
    exact List.take_of_length_le (by omega)
  have hx : (W ws i)[(W ws i).length - 1] < g.weights.length := hl i hi _ (List.getElem_mem _)
  have win : winS sts ws (sts.idxOf ((W ws i).take ((W ws i).length - 1))) (W ws i)[(W ws i).length - 1] = some i := by
    show Uw53.ended ws (W sts (sts.idxOf ((W ws i).take ((W ws i).length - 1))) ++ [(W ws i)[(W ws i).length - 1]]) = some i
    rw [eW]
    cases e : Uw53.ended ws (W ws i) with
    | none => exact absurd List.suffix_rfl (Rw.ended_none.mp e i hi)
    | some j =>
      obtain ⟨hj, hs⟩ := Rw.ended_some e
      rw [Rw.ended_unique F hj hi hs List.suffix_rfl]
  have b1 := Rw.S_ge_one (f := fun x => if winS sts ws (sts.idxOf ((W ws i).take ((W ws i).length - 1))) x = some i then wt g x else 0) hx fun z hz => by
    split
    · exact Rat.le_of_lt (Rw.wt_pos hp hz)
    · exact Rat.le_refl
  rw [if_pos win] at b1
  have wp := Rw.wt_pos hp hx
  have yp := path _ k1
  have b2 := Rw.S_ge_one (f := fun s => y s * B g (winS sts ws) s i) (idx_lt m1) fun s hs => Rat.mul_nonneg (hy s hs) (B_nonneg hp)
  have b3 : 0 < y (sts.idxOf ((W ws i).take ((W ws i).length - 1))) * B g (winS sts ws) (sts.idxOf ((W ws i).take ((W ws i).length - 1))) i := Rat.mul_pos yp (by
    show 0 < S g.weights.length _
    grind)
  have : (0 : Rat) < (((leftS g ws []).getD (sts.length + i) 0 : Int) : Rat) := by
    rw [hB i hi]
    grind
  exact Rat.intCast_pos.mp this
end
end Rt
/-! How a race stands after some letters, as the program reckons it. -/
namespace Rt
open Rw (Free States Clean lp W low N agg)
def addAt (l : List Nat) (p v : Nat) : List Nat := l.set p (l.getD p 0 + v)
/-- a state's letters: the first i -/
def inTo (c : Nat) (ps w l : List Nat) : Nat → List Nat
  | 0 => l
  | i + 1 => addAt (inTo c ps w l i) (ps.getD i 0) (c * w.getD i 0)
/-- the first s states -/
def ouTo (w ch : List Nat) (mv : List (List Nat)) : Nat → List Nat
  | 0 => List.replicate mv.length 0 ++ (ch.drop mv.length).map fun c => c * w.sum
  | s + 1 => inTo (ch.getD s 0) (mv.getD s []) w (ouTo w ch mv s) w.length
def chTo (w : List Nat) (sts ws : List (List Nat)) : Nat → List Nat
  | 0 => 1 :: List.replicate (sts.length - 1 + ws.length) 0
  | n + 1 => ouTo w (chTo w sts ws n) (mvsOf sts ws w.length) sts.length
theorem addAt_len (l : List Nat) (p v : Nat) : (addAt l p v).length = l.length := List.length_set ..
theorem inTo_len (c : Nat) (ps w l : List Nat) : ∀ i, (inTo c ps w l i).length = l.length
  | 0 => rfl
  | i + 1 => (addAt_len ..).trans (inTo_len c ps w l i)
theorem ouTo_len {w ch : List Nat} {mv : List (List Nat)} (h : mv.length ≤ ch.length) : ∀ s, (ouTo w ch mv s).length = ch.length
  | 0 => by
    show (List.replicate mv.length 0 ++ (ch.drop mv.length).map _).length = _
    rw [List.length_append, List.length_replicate, List.length_map, List.length_drop]
    omega
  | s + 1 => (inTo_len ..).trans (ouTo_len h s)
theorem addAt_get {l : List Nat} {p v j : Nat} (hp : p < l.length) : (addAt l p v).getD j 0 = l.getD j 0 + if p = j then v else 0 := by
  unfold addAt
  rw [List.getD_eq_getElem?_getD, List.getElem?_set]
  by_cases c : p = j
  · subst c
    rw [if_pos rfl, if_pos hp, if_pos rfl]
    rfl
  · rw [if_neg c, if_neg c, ← List.getD_eq_getElem?_getD]
    rfl
theorem addAt_sum : ∀ (l : List Nat) (p v : Nat), p < l.length → (addAt l p v).sum = l.sum + v
  | [], _, _, h => absurd h (Nat.not_lt_zero _)
  | x :: l, 0, v, _ => by
    show (x + v) + l.sum = (x + l.sum) + v
    omega
  | x :: l, p + 1, v, h => by
    have ih := addAt_sum l p v (Nat.lt_of_succ_lt_succ h)
    show x + (addAt l p v).sum = (x + l.sum) + v
    omega
theorem inTo_get {c : Nat} {ps w l : List Nat} (hp : ∀ i, i < w.length → ps.getD i 0 < l.length) {j : Nat} : ∀ i, i ≤ w.length → (inTo c ps w l i).getD j 0 = l.getD j 0 + N i (fun x => if ps.getD x 0 = j then c * w.getD x 0 else 0)
  | 0, _ => rfl
  | i + 1, h => by
    show (addAt (inTo c ps w l i) (ps.getD i 0) (c * w.getD i 0)).getD j 0 = l.getD j 0 + (N i _ + _)
    rw [addAt_get (by rw [inTo_len]; exact hp i (by omega)), inTo_get hp i (by omega)]
    exact Nat.add_assoc _ _ _
theorem inTo_sum {c : Nat} {ps w l : List Nat} (hp : ∀ i, i < w.length → ps.getD i 0 < l.length) : ∀ i, i ≤ w.length → (inTo c ps w l i).sum = l.sum + c * (w.take i).sum
  | 0, _ => by rw [List.take_zero]; rfl
  | i + 1, h => by
    show (addAt (inTo c ps w l i) (ps.getD i 0) (c * w.getD i 0)).sum = _
    rw [addAt_sum _ _ _ (by rw [inTo_len]; exact hp i (by omega)), inTo_sum hp i (by omega), Rw.take_snoc (by omega), List.sum_append, Nat.mul_add, List.getD_eq_getElem?_getD, List.getElem?_eq_getElem (by omega)]
    show _ = l.sum + (c * (w.take i).sum + c * (w[i] + 0))
    rw [Nat.add_zero, Nat.add_assoc]
    rfl
theorem sum_mul_r (l : List Nat) (k : Nat) : (l.map fun c => c * k).sum = l.sum * k := by
  induction l with
  | nil => exact (Nat.zero_mul k).symm
  | cons x l ih => rw [List.map_cons, List.sum_cons, ih, List.sum_cons, Nat.add_mul]
theorem sum_zeros : ∀ k : Nat, (List.replicate k 0).sum = 0
  | 0 => rfl
  | k + 1 => by rw [List.replicate_succ, List.sum_cons, sum_zeros k]
theorem ouTo_sum {w ch : List Nat} {mv : List (List Nat)} (h : mv.length ≤ ch.length) (hp : ∀ s i, s < mv.length → i < w.length → (mv.getD s []).getD i 0 < ch.length) : ∀ s, s ≤ mv.length → (ouTo w ch mv s).sum = (ch.drop mv.length).sum * w.sum + (ch.take s).sum * w.sum
  | 0, _ => by
    show (List.replicate mv.length 0 ++ (ch.drop mv.length).map _).sum = _
    rw [List.sum_append, sum_zeros, sum_mul_r, List.take_zero]
    show 0 + _ = _ + 0 * w.sum
    rw [Nat.zero_mul, Nat.zero_add, Nat.add_zero]
  | s + 1, hs => by
    show (inTo (ch.getD s 0) (mv.getD s []) w (ouTo w ch mv s) w.length).sum = _
    rw [inTo_sum (fun i hi => by rw [ouTo_len h]; exact hp s i (by omega) hi) _ (Nat.le_refl _), ouTo_sum h hp s (by omega), List.take_length, Rw.take_snoc (by omega), List.sum_append, Nat.add_mul, Nat.add_assoc, List.getD_eq_getElem?_getD, List.getElem?_eq_getElem (by omega)]
    rfl
theorem ouTo_get {w ch : List Nat} {mv : List (List Nat)} (h : mv.length ≤ ch.length) (hp : ∀ s i, s < mv.length → i < w.length → (mv.getD s []).getD i 0 < ch.length) {j : Nat} : ∀ s, s ≤ mv.length →
    (ouTo w ch mv s).getD j 0 = (if j < mv.length then 0 else ch.getD j 0 * w.sum) + N s (fun s => N w.length (fun x => if (mv.getD s []).getD x 0 = j then ch.getD s 0 * w.getD x 0 else 0))
  | 0, _ => by
    show (List.replicate mv.length 0 ++ (ch.drop mv.length).map _).getD j 0 = _ + 0
    rw [Nat.add_zero]
    by_cases c : j < mv.length
    · rw [if_pos c, List.getD_eq_getElem?_getD, List.getElem?_append_left (by rw [List.length_replicate]; exact c), List.getElem?_replicate, if_pos c]
      rfl
    · rw [if_neg c, List.getD_eq_getElem?_getD, List.getElem?_append_right (by rw [List.length_replicate]; omega), List.length_replicate, List.getElem?_map, List.getElem?_drop, List.getD_eq_getElem?_getD]
      have e : mv.length + (j - mv.length) = j := by omega
      rw [e]
      cases ch[j]? with
      | none => exact (Nat.zero_mul _).symm
      | some x => rfl
  | s + 1, hs => by
    show (inTo (ch.getD s 0) (mv.getD s []) w (ouTo w ch mv s) w.length).getD j 0 = _ + (N s _ + _)
    rw [inTo_get (fun i hi => by rw [ouTo_len h]; exact hp s i (by omega) hi) _ (Nat.le_refl _), ouTo_get h hp s (by omega)]
    exact Nat.add_assoc _ _ _
section
variable {g : Uw53.Game} {ws : List (List Nat)}
theorem mvs_len (sts ws : List (List Nat)) (k : Nat) : (mvsOf sts ws k).length = sts.length := List.length_map ..
theorem mvs_at {sts ws : List (List Nat)} {k s x : Nat} (hs : s < sts.length) (hx : x < k) : ((mvsOf sts ws k).getD s []).getD x 0 = mvS sts ws s x := by
  have : (mvsOf sts ws k).getD s [] = mvOf sts ws k (W sts s) := by
    unfold mvsOf W
    rw [List.getD_eq_getElem?_getD, List.getElem?_map, List.getD_eq_getElem?_getD, List.getElem?_eq_getElem hs]
    rfl
  rw [this, mvOf_at hx]
theorem chTo_len {w : List Nat} {sts : List (List Nat)} (h : 0 < sts.length) : ∀ n, (chTo w sts ws n).length = sts.length + ws.length
  | 0 => by
    show (List.replicate _ 0).length + 1 = _
    rw [List.length_replicate]
    omega
  | n + 1 => by
    have ih := chTo_len (w := w) h n
    show (ouTo w (chTo w sts ws n) (mvsOf sts ws w.length) sts.length).length = _
    rw [ouTo_len (by rw [mvs_len, ih]; omega), ih]
theorem stOf_pos (ws : List (List Nat)) : 0 < (stOf ws).length := by
  obtain ⟨l, h⟩ := stOf_zero ws
  rw [h]
  exact Nat.succ_pos _
theorem all_sum (g : Uw53.Game) : g.all = g.weights.sum := by
  have key : ∀ (l : List Nat) (a : Nat), l.foldl (fun a b => a + b) a = a + l.sum := by
    intro l
    induction l with
    | nil => intro a; rfl
    | cons x l ih => intro a; rw [List.foldl_cons, ih, List.sum_cons]; omega
  show g.weights.foldl (fun a b => a + b) 0 = _
  rw [key]
  omega
theorem mv_lt (T : States ws (stOf ws)) (k : Nat) : ∀ s i, s < (mvsOf (stOf ws) ws k).length → i < k → ((mvsOf (stOf ws) ws k).getD s []).getD i 0 < (stOf ws).length + ws.length := by
  intro s i hs hi
  rw [mvs_len] at hs
  rw [mvs_at hs hi]
  exact mvS_lt T s i
theorem chTo_sum (n : Nat) : (chTo g.weights (stOf ws) ws n).sum = g.all ^ n := by
  have T := states_stOf ws
  induction n with
  | zero =>
    show 1 + (List.replicate _ 0).sum = 1
    rw [sum_zeros]
  | succ n ih =>
    have hl := chTo_len (w := g.weights) (ws := ws) (stOf_pos ws) n
    show (ouTo g.weights (chTo g.weights (stOf ws) ws n) (mvsOf (stOf ws) ws g.weights.length) (stOf ws).length).sum = _
    rw [ouTo_sum (by rw [mvs_len, hl]; omega) (by rw [hl]; exact mv_lt T _) _ (by rw [mvs_len]; exact Nat.le_refl _), mvs_len, ← Nat.add_mul, Nat.add_comm (List.sum _), ← List.sum_append, List.take_append_drop, ih, Nat.pow_succ, all_sum]
/-- what the program reckons is what the specification gathers -/
theorem chTo_told (F : Free ws) (n : Nat) : (∀ s, s < (stOf ws).length → (chTo g.weights (stOf ws) ws n).getD s 0 = agg (stOf ws) (g.far ws n).rows (W (stOf ws) s)) ∧
    ∀ i, i < ws.length → (chTo g.weights (stOf ws) ws n).getD ((stOf ws).length + i) 0 = (g.far ws n).done.getD i 0 := by
  have T := states_stOf ws
  have nd := stOf_nodup ws
  obtain ⟨l0, h0⟩ := stOf_zero ws
  induction n with
  | zero =>
    constructor
    · intro s hs
      show (1 :: List.replicate _ 0).getD s 0 = (if lp (stOf ws) [] = W (stOf ws) s then 1 else 0) + 0
      cases s with
      | zero =>
        rw [if_pos (by rw [h0]; rfl)]
        rfl
      | succ s =>
        rw [if_neg, List.getD_cons_succ, List.getD_eq_getElem?_getD, List.getElem?_replicate]
        · split <;> rfl
        · intro e
          have e0 : W (stOf ws) 0 = [] := by rw [h0]; rfl
          have : W (stOf ws) 0 = W (stOf ws) (s + 1) := e0.trans e
          have := W_inj nd (stOf_pos ws) hs this
          omega
    · intro i hi
      have p := stOf_pos ws
      obtain ⟨k, hk⟩ : ∃ k, (stOf ws).length + i = k + 1 := ⟨(stOf ws).length + i - 1, by omega⟩
      show (1 :: List.replicate _ 0).getD ((stOf ws).length + i) 0 = (ws.map fun _ => 0).getD i 0
      rw [hk, List.getD_cons_succ, List.getD_eq_getElem?_getD, List.getElem?_replicate, List.getD_eq_getElem?_getD, List.getElem?_map, List.getElem?_eq_getElem hi]
      split <;> rfl
  | succ n ih =>
    obtain ⟨ih1, ih2⟩ := ih
    have hl := chTo_len (w := g.weights) (ws := ws) (stOf_pos ws) n
    obtain ⟨_, f2, f3⟩ := Rw.further_told F T nd (Rw.far_told (g := g) F T nd n)
    have get := fun j => ouTo_get (w := g.weights) (ch := chTo g.weights (stOf ws) ws n) (mv := mvsOf (stOf ws) ws g.weights.length) (j := j) (by rw [mvs_len, hl]; omega) (by rw [hl]; exact mv_lt T _) (stOf ws).length (by rw [mvs_len]; exact Nat.le_refl _)
    have inner : ∀ (j : Nat) (q : Nat → Nat → Prop) [∀ s x, Decidable (q s x)], (∀ s x, s < (stOf ws).length → x < g.weights.length → (mvS (stOf ws) ws s x = j ↔ q s x)) →
        N (stOf ws).length (fun s => N g.weights.length (fun x => if ((mvsOf (stOf ws) ws g.weights.length).getD s []).getD x 0 = j then (chTo g.weights (stOf ws) ws n).getD s 0 * g.weights.getD x 0 else 0)) =
        N (stOf ws).length (fun s => agg (stOf ws) (g.far ws n).rows (W (stOf ws) s) * N g.weights.length (fun x => if q s x then g.weight x else 0)) := by
      intro j q _ hq
      refine Rw.N_congr fun s hs => ?_
      rw [← Rw.N_mul]
      refine Rw.N_congr fun x hx => ?_
      rw [mvs_at hs hx, ih1 s hs]
      by_cases c : mvS (stOf ws) ws s x = j
      · rw [if_pos c, if_pos ((hq s x hs hx).mp c)]
        rfl
      · rw [if_neg c, if_neg (fun z => c ((hq s x hs hx).mpr z)), Nat.mul_zero]
    constructor
    · intro t ht
      show (ouTo g.weights (chTo g.weights (stOf ws) ws n) (mvsOf (stOf ws) ws g.weights.length) (stOf ws).length).getD t 0 = agg (stOf ws) (g.further ws (g.far ws n)).rows (W (stOf ws) t)
      rw [get t, mvs_len, if_pos ht, Nat.zero_add, f2, inner t (fun s x => Uw53.ended ws (W (stOf ws) s ++ [x]) = none ∧ lp (stOf ws) (W (stOf ws) s ++ [x]) = W (stOf ws) t)]
      intro s x _ _
      rw [mvS_state ht]
      constructor
      · rintro ⟨h1, h2⟩
        refine ⟨h1, ?_⟩
        rw [← h2]
        exact (idx_W (Rw.lp_mem T.nil _)).symm
      · rintro ⟨h1, h2⟩
        refine ⟨h1, ?_⟩
        show (stOf ws).idxOf (lp (stOf ws) (W (stOf ws) s ++ [x])) = t
        rw [h2]
        exact idx_of nd ht
    · intro i hi
      show (ouTo g.weights (chTo g.weights (stOf ws) ws n) (mvsOf (stOf ws) ws g.weights.length) (stOf ws).length).getD ((stOf ws).length + i) 0 = (g.further ws (g.far ws n)).done.getD i 0
      rw [get, mvs_len, if_neg (by omega), f3 i hi, ih2 i hi, all_sum, inner ((stOf ws).length + i) (fun s x => Uw53.ended ws (W (stOf ws) s ++ [x]) = some i)]
      intro s x _ _
      exact mvS_word T
/-- what the program tells -/
def stdL (w : List Nat) (ws : List (List Nat)) (n : Nat) : List Int := low ((chTo w (stOf ws) ws n).take (stOf ws).length).sum (chTo w (stOf ws) ws n).sum ++ ((chTo w (stOf ws) ws n).drop (stOf ws).length).flatMap fun c => low c (chTo w (stOf ws) ws n).sum
theorem sum_N : ∀ (l : List Nat), l.sum = N l.length (fun i => l.getD i 0) := by
  intro l
  induction l using Rw.snocInd with
  | h0 => rfl
  | h1 l x ih =>
    rw [List.sum_append, List.length_append, ih]
    show _ = N l.length _ + _
    have e : N l.length (fun i => (l ++ [x]).getD i 0) = N l.length (fun i => l.getD i 0) := Rw.N_congr fun i hi => by
      rw [List.getD_eq_getElem?_getD, List.getElem?_append_left hi, List.getD_eq_getElem?_getD]
    rw [e]
    show _ = _ + (l ++ [x]).getD l.length 0
    rw [List.getD_eq_getElem?_getD, List.getElem?_append_right (Nat.le_refl _), Nat.sub_self]
    rfl
theorem std_ok (hp : 0 < g.all) (F : Free ws) (n : Nat) : stdL g.weights ws n = (Uw53.frac (g.open_ ws n : Int) (g.all ^ n)).told ++ (g.far ws n).done.flatMap fun (k : Nat) => (Uw53.frac (k : Int) (g.all ^ n)).told := by
  have T := states_stOf ws
  have nd := stOf_nodup ws
  obtain ⟨t1, t2⟩ := chTo_told (g := g) F n
  have hl := chTo_len (w := g.weights) (ws := ws) (stOf_pos ws) n
  have dl := (Rw.far_told (g := g) F T nd n).len
  have ap : 0 < g.all ^ n := Nat.pow_pos hp
  have e1 : ((chTo g.weights (stOf ws) ws n).take (stOf ws).length).sum = g.open_ ws n := by
    rw [Rw.open_told T nd, sum_N, List.length_take, hl, Nat.min_eq_left (by omega)]
    refine Rw.N_congr fun s hs => ?_
    rw [← t1 s hs, List.getD_eq_getElem?_getD, List.getElem?_take_of_lt hs, List.getD_eq_getElem?_getD]
  have e2 : (chTo g.weights (stOf ws) ws n).drop (stOf ws).length = (g.far ws n).done := by
    refine List.ext_getElem (by rw [List.length_drop, hl, dl]; omega) fun i h1 h2 => ?_
    have hi : i < ws.length := by rw [dl] at h2; exact h2
    have := t2 i hi
    rw [List.getD_eq_getElem?_getD, List.getElem?_eq_getElem (by omega), List.getD_eq_getElem?_getD, List.getElem?_eq_getElem h2] at this
    rw [List.getElem_drop]
    exact this
  unfold stdL
  rw [e1, e2, chTo_sum, Rw.frac_low ap]
  congr 1
  rw [List.flatMap_def, List.flatMap_def]
  congr 1
  exact List.map_congr_left fun k _ => (Rw.frac_low ap).symm
end
end Rt
/-! Words against one another: one race of two, the best reply. -/
namespace Rt
open Rw (Free States Clean lp W S wt tot low)
open Uw53 (Game Q)
/-- what a race asks -/
structure Fit (g : Game) (ws : List (List Nat)) (u : List Nat) : Prop where
  pos : Rw.Pos g
  ne : g.weights ≠ []
  t30 : Rw.tot g ≤ 30
  free : Rw.Free ws
  lets : ∀ j, j < ws.length → Rw.Let g (W ws j)
  some_ : ws ≠ []
  clean : Rw.Clean ws u
  l10 : g.weights.length ≤ 10
  n4 : ws.length ≤ 4
  w5 : ∀ w, w ∈ ws → w.length ≤ 5
theorem fit_states {g : Game} {ws : List (List Nat)} {u : List Nat} (h : Fit g ws u) : (stFrom ws u).length ≤ 50 := by
  have h1 := stFrom_len ws u
  have h2 := stOf_len ws 5 h.w5
  have := h.n4
  omega
theorem fit_words {g : Game} (h : Rw.Sound g) (hw : g.words ≠ []) {u : List Nat} (hu : Clean g.words u) : Fit g g.words u :=
  ⟨h.pos, h.ne, h.tot30, h.free, h.let_, hw, hu, by have := h.w3; omega, h.n4, fun w hw => (Rw.fine_iff.mp (h.fine w hw)).2.1⟩
theorem infix_eq {v w : List Nat} (h : v <:+: w) (l : v.length = w.length) : v = w := h.eq_of_length l
theorem fit_two {g : Game} (h : Rw.Sound g) {v w : List Nat} (hv : g.fine v = true) (hw : g.fine w = true) (l : v.length = w.length) (ne : v ≠ w) : Fit g [v, w] [] := by
  obtain ⟨v1, v5, vl⟩ := Rw.fine_iff.mp hv
  obtain ⟨w1, w5, wl⟩ := Rw.fine_iff.mp hw
  have F : Free [v, w] := by
    refine ⟨fun i hi e => ?_, fun i j hi hj ij e => ?_⟩
    · have hi : i < 2 := hi
      match i, hi with
      | 0, _ => have e : v = [] := e; rw [e] at v1; exact absurd v1 (by decide)
      | 1, _ => have e : w = [] := e; rw [e] at w1; exact absurd w1 (by decide)
    · have hi : i < 2 := hi
      have hj : j < 2 := hj
      match i, j, hi, hj with
      | 0, 0, _, _ => exact ij rfl
      | 1, 1, _, _ => exact ij rfl
      | 0, 1, _, _ => exact ne (infix_eq e l)
      | 1, 0, _, _ => exact ne (infix_eq e l.symm).symm
  refine ⟨h.pos, h.ne, h.tot30, F, fun j hj => ?_, by simp, Rw.clean_nil F, by have := h.w3; omega, by show 2 ≤ 4; decide, fun x hx => ?_⟩
  · have hj : j < 2 := hj
    match j, hj with
    | 0, _ => exact vl
    | 1, _ => exact wl
  · rcases List.mem_cons.mp hx with e | hx
    · rw [e]; exact v5
    · rw [List.mem_singleton.mp hx]; exact w5
theorem fit_one {g : Game} (h : Rw.Sound g) {w : List Nat} (hw : g.fine w = true) : Fit g [w] [] := by
  obtain ⟨w1, w5, wl⟩ := Rw.fine_iff.mp hw
  have F : Free [w] := by
    refine ⟨fun i hi e => ?_, fun i j hi hj ij e => ?_⟩
    · have hi : i < 1 := hi
      match i, hi with
      | 0, _ => have e : w = [] := e; rw [e] at w1; exact absurd w1 (by decide)
    · have hi : i < 1 := hi
      have hj : j < 1 := hj
      omega
  refine ⟨h.pos, h.ne, h.tot30, F, fun j hj => ?_, by simp, Rw.clean_nil F, by have := h.w3; omega, by show 1 ≤ 4; decide, fun x hx => ?_⟩
  · have hj : j < 1 := hj
    match j, hj with
    | 0, _ => exact wl
  · rw [List.mem_singleton.mp hx]; exact w5
/-- the race of one word: the weighted correlation with itself -/
theorem outc_one {g : Game} (h : Rw.Sound g) {w : List Nat} (hw : g.fine w = true) : (outc g [w] []).take 2 = (g.pays w w).told := by
  have fit := fit_one h hw
  obtain ⟨_, _, _, _, P, T, hc, _, r, _, hr2, hr3⟩ := outc_ok fit.pos fit.ne fit.t30 fit.free fit.lets fit.some_ (fit_states fit) fit.clean
  have e1 := hc.sum
  have e2 := hc.eqs 0 (by show 0 < 1; decide)
  have s1 : ∀ f : Nat → Rat, S ([w] : List (List Nat)).length f = f 0 := fun f => by
    show 0 + f 0 = f 0
    grind
  rw [s1] at e1 e2
  have eT : T = Rw.C g w w := by
    have c0 : Rw.C g [] (W [w] 0) = 0 := Rw.C_nil _
    have w0 : W [w] 0 = w := rfl
    rw [c0, w0, e1] at e2
    grind
  rw [← hr3, hr2, Rw.pays_q h.pos (Rw.fine_iff.mp hw).2.2, eT]
  rfl
/-- one word against another: the chance, and what the program reads of it -/
theorem ahead_two {g : Game} (h : Rw.Sound g) {v w : List Nat} (hv : g.fine v = true) (hw : g.fine w = true) (l : v.length = w.length) (ne : v ≠ w) :
    ∃ p : Rat, g.ahead v w = Rw.q p ∧ g.ahead w v = Rw.q (1 - p) ∧ 0 < p ∧ ((outc g [v, w] []).drop 2).take 2 = (g.ahead v w).told ∧ Sm (g.ahead v w).n ∧ Sm ((g.ahead v w).d : Int) := by
  have fit := fit_two h hv hw l ne
  obtain ⟨_, d0, dS, nn, P, T, hc, hP, r, hr1, hr2, hr3⟩ := outc_ok fit.pos fit.ne fit.t30 fit.free fit.lets fit.some_ (fit_states fit) fit.clean
  have s2 : ∀ f : Nat → Rat, S ([v, w] : List (List Nat)).length f = f 0 + f 1 := fun f => by
    show 0 + f 0 + f 1 = f 0 + f 1
    grind
  have e0 := hc.sum
  have e1 := hc.eqs 0 (by show 0 < 2; decide)
  have e2 := hc.eqs 1 (by show 1 < 2; decide)
  rw [s2] at e0 e1 e2
  have fit2 := fit_two h hw hv l.symm (Ne.symm ne)
  have w0 : W [v, w] 0 = v := rfl
  have w1 : W [v, w] 1 = w := rfl
  have w0' : W [w, v] 0 = w := rfl
  have w1' : W [w, v] 1 = v := rfl
  have t2 : ∀ f : Nat → Rat, S ([w, v] : List (List Nat)).length f = f 0 + f 1 := s2
  have hc2 : Rw.Conway g [w, v] [] (fun i => if i = 0 then P 1 else P 0) T := by
    refine ⟨fun j hj => ?_, ?_⟩
    · have hj : j < 2 := hj
      rw [t2]
      match j, hj with
      | 0, _ =>
        rw [w0', w1', if_pos rfl, if_neg (by decide)]
        rw [w0, w1] at e2
        rw [← e2]
        grind
      | 1, _ =>
        rw [w0', w1', if_pos rfl, if_neg (by decide)]
        rw [w0, w1] at e1
        rw [← e1]
        grind
    · rw [t2, if_pos rfl, if_neg (by decide)]
      grind
  have r2 := Rw.race_q fit2.pos fit2.ne fit2.free fit2.lets fit2.some_ (chainS (g := g) fit2.free (states_stOf [w, v])) hc2
  have a1 : g.ahead v w = Rw.q (P 0) := by
    unfold Game.ahead
    rw [hr1, hr2]
    rfl
  have a2 : g.ahead w v = Rw.q (P 1) := by
    unfold Game.ahead
    rw [r2]
    rfl
  have ep : P 1 = 1 - P 0 := by grind
  have c := chance_pos fit.pos fit.ne fit.free fit.lets (i := 0) (by show 0 < 2; decide)
  have hP0 := hP 0 (by show 0 < 2; decide)
  have hP1 := hP 1 (by show 1 < 2; decide)
  have n0 := nn 0 (Nat.zero_le _)
  have n1 := nn 1 (by show 1 ≤ 2; decide)
  generalize (leftS g [v, w] []).getD ((stFrom [v, w] []).length + 0) 0 = x0 at *
  generalize (leftS g [v, w] []).getD ((stFrom [v, w] []).length + 1) 0 = x1 at *
  generalize (leftS g [v, w] []).getD 0 0 = dd at *
  have le : x0 ≤ dd := by
    have dR : (0 : Rat) < (dd : Rat) := Rat.intCast_pos.mpr d0
    have x1R : (0 : Rat) ≤ (x1 : Rat) := Rat.intCast_nonneg.mpr n1
    have hs : (x0 : Rat) + (x1 : Rat) = (dd : Rat) := by
      rw [hP0, hP1] at e0
      have : (dd : Rat) ≠ 0 := by grind
      grind
    refine Rat.intCast_le_intCast.mp ?_
    grind
  have told : (g.ahead v w).told = low x0.toNat dd.toNat := by
    rw [a1, hP0, ← to_rat n0, ← to_rat (z := dd) (by omega), Rw.q_low (by omega)]
  have small : dd.toNat < 2 ^ 3000 := by
    have h1 : dd.natAbs < 2 ^ 3000 := dS
    omega
  have hn : (g.ahead v w).n = ((x0.toNat / Nat.gcd x0.toNat dd.toNat : Nat) : Int) := (List.cons.inj told).1
  have hd : ((g.ahead v w).d : Int) = ((dd.toNat / Nat.gcd x0.toNat dd.toNat : Nat) : Int) := (List.cons.inj (List.cons.inj told).2).1
  have sm_n : ∀ m : Nat, m < 2 ^ 3000 → Sm ((m : Nat) : Int) := fun m hm => by
    show ((m : Nat) : Int).natAbs < 2 ^ 3000
    rw [Int.natAbs_natCast]
    exact hm
  refine ⟨P 0, a1, by rw [a2, ep], ?_, ?_, ?_, ?_⟩
  · rw [hP0, Rat.div_def]
    exact Rat.mul_pos (Rat.intCast_pos.mpr c) (Rat.inv_pos.mpr (Rat.intCast_pos.mpr d0))
  · rw [← hr3, hr2, a1]
    rfl
  · rw [hn]
    refine sm_n _ (Nat.lt_of_le_of_lt (Nat.div_le_self _ _) (Nat.lt_of_le_of_lt ?_ small))
    omega
  · rw [hd]
    exact sm_n _ (Nat.lt_of_le_of_lt (Nat.div_le_self _ _) small)
/-! ### all words -/
theorem mem_wordsOf (a : Nat) : ∀ (n : Nat) (w : List Nat), w ∈ Uw53.wordsOf a n ↔ w.length = n ∧ ∀ x, x ∈ w → x < a
  | 0, w => by
    show w ∈ [[]] ↔ _
    rw [List.mem_singleton]
    constructor
    · intro e; rw [e]; exact ⟨rfl, fun x hx => absurd hx List.not_mem_nil⟩
    · intro e; exact List.length_eq_zero_iff.mp e.1
  | n + 1, w => by
    show w ∈ (List.range a).flatMap _ ↔ _
    rw [List.mem_flatMap]
    constructor
    · rintro ⟨x, hx, hw⟩
      obtain ⟨v, hv, rfl⟩ := List.mem_map.mp hw
      obtain ⟨h1, h2⟩ := (mem_wordsOf a n v).mp hv
      refine ⟨by rw [List.length_cons, h1], fun y hy => ?_⟩
      rcases List.mem_cons.mp hy with e | hy
      · rw [e]; exact List.mem_range.mp hx
      · exact h2 y hy
    · rintro ⟨h1, h2⟩
      cases w with
      | nil => cases h1
      | cons x v => exact ⟨x, List.mem_range.mpr (h2 x (List.mem_cons_self ..)), List.mem_map.mpr ⟨v, (mem_wordsOf a n v).mpr ⟨Nat.succ.inj h1, fun y hy => h2 y (List.mem_cons_of_mem _ hy)⟩, rfl⟩⟩
theorem wordsOf_nodup (a : Nat) : ∀ n, (Uw53.wordsOf a n).Nodup
  | 0 => List.nodup_cons.mpr ⟨List.not_mem_nil, List.nodup_nil⟩
  | n + 1 => by
    refine List.pairwise_flatMap.mpr ⟨fun x _ => List.pairwise_map.mpr ?_, ?_⟩
    · exact List.Pairwise.imp (fun h e => h (List.cons.inj e).2) (wordsOf_nodup a n)
    · refine List.Pairwise.imp (fun {x y} h u hu v hv e => ?_) (List.nodup_range (n := a))
      obtain ⟨u', _, rfl⟩ := List.mem_map.mp hu
      obtain ⟨v', _, rfl⟩ := List.mem_map.mp hv
      exact h (List.cons.inj e).1
/-! ### the best reply -/
/-- one word more: the best chance so far, and the reply -/
def rpStep (g : Game) (w : List Nat) (b : Q × List Nat) (v : List Nat) : Q × List Nat := if v = w then b else if Uw53.less b.1 (g.ahead v w) = true then (g.ahead v w, v) else b
def rpTo (g : Game) (w : List Nat) (l : List (List Nat)) : Q × List Nat := l.foldl (rpStep g w) (⟨0, 1⟩, [])
def spStep (g : Game) (w : List Nat) (b : Option (List Nat × Q)) (v : List Nat) : Option (List Nat × Q) := let q := g.ahead v w
  match b with
  | none => some (v, q)
  | some x => if Uw53.less x.2 q = true then some (v, q) else some x
def Alike (b : Option (List Nat × Q)) (p : Q × List Nat) : Prop := match b with
  | none => p = (⟨0, 1⟩, [])
  | some x => p = (x.2, x.1)
theorem fine_of {g : Game} {w v : List Nat} (hw : g.fine w = true) (hv : v ∈ Uw53.wordsOf g.weights.length w.length) : g.fine v = true ∧ v.length = w.length := by
  obtain ⟨h1, h2⟩ := (mem_wordsOf _ _ v).mp hv
  obtain ⟨w1, w5, _⟩ := Rw.fine_iff.mp hw
  exact ⟨Rw.fine_iff.mpr ⟨by omega, by omega, h2⟩, h1⟩
theorem rp_alike {g : Game} (h : Rw.Sound g) {w : List Nat} (hw : g.fine w = true) : ∀ (l : List (List Nat)) (b : Option (List Nat × Q)) (p : Q × List Nat), (∀ v, v ∈ l → v ∈ Uw53.wordsOf g.weights.length w.length) → Alike b p →
    Alike ((l.filter fun v => v != w).foldl (spStep g w) b) (l.foldl (rpStep g w) p)
  | [], _, _, _, a => a
  | v :: l, b, p, hl, a => by
    have hl2 : ∀ u, u ∈ l → u ∈ Uw53.wordsOf g.weights.length w.length := fun u hu => hl u (List.mem_cons_of_mem _ hu)
    rw [List.foldl_cons]
    by_cases c : v = w
    · rw [List.filter_cons_of_neg (by rw [c]; simp)]
      have e : rpStep g w p v = p := if_pos c
      rw [e]
      exact rp_alike h hw l b p hl2 a
    · rw [List.filter_cons_of_pos (by simp [c]), List.foldl_cons]
      refine rp_alike h hw l _ _ hl2 ?_
      have e : rpStep g w p v = if Uw53.less p.1 (g.ahead v w) = true then (g.ahead v w, v) else p := if_neg c
      rw [e]
      cases b with
      | none =>
        have a : p = (⟨0, 1⟩, []) := a
        obtain ⟨hv, lv⟩ := fine_of hw (hl v (List.mem_cons_self ..))
        obtain ⟨r, h1, _, h3, _, _, _⟩ := ahead_two h hv hw lv c
        have : Uw53.less p.1 (g.ahead v w) = true := by
          rw [a, h1]
          show Uw53.less (Rw.q 0) (Rw.q r) = true
          rw [Rw.less_q]
          exact decide_eq_true h3
        rw [if_pos this]
        rfl
      | some x =>
        have a : p = (x.2, x.1) := a
        rw [a]
        show Alike (if Uw53.less x.2 (g.ahead v w) = true then some (v, g.ahead v w) else some x) _
        by_cases d : Uw53.less x.2 (g.ahead v w) = true
        · rw [if_pos d, if_pos d]; rfl
        · rw [if_neg d, if_neg d]; rfl
theorem sp_some {g : Game} {w : List Nat} : ∀ (l : List (List Nat)) (b : Option (List Nat × Q)), (l ≠ [] ∨ b ≠ none) → l.foldl (spStep g w) b ≠ none
  | [], b, h => h.resolve_left fun z => z rfl
  | v :: l, b, _ => by
    rw [List.foldl_cons]
    refine sp_some l _ (Or.inr ?_)
    unfold spStep
    cases b with
    | none => exact fun e => by cases e
    | some x =>
      show (if _ then some _ else some x) ≠ none
      split <;> exact fun e => by cases e
/-- **the best reply** -/
theorem reply_ok {g : Game} (h : Rw.Sound g) {w : List Nat} (hw : g.fine w = true) : g.reply w = some ((rpTo g w (Uw53.wordsOf g.weights.length w.length)).2, (rpTo g w (Uw53.wordsOf g.weights.length w.length)).1) := by
  have e : g.reply w = ((Uw53.wordsOf g.weights.length w.length).filter fun v => v != w).foldl (spStep g w) none := rfl
  have a := rp_alike h hw (Uw53.wordsOf g.weights.length w.length) none (⟨0, 1⟩, []) (fun v hv => hv) rfl
  have n : ((Uw53.wordsOf g.weights.length w.length).filter fun v => v != w) ≠ [] := by
    have w2 := h.w2
    obtain ⟨w1, _, _⟩ := Rw.fine_iff.mp hw
    have m0 : List.replicate w.length 0 ∈ Uw53.wordsOf g.weights.length w.length := (mem_wordsOf _ _ _).mpr ⟨List.length_replicate, fun x hx => by rw [(List.mem_replicate.mp hx).2]; omega⟩
    have m1 : List.replicate w.length 1 ∈ Uw53.wordsOf g.weights.length w.length := (mem_wordsOf _ _ _).mpr ⟨List.length_replicate, fun x hx => by rw [(List.mem_replicate.mp hx).2]; omega⟩
    intro z
    have z2 := List.filter_eq_nil_iff.mp z
    have c0 : List.replicate w.length 0 = w := by have := z2 _ m0; simpa using this
    have c1 : List.replicate w.length 1 = w := by have := z2 _ m1; simpa using this
    have c2 := c0.trans c1.symm
    obtain ⟨k, hk⟩ : ∃ k, w.length = k + 1 := ⟨w.length - 1, by omega⟩
    rw [hk, List.replicate_succ, List.replicate_succ] at c2
    exact absurd (List.cons.inj c2).1 (by decide)
  rw [← e] at a
  cases c : g.reply w with
  | none => exact absurd (e.symm.trans c) (sp_some _ none (Or.inl n))
  | some x =>
    rw [c] at a
    have a : rpTo g w (Uw53.wordsOf g.weights.length w.length) = (x.2, x.1) := a
    rw [a]
end Rt
/-! Rings of words. -/
namespace Rt
open Rw (W)
open Uw53 (Game Q)
/-- row i of what beats what, when the numbers below L are done, and of L those against the ones below e -/
def bRow (b : Nat → Nat → Bool) (L e i : Nat) : List Nat := if i < L then (List.range L).filter (b i) ++ (if i < e ∧ b i L = true then [L] else []) else if i = L then (List.range e).filter (b i) else []
def bSt (b : Nat → Nat → Bool) (m L e : Nat) : List (List Nat) := (List.range m).map (bRow b L e)
theorem bSt_len (b : Nat → Nat → Bool) (m L e : Nat) : (bSt b m L e).length = m := by
  unfold bSt
  rw [List.length_map, List.length_range]
theorem bSt_at {b : Nat → Nat → Bool} {m L e i : Nat} (h : i < m) : (bSt b m L e)[i]? = some (bRow b L e i) := by
  unfold bSt
  rw [List.getElem?_map, List.getElem?_range h]
  rfl
theorem map_set {m e : Nat} {f g : Nat → List Nat} {x : List Nat} (he : e < m) (h1 : ∀ i, i < m → i ≠ e → f i = g i) (h2 : f e = x) : (List.range m).map f = ((List.range m).map g).set e x := by
  refine List.ext_getElem? fun i => ?_
  rw [List.getElem?_set, List.getElem?_map, List.getElem?_map]
  by_cases c : e = i
  · subst c
    rw [if_pos rfl, if_pos (by rw [List.length_map, List.length_range]; exact he), List.getElem?_range he]
    show some (f e) = _
    rw [h2]
  · rw [if_neg c]
    by_cases d : i < m
    · rw [List.getElem?_range d]
      show some (f i) = some (g i)
      rw [h1 i d (Ne.symm c)]
    · rw [List.getElem?_eq_none (by rw [List.length_range]; omega)]
      rfl
theorem bSt_zero (b : Nat → Nat → Bool) (m : Nat) : bSt b m 0 0 = (List.range m).map fun _ => [] := by
  refine List.map_congr_left fun i _ => ?_
  unfold bRow
  rw [if_neg (by omega)]
  split <;> rfl
theorem bSt_next {b : Nat → Nat → Bool} {m L : Nat} (hL : b L L = false) : bSt b m L L = bSt b m (L + 1) 0 := by
  refine List.map_congr_left fun i _ => ?_
  unfold bRow
  by_cases c : i < L
  · rw [if_pos c, if_pos (show i < L + 1 by omega), List.range_succ, List.filter_append, if_neg (show ¬ (i < 0 ∧ _) from fun z => absurd z.1 (Nat.not_lt_zero i)), List.append_nil]
    congr 1
    by_cases d : b i L = true
    · rw [if_pos ⟨c, d⟩, List.filter_cons_of_pos d]; rfl
    · rw [if_neg (fun z => d z.2), List.filter_cons_of_neg d]; rfl
  · rw [if_neg c]
    by_cases d : i = L
    · rw [if_pos d, if_pos (show i < L + 1 by omega), if_neg (show ¬ (i < 0 ∧ _) from fun z => absurd z.1 (Nat.not_lt_zero i)), List.append_nil, List.range_succ, List.filter_append, List.filter_cons_of_neg (by rw [d, hL]; exact Bool.false_ne_true), List.filter_nil, List.append_nil]
    · rw [if_neg d, if_neg (show ¬ i < L + 1 by omega)]
      split <;> rfl
theorem bRow_far {b : Nat → Nat → Bool} {L e i : Nat} (h1 : i ≠ e) (h2 : i ≠ L) : bRow b L (e + 1) i = bRow b L e i := by
  unfold bRow
  by_cases c : i < L
  · rw [if_pos c, if_pos c]
    congr 1
    by_cases d : i < e
    · by_cases z : b i L = true
      · rw [if_pos ⟨by omega, z⟩, if_pos ⟨d, z⟩]
      · rw [if_neg fun y => z y.2, if_neg fun y => z y.2]
    · rw [if_neg fun y => by omega, if_neg fun y => d y.1]
  · rw [if_neg c, if_neg c, if_neg h2, if_neg h2]
theorem bRow_low {b : Nat → Nat → Bool} {L e : Nat} (h : e < L) : bRow b L (e + 1) e = bRow b L e e ++ if b e L = true then [L] else [] := by
  unfold bRow
  rw [if_pos h, if_pos h, if_neg (show ¬ (e < e ∧ _) from fun y => absurd y.1 (Nat.lt_irrefl e)), List.append_nil]
  congr 1
  by_cases z : b e L = true
  · rw [if_pos ⟨by omega, z⟩, if_pos z]
  · rw [if_neg fun y => z y.2, if_neg z]
theorem bRow_top {b : Nat → Nat → Bool} {L e : Nat} : bRow b L (e + 1) L = bRow b L e L ++ if b L e = true then [e] else [] := by
  unfold bRow
  rw [if_neg (Nat.lt_irrefl L), if_neg (Nat.lt_irrefl L), if_pos rfl, if_pos rfl, List.range_succ, List.filter_append]
  congr 1
  by_cases z : b L e = true
  · rw [if_pos z, List.filter_cons_of_pos z]; rfl
  · rw [if_neg z, List.filter_cons_of_neg z]; rfl
theorem bSt_win {b : Nat → Nat → Bool} {m L e : Nat} (hL : L < m) (he : e < L) (h1 : b e L = true) (h2 : b L e = false) : bSt b m L (e + 1) = (bSt b m L e).set e (bRow b L e e ++ [L]) := by
  refine map_set (by omega) (fun i _ ne => ?_) (by rw [bRow_low he, if_pos h1])
  by_cases c : i = L
  · rw [c, bRow_top, h2, if_neg Bool.false_ne_true, List.append_nil]
  · exact bRow_far ne c
theorem bSt_lose {b : Nat → Nat → Bool} {m L e : Nat} (hL : L < m) (he : e < L) (h1 : b e L = false) (h2 : b L e = true) : bSt b m L (e + 1) = (bSt b m L e).set L (bRow b L e L ++ [e]) := by
  refine map_set hL (fun i _ ne => ?_) (by rw [bRow_top, if_pos h2])
  by_cases c : i = e
  · rw [c, bRow_low he, h1, if_neg Bool.false_ne_true, List.append_nil]
  · exact bRow_far c ne
theorem bSt_tie {b : Nat → Nat → Bool} {m L e : Nat} (he : e < L) (h1 : b e L = false) (h2 : b L e = false) : bSt b m L (e + 1) = bSt b m L e := by
  refine List.map_congr_left fun i _ => ?_
  by_cases c : i = e
  · rw [c, bRow_low he, h1, if_neg Bool.false_ne_true, List.append_nil]
  · by_cases d : i = L
    · rw [d, bRow_top, h2, if_neg Bool.false_ne_true, List.append_nil]
    · exact bRow_far c d
theorem bSt_end (b : Nat → Nat → Bool) (m : Nat) : bSt b m m 0 = (List.range m).map fun i => (List.range m).filter (b i) := by
  refine List.map_congr_left fun i hi => ?_
  unfold bRow
  rw [if_pos (List.mem_range.mp hi), if_neg (show ¬ (i < 0 ∧ _) from fun y => absurd y.1 (Nat.not_lt_zero i)), List.append_nil]
theorem bRow_len (b : Nat → Nat → Bool) (L e i : Nat) (he : e ≤ L) : (bRow b L e i).length ≤ L + 1 := by
  unfold bRow
  split
  · rw [List.length_append]
    have := List.length_filter_le (b i) (List.range L)
    rw [List.length_range] at this
    split
    · show _ + 1 ≤ _; omega
    · show _ + 0 ≤ _; omega
  · split
    · have := List.length_filter_le (b i) (List.range e)
      rw [List.length_range] at this
      omega
    · exact Nat.zero_le _
/-! ### rings -/
def rowB (bt : List (List Nat)) (i : Nat) : List Nat := bt.getD i []
/-- a ring that goes on from a path with d more members -/
def frO (bt : List (List Nat)) : Nat → List Nat → Option (List Nat)
  | 0, p => if p.headD 0 ∈ rowB bt (p.getLastD 0) then some p else none
  | d + 1, p => (rowB bt (p.getLastD 0)).findSome? fun x => if p.headD 0 < x ∧ x ∉ p then frO bt d (p ++ [x]) else none
theorem find_filter {a c : Type} (p q : a → Bool) (f : a → Option c) : ∀ l : List a, (l.filter fun x => p x && q x).findSome? f = (l.filter q).findSome? fun x => if p x = true then f x else none
  | [] => rfl
  | x :: l => by
    have ih := find_filter p q f l
    by_cases hq : q x = true
    · by_cases hp : p x = true
      · rw [List.filter_cons_of_pos (by rw [hp, hq]; rfl), List.filter_cons_of_pos hq, List.findSome?_cons, List.findSome?_cons, if_pos hp, ih]
      · rw [List.filter_cons_of_neg (by rw [Bool.eq_false_iff.mpr hp]; exact Bool.false_ne_true), List.filter_cons_of_pos hq, List.findSome?_cons, if_neg hp, ih]
    · rw [List.filter_cons_of_neg (by rw [Bool.eq_false_iff.mpr hq, Bool.and_false]; exact Bool.false_ne_true), List.filter_cons_of_neg hq, ih]
theorem find_congr {a c : Type} {f h : a → Option c} : ∀ {l : List a}, (∀ x, x ∈ l → f x = h x) → l.findSome? f = l.findSome? h
  | [], _ => rfl
  | x :: l, e => by
    rw [List.findSome?_cons, List.findSome?_cons, e x (List.mem_cons_self ..), find_congr fun y hy => e y (List.mem_cons_of_mem _ hy)]
theorem last_ne {l : List Nat} (h : l ≠ []) (a c : Nat) : l.getLastD a = l.getLastD c := by
  cases l with
  | nil => exact absurd rfl h
  | cons x r => rfl
theorem last_mem {l : List Nat} (h : l ≠ []) (a : Nat) : l.getLastD a ∈ l := by
  obtain ⟨r, x, rfl⟩ : ∃ r x, l = r ++ [x] := ⟨_, _, (List.dropLast_concat_getLast h).symm⟩
  rw [List.getLastD_concat]
  exact List.mem_append_right _ (List.mem_singleton.mpr rfl)
theorem ring_from (t : List (List Bool)) (m : Nat) : ∀ (k : Nat) (l : List Nat) (first : Nat), l ≠ [] → l.headD 0 = first → (∀ x, x ∈ l → x < m) → Uw53.ringFrom t m first k l = frO ((List.range m).map fun i => (List.range m).filter (Uw53.beat t i)) k l
  | k, l, first, hl, hh, hm => by
    have hlast := hm _ (last_mem hl 0)
    have erow : rowB ((List.range m).map fun i => (List.range m).filter (Uw53.beat t i)) (l.getLastD 0) = (List.range m).filter (Uw53.beat t (l.getLastD 0)) := by
      unfold rowB
      rw [List.getD_eq_getElem?_getD, List.getElem?_map, List.getElem?_range hlast]
      rfl
    have hf : first < m := by
      rw [← hh]
      cases l with
      | nil => exact absurd rfl hl
      | cons x r => exact hm x (List.mem_cons_self ..)
    cases k with
    | zero =>
      show (if Uw53.beat t (l.getLastD first) first = true then some l else none) = (if l.headD 0 ∈ rowB _ (l.getLastD 0) then some l else none)
      rw [erow, last_ne hl first 0, hh]
      by_cases c : Uw53.beat t (l.getLastD 0) first = true
      · rw [if_pos c, if_pos (List.mem_filter.mpr ⟨List.mem_range.mpr hf, c⟩)]
      · rw [if_neg c, if_neg fun z => c (List.mem_filter.mp z).2]
    | succ k =>
      show ((List.range m).filter fun j => decide (first < j) && (!l.contains j && Uw53.beat t (l.getLastD first) j)).findSome? (fun j => Uw53.ringFrom t m first k (l ++ [j])) = (rowB _ (l.getLastD 0)).findSome? _
      rw [erow, last_ne hl first 0]
      have e1 : (fun j => decide (first < j) && (!l.contains j && Uw53.beat t (l.getLastD 0) j)) = fun j => (decide (first < j) && !l.contains j) && Uw53.beat t (l.getLastD 0) j := by
        funext j
        rw [Bool.and_assoc]
      rw [e1, find_filter (fun j => decide (first < j) && !l.contains j) (Uw53.beat t (l.getLastD 0))]
      refine find_congr fun x hx => ?_
      have hxm := List.mem_range.mp (List.mem_filter.mp hx).1
      have hc : (decide (first < x) && !l.contains x) = true ↔ l.headD 0 < x ∧ x ∉ l := by
        rw [Bool.and_eq_true, decide_eq_true_iff, hh, Bool.not_eq_true', List.contains_eq_mem, decide_eq_false_iff_not]
      by_cases c : (decide (first < x) && !l.contains x) = true
      · rw [if_pos c, if_pos (hc.mp c)]
        refine ring_from t m k (l ++ [x]) first (by simp) ?_ fun y hy => ?_
        · cases l with
          | nil => exact absurd rfl hl
          | cons z r => exact hh
        · rcases List.mem_append.mp hy with hy | hy
          · exact hm y hy
          · rw [List.mem_singleton.mp hy]; exact hxm
      · rw [if_neg c, if_neg fun z => c (hc.mpr z)]
/-- the shortest ring, as numbers -/
def shO (bt : List (List Nat)) (m : Nat) : Option (List Nat) := [3, 4].findSome? fun k => (List.range m).findSome? fun i => frO bt (k - 1) [i]
theorem ring_nums (t : List (List Bool)) (m : Nat) : [3, 4].findSome? (Uw53.ringOf t m) = shO ((List.range m).map fun i => (List.range m).filter (Uw53.beat t i)) m := by
  unfold shO
  refine find_congr fun k _ => ?_
  show (List.range m).findSome? _ = _
  refine find_congr fun i hi => ?_
  exact ring_from t m (k - 1) [i] i (by simp) rfl fun x hx => by
    rw [List.mem_singleton.mp hx]
    exact List.mem_range.mp hi
/-! members of a ring are numbers of words -/
theorem fr_mem {bt : List (List Nat)} {m : Nat} (hb : ∀ i x, x ∈ rowB bt i → x < m) : ∀ (d : Nat) (p r : List Nat), (∀ x, x ∈ p → x < m) → frO bt d p = some r → (∀ x, x ∈ r → x < m) ∧ r.length = p.length + d
  | 0, p, r, hp, h => by
    unfold frO at h
    split at h
    · rw [← Option.some.inj h]; exact ⟨hp, rfl⟩
    · cases h
  | d + 1, p, r, hp, h => by
    unfold frO at h
    obtain ⟨x, hx, h2⟩ := List.exists_of_findSome?_eq_some h
    split at h2
    · obtain ⟨h3, h4⟩ := fr_mem hb d (p ++ [x]) r (fun y hy => by
        rcases List.mem_append.mp hy with hy | hy
        · exact hp y hy
        · rw [List.mem_singleton.mp hy]; exact hb _ x hx) h2
      exact ⟨h3, by rw [h4, List.length_append]; show p.length + 1 + d = _; omega⟩
    · cases h2
section
variable {g : Game}
theorem table_beat (g : Game) (n : Nat) {i j : Nat} (hi : i < (Uw53.wordsOf g.weights.length n).length) (hj : j < (Uw53.wordsOf g.weights.length n).length) : Uw53.beat (g.table n) i j = g.beats (W (Uw53.wordsOf g.weights.length n) i) (W (Uw53.wordsOf g.weights.length n) j) := by
  show (((Uw53.wordsOf g.weights.length n).map fun v => (Uw53.wordsOf g.weights.length n).map (g.beats v)).getD i []).getD j false = _
  unfold W
  rw [List.getD_eq_getElem?_getD (l := List.map _ _), List.getElem?_map, List.getElem?_eq_getElem hi]
  show ((Uw53.wordsOf g.weights.length n).map _).getD j false = _
  rw [List.getD_eq_getElem?_getD, List.getElem?_map, List.getElem?_eq_getElem hj, List.getD_eq_getElem?_getD, List.getElem?_eq_getElem hi, List.getD_eq_getElem?_getD, List.getElem?_eq_getElem hj]
  rfl
theorem half_q : Uw53.half = Rw.q (1 / 2) := by decide +kernel
/-- two different words of a length: what is read of the one chance -/
theorem duel_b (h : Rw.Sound g) {n : Nat} (n1 : 1 ≤ n) (n5 : n ≤ 5) {i j : Nat} (hi : i < (Uw53.wordsOf g.weights.length n).length) (hj : j < (Uw53.wordsOf g.weights.length n).length) (ne : i ≠ j) :
    (g.fine (W (Uw53.wordsOf g.weights.length n) i) = true ∧ g.fine (W (Uw53.wordsOf g.weights.length n) j) = true ∧ (W (Uw53.wordsOf g.weights.length n) i).length = (W (Uw53.wordsOf g.weights.length n) j).length ∧ W (Uw53.wordsOf g.weights.length n) i ≠ W (Uw53.wordsOf g.weights.length n) j) ∧
    Uw53.beat (g.table n) i j = Uw53.less Uw53.half (g.ahead (W (Uw53.wordsOf g.weights.length n) i) (W (Uw53.wordsOf g.weights.length n) j)) ∧
    Uw53.beat (g.table n) j i = Uw53.less (g.ahead (W (Uw53.wordsOf g.weights.length n) i) (W (Uw53.wordsOf g.weights.length n) j)) Uw53.half := by
  obtain ⟨l1, a1⟩ := (mem_wordsOf _ _ _).mp (Rw.W_mem hi)
  obtain ⟨l2, a2⟩ := (mem_wordsOf _ _ _).mp (Rw.W_mem hj)
  have f1 : g.fine (W (Uw53.wordsOf g.weights.length n) i) = true := Rw.fine_iff.mpr ⟨by omega, by omega, a1⟩
  have f2 : g.fine (W (Uw53.wordsOf g.weights.length n) j) = true := Rw.fine_iff.mpr ⟨by omega, by omega, a2⟩
  have nw : W (Uw53.wordsOf g.weights.length n) i ≠ W (Uw53.wordsOf g.weights.length n) j := fun e => ne (W_inj (wordsOf_nodup _ _) hi hj e)
  obtain ⟨p, e1, e2, _, _, _, _⟩ := ahead_two h f1 f2 (l1.trans l2.symm) nw
  refine ⟨⟨f1, f2, l1.trans l2.symm, nw⟩, ?_, ?_⟩
  · rw [table_beat g n hi hj]
    show (_ != _ && _) = _
    rw [bne_iff_ne.mpr nw, Bool.true_and]
  · rw [table_beat g n hj hi]
    show (_ != _ && Uw53.less Uw53.half (g.ahead (W (Uw53.wordsOf g.weights.length n) j) (W (Uw53.wordsOf g.weights.length n) i))) = _
    rw [bne_iff_ne.mpr (Ne.symm nw), Bool.true_and, e1, e2, half_q, Rw.less_q, Rw.less_q]
    exact decide_eq_decide.mpr (by constructor <;> intro z <;> grind)
theorem beat_not_both (h : Rw.Sound g) {n : Nat} (n1 : 1 ≤ n) (n5 : n ≤ 5) {i j : Nat} (hi : i < (Uw53.wordsOf g.weights.length n).length) (hj : j < (Uw53.wordsOf g.weights.length n).length) (ne : i ≠ j) (hb : Uw53.beat (g.table n) i j = true) : Uw53.beat (g.table n) j i = false := by
  obtain ⟨⟨f1, f2, l, nw⟩, e1, e2⟩ := duel_b h n1 n5 hi hj ne
  obtain ⟨p, a1, _, _, _, _, _⟩ := ahead_two h f1 f2 l nw
  rw [e1, a1, half_q, Rw.less_q] at hb
  rw [e2, a1, half_q, Rw.less_q]
  have := of_decide_eq_true hb
  exact decide_eq_false (by grind)
theorem beat_self (g : Game) {n : Nat} {i : Nat} (hi : i < (Uw53.wordsOf g.weights.length n).length) : Uw53.beat (g.table n) i i = false := by
  rw [table_beat g n hi hi]
  show (_ != _ && _) = false
  rw [bne_self_eq_false, Bool.false_and]
/-- **the shortest ring** -/
theorem ring_ok (g : Game) (n : Nat) : g.ring n = (shO ((List.range (Uw53.wordsOf g.weights.length n).length).map fun i => (List.range (Uw53.wordsOf g.weights.length n).length).filter (Uw53.beat (g.table n) i)) (Uw53.wordsOf g.weights.length n).length).map fun r => r.map fun i => W (Uw53.wordsOf g.weights.length n) i := by
  show ([3, 4].findSome? (Uw53.ringOf (g.table n) (Uw53.wordsOf g.weights.length n).length)).map _ = _
  rw [ring_nums]
  rfl
end
end Rt
/-! exact.py -/
namespace Rt
open PySem PySem.Spec PyProof.Rows L2
open PySem.W (Codec)
def top (i : Nat) : Stmt := PySem.Challenge.pw_racingwords_s01_answers.main.body.getD i (.Pass ⟨0, 0, 0, 0⟩)
abbrev sGcd : Stmt := top 17
abbrev sLow : Stmt := top 18
theorem same_upd {H : Hp} {p : Addr} {o : HO} (h : H p = none) : Same H (upd H p o) := fun b x e => by
  rw [upd_ne (ne_of_none e h)]
  exact e
section
variable {P : Program} {w : World} {K : PySem.W.Frag} {mg : Str → Option Value} {base : Heap}
/-! ### common_divisor -/
def spGcd : Sp := fun vs H Q _ => ∃ (a b : Nat), vs = [.int a, .int b] ∧ Q (.int (Nat.gcd a b : Nat)) H
theorem scGcd : FnScope ["one", "other", "rest"] ["one", "other"] (defScope sGcd) := ⟨rfl, rfl, rfl, by decide +kernel, rfl, by decide +kernel, by decide +kernel⟩
def muGcd : L2.St → Hp → Nat := fun σ _ => match σ with
  | [_, some (.int y), _] => y.toNat
  | _ => 0
theorem ok_gcd {f : Addr} {fd : FuncData} {k : Nat} (F : Fun K "common_divisor" "common_divisor" sGcd f fd) : FnOk P w K mg base CX0 (k + 1) f fd ["one", "other"] spGcd := by
  refine F.ok scGcd (fun vs H Q E h => ?_) (fun cdv A outer s H vs Q E hr h => ?_)
  · obtain ⟨a, b, rfl, _⟩ := h
    rfl
  · obtain ⟨a, b, rfl, q⟩ := h
    refine ⟨_, pss_cons (ps_while PassesOwn.never (pt_cmpR op_gt (pv 1) pe_int (nomark _))
        (pss_cons (ps_set (i := 2) scGcd.nd rfl (.inl rfl) (pe_op op_modN (pv 0) (pv 1)))
        (pss_cons (ps_set (i := 0) scGcd.nd rfl (.inl rfl) (pv 1))
        (pss_one (ps_set (i := 1) scGcd.nd rfl (.inl rfl) (pv 2))))))
      (pss_one (ps_ret (pv 0))), ?_⟩
    refine while_by (fun σ H' => ∃ (x y : Nat) (r : Option V), σ = [some (.int x), some (.int y), r] ∧ H' = H ∧ Nat.gcd x y = Nat.gcd a b) muGcd ⟨a, b, none, rfl, rfl, rfl⟩ ?_ ?_
    · rintro σ H' ⟨x, y, r, rfl, rfl, e⟩
      refine ⟨_, rfl, _, _, rfl, rfl, _, rfl, ite2 (fun h => ?_) (fun h => ?_)⟩
      · have hy : (0 : Int) < y := of_decide_eq_true h
        refine ⟨_, rfl, _, rfl, _, _, rfl, rfl, by omega, _, rfl, _, rfl, ⟨y, x % y, some (.int (x % y : Nat)), ?_, rfl, ?_⟩, ?_⟩
        · have : (x : Int).fmod y = ((x % y : Nat) : Int) := by
            rw [Int.fmod_eq_emod_of_nonneg _ (by omega)]
            rfl
          show [some (V.int y), some (V.int ((x : Int).fmod y)), some (V.int ((x : Int).fmod y))] = _
          rw [this]
        · rw [← e, Nat.gcd_comm x y, Nat.gcd_rec y x, Nat.gcd_comm]
        · show ((x : Int).fmod y).toNat < (y : Int).toNat
          rw [Int.fmod_eq_emod_of_nonneg _ (by omega)]
          have := Int.emod_lt_of_pos (x : Int) hy
          have := Int.emod_nonneg (x : Int) (show (y : Int) ≠ 0 by omega)
          omega
      · have hy : ¬ (0 : Int) < y := fun z => h (decide_eq_true z)
        have y0 : y = 0 := by omega
        subst y0
        rw [Nat.gcd_zero_right] at e
        subst e
        exact ⟨_, rfl, q⟩
    · rintro σ H' Q1 Q2 m ⟨v, e1, i, j, e2, e3, b, e4, h⟩
      exact ⟨v, e1, i, j, e2, e3, b, e4, m _ _ h⟩
/-! ### lowest_terms -/
def spLow : Sp := fun vs H Q _ => ∃ (a b : Nat), vs = [.int a, .int b] ∧ 0 < b ∧ b < 2 ^ 8000 ∧ ∀ p, H p = none → Q (.ref p) (upd H p (.lst [.int (a / Nat.gcd a b : Nat), .int (b / Nat.gcd a b : Nat)]))
theorem scLow : FnScope ["numerator", "denominator", "divisor"] ["numerator", "denominator"] (defScope sLow) := ⟨rfl, rfl, rfl, by decide +kernel, rfl, by decide +kernel, by decide +kernel⟩
theorem ok_low {f fG : Addr} {fd fdG : FuncData} {k : Nat} (F : Fun K "lowest_terms" "lowest_terms" sLow f fd) (FG : Fun K "common_divisor" "common_divisor" sGcd fG fdG) (bG : Binds K fdG ["one", "other"] []) (gG : mg "common_divisor" = some (.ref fG)) :
    FnOk P w K mg base CX0 (k + 2) f fd ["numerator", "denominator"] spLow := by
  have GG : FnOk P w K mg base CX0 (k + 1) fG fdG ["one", "other"] spGcd := ok_gcd FG
  refine F.ok scLow (fun vs H Q E h => ?_) (fun cdv A outer s H vs Q E hr h => ?_)
  · obtain ⟨a, b, rfl, _⟩ := h
    rfl
  · obtain ⟨a, b, rfl, hb, hbig, q⟩ := h
    refine ⟨_, pss_cons (ps_set (i := 2) scLow.nd rfl (.inl rfl) (pe_call GG hr (by rfl) gG FG.kp bG .nil pass0 (pa_cons (pv 0) (pa_cons (pv 1) pa_nil))))
      (pss_one (ps_ret (pe_lst (pa_cons (pe_op op_fdivW (pv 0) (pv 2)) (pa_cons (pe_op op_fdivW (pv 1) (pv 2)) pa_nil))))), ?_⟩
    have gp : 0 < Nat.gcd a b := Nat.gcd_pos_of_pos_right _ hb
    have gb : Nat.gcd a b < 2 ^ 8000 := Nat.lt_of_le_of_lt (Nat.gcd_le_right _ hb) hbig
    have cd : ∀ i : Int, CDivW i (Nat.gcd a b : Nat) := fun i => wide_div (b := 8000) (by omega) (by rw [Int.natAbs_natCast]; exact gb) (by decide) (by decide)
    refine ⟨_, rfl, _, rfl, a, b, rfl, ?_⟩
    refine ⟨_, rfl, _, rfl, _, _, rfl, rfl, cd _, _, rfl, _, rfl, _, _, rfl, rfl, cd _, (by show 2 ≤ sizeLine; decide), fun p hp => ?_⟩
    exact q p hp
end
end Rt
/-! ### without_unknown -/
namespace Rt
open PySem PySem.Spec PyProof.Rows L2
abbrev sWu : Stmt := top 19
abbrev sFu : Stmt := top 20
theorem take_more {a : Type} {l : List a} {i : Nat} {x : a} (h : l[i]? = some x) : l.take (i + 1) = l.take i ++ [x] := by
  rw [List.take_add_one, h]
  rfl
theorem iv_at {ns : List Int} {i : Nat} {y : V} (h : (ns.map V.int)[i]? = some y) : ∃ z, ns[i]? = some z ∧ y = V.int z := by
  rw [List.getElem?_map] at h
  cases e : ns[i]? with
  | none => rw [e] at h; cases h
  | some z => rw [e] at h; exact ⟨z, rfl, (Option.some.inj h).symm⟩
theorem iv_get {ns : List Int} {i : Nat} (h : i < ns.length) : (ns.map V.int)[i]? = some (V.int (ns.getD i 0)) := by
  rw [List.getElem?_map, List.getD_eq_getElem?_getD, List.getElem?_eq_getElem h]
  rfl
theorem getD_of {ns : List Int} {i : Nat} {z : Int} (h : ns[i]? = some z) : ns.getD i 0 = z := by
  rw [List.getD_eq_getElem?_getD, h]
  rfl
theorem sm_mul {x y : Int} (hx : Sm x) (hy : Sm y) : CMulW x y := wide_mul hx hy (by decide) (by decide) (by decide)
theorem sm_div {x : Int} (y : Int) (h0 : 0 < x) (hx : Sm x) : CDivW y x := wide_div h0 hx (by decide) (by decide)
section
variable {P : Program} {w : World} {K : PySem.W.Frag} {mg : Str → Option Value} {base : Heap}
def spWu (K : PySem.W.Frag) : Sp := fun vs H Q _ => ∃ (a b : Addr) (row prow : List Int) (k : Nat) (last : Int), vs = [.ref a, .ref b, .int k, .int last] ∧ SqL K H a (row.map V.int) ∧ SqL K H b (prow.map V.int) ∧
  row.length = prow.length ∧ k < row.length ∧ row.length ≤ 1000 ∧ 0 < last ∧ Sm last ∧ (∀ x, x ∈ row → Sm x) ∧ (∀ x, x ∈ prow → Sm x) ∧
  ∀ H' p, Same H H' → H p = none → H' p = some (.lst ((wu row prow k last).map V.int)) → Q (.ref p) H'
theorem scWu : FnScope ["row", "pivot_row", "unknown", "last_pivot", "pivot", "factor", "freed", "value", "pivot_value"] ["row", "pivot_row", "unknown", "last_pivot"] (defScope sWu) := ⟨rfl, rfl, rfl, by decide +kernel, rfl, by decide +kernel, by decide +kernel⟩
theorem ok_wu {f : Addr} {fd : FuncData} {k : Nat} (F : Fun K "without_unknown" "without_unknown" sWu f fd) (mz : mg "zip" = none) : FnOk P w K mg base CX0 (k + 1) f fd ["row", "pivot_row", "unknown", "last_pivot"] (spWu K) := by
  refine F.ok scWu (fun vs H Q E h => ?_) (fun cdv A outer s H vs Q E hr h => ?_)
  · obtain ⟨a, b, row, prow, k, last, rfl, _⟩ := h
    rfl
  · obtain ⟨a, b, row, prow, k, last, rfl, hA, hB, hl, hk, hn, l0, lS, rS, pS, q⟩ := h
    refine ⟨_, pss_cons (ps_set (i := 4) scWu.nd rfl (.inl rfl) (pe_ix ix_list (pv 1) (pv 2) (fun _ _ => rfl)))
      (pss_cons (ps_set (i := 5) scWu.nd rfl (.inl rfl) (pe_ix ix_list (pv 0) (pv 2) (fun _ _ => rfl)))
      (pss_cons (ps_set (i := 6) scWu.nd rfl (.inl rfl) (pe_lst pa_nil))
      (pss_cons (ps_for PassesOwn.never rfl (pi_zip (by rfl) mz (pa_cons (pv 0) (pa_cons (pv 1) pa_nil)))
          (pg_tup rfl (pgs_cons (pg_name (i := 7) scWu.nd rfl (.inl rfl)) (pgs_cons (pg_name (i := 8) scWu.nd rfl (.inl rfl)) pgs_nil)))
        (pss_one (ps_expr (pe_bm PySem.F.plainAttrs_list PySem.F.slot_list_append PySem.F.type_list_append mt_append (pv 6)
          (pa_cons (pe_op op_fdivW (pe_op op_sub (pe_op op_mulW (pv 7) (pv 4)) (pe_op op_mulW (pv 5) (pv 8))) (pv 3)) pa_nil)))))
      (pss_one (ps_ret (pv 6)))))), ?_⟩
    refine ⟨_, rfl, _, rfl, b, _, _, _, rfl, rfl, hB, atI_nat (iv_get (by omega)), ?_⟩
    refine ⟨_, rfl, _, rfl, a, _, _, _, rfl, rfl, hA, atI_nat (iv_get hk), ?_⟩
    refine ⟨Nat.zero_le _, fun o no => ?_⟩
    have s1 : Same H (upd H o (.lst [])) := same_upd no
    refine ⟨_, rfl, _, rfl, a, b, _, _, rfl, s1.seq hA, s1.seq hB, ?_⟩
    refine RZ.for_zipL (by rw [List.length_map, List.length_map, hl]) (fun i σ H3 => ∃ u v, σ = [some (.ref a), some (.ref b), some (.int k), some (.int last), some (.int (prow.getD k 0)), some (.int (row.getD k 0)), some (.ref o), u, v] ∧ Same H H3 ∧ H3 o = some (.lst (((wu row prow k last).take i).map V.int)))
      ⟨none, none, rfl, s1, upd_same⟩ (fun i σ H3 ⟨_, _, _, sm, _⟩ => ⟨sm.seq hA, sm.seq hB⟩) ?_ ?_
    · rintro i x y T σ H3 hx hy ⟨u, v, rfl, sm, eo⟩ nT
      obtain ⟨x, gx, rfl⟩ := iv_at hx
      obtain ⟨y, gy, rfl⟩ := iv_at hy
      have nTo : o ≠ T := ne_of_none eo nT
      have eoT : (upd H3 T (.tup [.int x, .int y])) o = some (.lst (((wu row prow k last).take i).map V.int)) := by
        rw [upd_ne nTo]
        exact eo
      have mx : x ∈ row := List.mem_of_getElem? gx
      have my : y ∈ prow := List.mem_of_getElem? gy
      have hi : i < row.length := (List.getElem?_eq_some_iff.mp gx).1
      have mk : Sm (row.getD k 0) := rS _ (List.mem_of_getElem? (i := k) (by rw [List.getElem?_eq_getElem hk, List.getD_eq_getElem?_getD, List.getElem?_eq_getElem hk]; rfl))
      have mp : Sm (prow.getD k 0) := pS _ (List.mem_of_getElem? (i := k) (by rw [List.getElem?_eq_getElem (hl ▸ hk), List.getD_eq_getElem?_getD, List.getElem?_eq_getElem (hl ▸ hk)]; rfl))
      refine ⟨T, [_, _], rfl, .inl (.inl upd_same), rfl, _, [_], rfl, _, [], rfl, rfl, ?_⟩
      refine ⟨.ref o, rfl, .inl ⟨rfl, _, .inl (.inl eoT)⟩, _, rfl, _, rfl, _, _, rfl, rfl, sm_mul (rS x mx) mp, _, rfl, _, rfl, _, _, rfl, rfl, sm_mul mk (pS y my), _, _, rfl, rfl, _, rfl, _, _, rfl, rfl, sm_div _ l0 lS, o, _, _, rfl, rfl, eoT, ?_, ?_⟩
      · rw [List.length_map, List.length_take]
        exact Nat.lt_of_le_of_lt (Nat.min_le_left _ _) (small1000 (by omega))
      · refine ⟨_, _, rfl, fun b z e => ?_, ?_⟩
        · have nb : b ≠ o := ne_of_none e no
          rw [upd_ne nb]
          exact same_upd nT _ _ (sm _ _ e)
        · rw [upd_same, take_more (x := (x * prow.getD k 0 - row.getD k 0 * y) / last), List.map_append]
          · rfl
          · unfold wu
            rw [List.getElem?_zipWith, gx, gy]
    · rintro σ H3 ⟨u, v, rfl, sm, eo⟩
      rw [List.length_map, List.take_of_length_le (by rw [wu_len hl]; exact Nat.le_refl _)] at eo
      exact ⟨_, rfl, q H3 o sm no eo⟩
end
end Rt
/-! ### first_unknown -/
namespace Rt
open PySem PySem.Spec PyProof.Rows L2
/-- lists of whole numbers at addresses -/
def RowsAt (K : PySem.W.Frag) (H : Hp) (ps : List Addr) (rows : List (List Int)) : Prop := ps.length = rows.length ∧ ∀ (i : Nat) (p : Addr) (r : List Int), ps[i]? = some p → rows[i]? = some r → SqL K H p (r.map V.int)
theorem RowsAt.same {K : PySem.W.Frag} {H H' : Hp} {ps : List Addr} {rows : List (List Int)} (h : RowsAt K H ps rows) (s : Same H H') : RowsAt K H' ps rows := ⟨h.1, fun i p r h1 h2 => s.seq (h.2 i p r h1 h2)⟩
theorem RowsAt.get {K : PySem.W.Frag} {H : Hp} {ps : List Addr} {rows : List (List Int)} (h : RowsAt K H ps rows) {i : Nat} (hi : i < rows.length) : ∃ p, ps[i]? = some p ∧ SqL K H p ((rows.getD i []).map V.int) := by
  have h2 : i < ps.length := by rw [h.1]; exact hi
  refine ⟨ps[i], List.getElem?_eq_getElem h2, h.2 i _ _ (List.getElem?_eq_getElem h2) ?_⟩
  rw [getDL hi]
  exact List.getElem?_eq_getElem hi
theorem RowsAt.take {K : PySem.W.Frag} {H : Hp} {ps : List Addr} {rows : List (List Int)} (h : RowsAt K H ps rows) (k : Nat) : RowsAt K H (ps.take k) (rows.take k) := by
  refine ⟨by rw [List.length_take, List.length_take, h.1], fun i p r h1 h2 => ?_⟩
  rw [List.getElem?_take] at h1 h2
  split at h1
  · next hk =>
    rw [if_pos hk] at h2
    exact h.2 i p r h1 h2
  · cases h1
theorem RowsAt.snoc {K : PySem.W.Frag} {H : Hp} {ps : List Addr} {rows : List (List Int)} (h : RowsAt K H ps rows) {p : Addr} {r : List Int} (hp : SqL K H p (r.map V.int)) : RowsAt K H (ps ++ [p]) (rows ++ [r]) := by
  refine ⟨by rw [List.length_append, List.length_append, h.1]; rfl, fun i q z h1 h2 => ?_⟩
  by_cases c : i < ps.length
  · rw [List.getElem?_append_left c] at h1
    rw [List.getElem?_append_left (by rw [← h.1]; exact c)] at h2
    exact h.2 i q z h1 h2
  · rw [List.getElem?_append_right (by omega)] at h1
    rw [List.getElem?_append_right (by rw [← h.1]; omega), ← h.1] at h2
    cases e : i - ps.length with
    | zero =>
      rw [e] at h1 h2
      have e1 : p = q := Option.some.inj h1
      have e2 : r = z := Option.some.inj h2
      subst e1 e2
      exact hp
    | succ j =>
      rw [e] at h1
      cases h1
theorem seq_upd {K : PySem.W.Frag} {H : Hp} {a p : Addr} {o : HO} {xs : List V} (h : SqL K H a xs) (ne : a ≠ p) : SqL K (upd H p o) a xs := by
  rcases h with (h | ⟨o, h⟩) | h
  · exact .inl (.inl (by rw [upd_ne ne]; exact h))
  · exact .inl (.inr ⟨o, by rw [upd_ne ne]; exact h⟩)
  · exact .inr h
theorem RowsAt.upd {K : PySem.W.Frag} {H : Hp} {ps : List Addr} {rows : List (List Int)} {p : Addr} {o : HO} (h : RowsAt K H ps rows) (hp : p ∉ ps) : RowsAt K (upd H p o) ps rows :=
  ⟨h.1, fun i a r h1 h2 => seq_upd (h.2 i a r h1 h2) fun e => hp (e ▸ List.mem_of_getElem? h1)⟩
/-- what was free before a list was changed stays as it was -/
theorem same_new {H H' : Hp} {p : Addr} {o : HO} (s : Same H H') (hp : H p = none) : Same H (upd H' p o) := fun b x e => by
  rw [upd_ne (ne_of_none e hp)]
  exact s b x e
/-- a slice from the list's head -/
theorem cut_head (xs : List V) (k : Nat) (h : k ≤ xs.length) : cutV xs none (some (k : Int)) = xs.take k := by
  unfold cutV
  rw [HT.sIx_none, HT.sIx_nat, List.drop_zero, Nat.min_eq_left h, Nat.sub_zero]
/-- a comprehension without a test -/
theorem lc_yes {te : TE} {σ : L2.St} {H : Hp} {A : VK} {B : Hp → Prop} (h : te σ H A) : tYes σ H fun b H3 => if b = true then te σ H3 A else B H3 := iteT (B := B H) h
section
variable {P : Program} {w : World} {K : PySem.W.Frag} {mg : Str → Option Value} {base : Heap}
def spFu (K : PySem.W.Frag) : Sp := fun vs H Q _ => ∃ (a : Addr) (ps : List Addr) (rows : List (List Int)) (m : Nat), vs = [.ref a] ∧ SqL K H a (ps.map V.ref) ∧ RowsAt K H ps rows ∧
  0 < rows.length ∧ rows.length ≤ m ∧ m ≤ 1000 ∧ (∀ r, r ∈ rows → r.length = m) ∧ Tame rows ∧
  ∀ H' p, Same H H' → SqL K H' p ((fu rows).map V.int) → Q (.ref p) H'
theorem scFu : FnScope ["rows", "left", "last_pivot", "unknown", "pivot_row", "row"] ["rows"] (defScope sFu) := ⟨rfl, rfl, rfl, by decide +kernel, rfl, by decide +kernel, by decide +kernel⟩
theorem ok_fu {f fW : Addr} {fd fdW : FuncData} {k : Nat} (F : Fun K "first_unknown" "first_unknown" sFu f fd) (FW : Fun K "without_unknown" "without_unknown" sWu fW fdW) (bW : Binds K fdW ["row", "pivot_row", "unknown", "last_pivot"] []) (gW : mg "without_unknown" = some (.ref fW)) (mz : mg "zip" = none) (mr : mg "range" = none) (ml : mg "len" = none) :
    FnOk P w K mg base CX0 (k + 2) f fd ["rows"] (spFu K) := by
  have GW : FnOk P w K mg base CX0 (k + 1) fW fdW ["row", "pivot_row", "unknown", "last_pivot"] (spWu K) := ok_wu FW mz
  refine F.ok scFu (fun vs H Q E h => ?_) (fun cdv A outer s H vs Q E hr h => ?_)
  · obtain ⟨a, ps, rows, m, rfl, _⟩ := h
    rfl
  · obtain ⟨a, ps, rows, m, rfl, hA, hR, n0, nm, m0, hm, tame, q⟩ := h
    refine ⟨_, pss_cons (ps_set (i := 1) scFu.nd rfl (.inl rfl) (pv 0))
      (pss_cons (ps_set (i := 2) scFu.nd rfl (.inr rfl) pe_int)
      (pss_cons (ps_for PassesOwn.never rfl (pi_range3 rfl mr (pa_cons (pe_op op_sub (pe_callB call_len_seq (by rfl) ml PySem.boot_len (pa_cons (pv 0) pa_nil)) pe_int) (pa_cons pe_int (pa_cons (pe_un un_neg pe_int) pa_nil))))
          (pg_name (i := 3) scFu.nd rfl (.inr rfl))
        (pss_cons (ps_set (i := 4) scFu.nd rfl (.inr rfl) (pe_ix ix_list (pv 1) (pv 3) (fun _ _ => rfl)))
        (pss_cons (ps_setLc (i := 1) (own := [("row", 5)]) (g := gName 5) (tt := tYes) rfl scFu.nd rfl rfl (sw_true rfl rfl rfl (by decide +kernel)) (pi_list (pe_slice sl_list (pv 1) po_none (po_some (pv 3))))
            (blkOk_by (N := ["rows", "left", "last_pivot", "unknown", "pivot_row", "row"]) (sc := defScope sFu) (by decide +kernel)) (fun _ _ _ _ _ => pg_name (i := 5) scFu.nd rfl (Or.inl rfl)) (fun _ _ _ _ _ => pts_nil)
            (fun _ _ _ _ _ => pe_call GW hr (by rfl) gW FW.kp bW .nil pass0 (pa_cons (pv 5) (pa_cons (pv 4) (pa_cons (pv 3) (pa_cons (pv 2) pa_nil))))))
        (pss_one (ps_set (i := 2) scFu.nd rfl (.inr rfl) (pe_ix ix_list (pv 4) (pv 3) (fun _ _ => rfl)))))))
      (pss_one (ps_ret (pe_ix ix_list (pv 1) pe_int (fun _ _ => rfl)))))), ?_⟩
    have len_ps : (ps.map V.ref).length = rows.length := by rw [List.length_map, hR.1]
    refine ⟨_, rfl, _, rfl, a, _, rfl, .inl hA, _, _, rfl, rfl, _, rfl, _, _, _, rows.length - 1, rfl, ?_, for_rangeC (fun i σ H3 => ∃ (la : Addr) (qs : List Addr) (u p r : Option V),
        σ = [some (.ref a), some (.ref la), some (.int (fuSt rows i).2), u, p, r] ∧ i < rows.length ∧ Same H H3 ∧ SqL K H3 la (qs.map V.ref) ∧ RowsAt K H3 qs (fuSt rows i).1)
      ⟨a, ps, none, none, none, rfl, n0, Same.refl H, hA, hR⟩ ?_ ?_⟩
    · have e : (((ps.map V.ref).length : Int) - 1 - 0).toNat = rows.length - 1 := by rw [len_ps]; omega
      have := RgC.neg (i := ((ps.map V.ref).length : Int) - 1) (j := 0) (by rw [len_ps]; omega) (by rw [len_ps]; omega) (by omega) (by omega)
      rw [e] at this
      exact this
    · rintro i σ H3 hi ⟨la, qs, u, p, r, rfl, hi2, sm, hL, hQ⟩
      have hj : ((ps.map V.ref).length : Int) - 1 + (i : Nat) * -1 = ((rows.length - 1 - i : Nat) : Int) := by rw [len_ps]; omega
      have hlen := fuSt_len rows i hi2
      obtain ⟨pp, gp, hp⟩ := hQ.get (i := rows.length - 1 - i) (by omega)
      rw [hj]
      generalize ej : rows.length - 1 - i = j at hp gp
      have hjl : j < (fuSt rows i).1.length := by omega
      have gq : (qs.map V.ref)[j]? = some (V.ref pp) := by rw [List.getElem?_map, gp]; rfl
      have row_len : ∀ r, r ∈ (fuSt rows i).1 → r.length = m := fuSt_row hm i hi2
      have lenp := row_len _ (getDL_mem hjl)
      obtain ⟨t0, tS, tR⟩ := tame i hi2
      -- pivot_row = left[unknown]
      refine ⟨_, rfl, _, rfl, la, _, _, _, rfl, rfl, hL, atI_nat gq, ?_⟩
      -- left = [without_unknown(row, pivot_row, unknown, last_pivot) for row in left[:unknown]]
      refine ⟨_, rfl, _, rfl, _, rfl, la, _, rfl, hL, fun c nc => ?_⟩
      have sc : Same H3 (upd H3 c (.lst (cutV (qs.map V.ref) none (some (j : Int))))) := same_upd nc
      have ecut : cutV (qs.map V.ref) none (some (j : Int)) = (qs.take j).map V.ref := by
        rw [cut_head _ _ (by rw [List.length_map, hQ.1]; omega), List.map_take]
      rw [ecut] at sc ⊢
      refine ⟨c, rfl, ⟨_, SqL.of upd_same⟩, fun D nD => ?_⟩
      have cD : c ≠ D := fun z => by
        rw [← z, upd_same] at nD
        cases nD
      have nD3 : H3 D = none := by
        rw [upd_ne (Ne.symm cD)] at nD
        exact nD
      have hlt : ((fuSt rows i).1.take j).length = j := by rw [List.length_take]; omega
      have hql : (qs.take j).length = j := by rw [List.length_take, hQ.1]; omega
      refine lc_list (K := K) (a := c) (xs := (qs.take j).map V.ref) (fun n H4 => ∃ zs : List Addr, D ∉ zs ∧ Same H3 H4 ∧ H4 c = some (.lst ((qs.take j).map V.ref)) ∧ H4 D = some (.lst (zs.map V.ref)) ∧ RowsAt K H4 zs (((fuSt rows (i + 1)).1).take n))
        ⟨[], List.not_mem_nil, sc.trans (same_upd nD), by rw [upd_ne cD, upd_same], upd_same, rfl, fun i p r h => by cases h⟩ (fun n H4 _ ⟨_, _, _, ec, _⟩ => SqL.of ec) ?_ ?_
      · rintro n x H4 hx ⟨zs, nDz, s4, ec, eD, hZ⟩
        obtain ⟨rn, hrn, rfl⟩ : ∃ rn, (qs.take j)[n]? = some rn ∧ x = V.ref rn := by
          rw [List.getElem?_map] at hx
          cases e : (qs.take j)[n]? with
          | none => rw [e] at hx; cases hx
          | some z => rw [e] at hx; exact ⟨z, rfl, (Option.some.inj hx).symm⟩
        have hn : n < j := by
          have := (List.getElem?_eq_some_iff.mp hrn).1
          omega
        obtain ⟨rn2, h2, hrow⟩ := ((hQ.same s4).take j).get (i := n) (by omega)
        have e2 : rn2 = rn := Option.some.inj (h2.symm.trans hrn)
        subst e2
        have mrow : ((fuSt rows i).1.take j).getD n [] ∈ (fuSt rows i).1 := List.mem_of_mem_take (getDL_mem (by omega))
        have lenr := row_len _ mrow
        refine ⟨rfl, lc_yes ?_⟩
        refine ⟨_, rfl, _, rfl, _, rfl, _, rfl, rn2, pp, _, _, j, _, rfl, hrow, s4.seq hp, by rw [lenr, lenp], by omega, by omega, t0, tS, tR _ mrow, tR _ (getDL_mem hjl), fun H5 z s5 nz ez => ?_⟩
        have zD : D ≠ z := ne_of_none eD nz
        have hzl : zs.length ≤ n := by rw [hZ.1, List.length_take]; omega
        have hnext : ((fuSt rows (i + 1)).1)[n]? = some (wu (((fuSt rows i).1.take j).getD n []) ((fuSt rows i).1.getD j []) j (fuSt rows i).2) := by
          have e : (fuSt rows (i + 1)).1 = ((fuSt rows i).1.take j).map (fun row => wu row ((fuSt rows i).1.getD j []) j (fuSt rows i).2) := by
            rw [← ej]
            rfl
          have hn2 : n < ((fuSt rows i).1.take j).length := by omega
          rw [e, List.getElem?_map, List.getElem?_eq_getElem hn2, getDL hn2]
          rfl
        refine ⟨zs.map V.ref, s5 _ _ eD, by rw [List.length_map]; exact small1000 (by omega), zs ++ [z], ?_, same_new (s4.trans s5) nD3, ?_, ?_, ?_⟩
        · intro h
          rcases List.mem_append.mp h with h | h
          · exact nDz h
          · exact zD (List.mem_singleton.mp h)
        · rw [upd_ne cD]
          exact s5 _ _ ec
        · rw [upd_same, List.map_append]
          rfl
        · rw [take_more hnext]
          exact ((hZ.same s5).upd nDz).snoc (SqL.of (by rw [upd_ne (Ne.symm zD)]; exact ez))
      · rintro H4 ⟨zs, nDz, s4, ec, eD, hZ⟩
        -- last_pivot = pivot_row[unknown]
        refine ⟨_, rfl, _, rfl, pp, _, _, _, rfl, rfl, s4.seq hp, atI_nat (iv_get (by omega)), ?_⟩
        have hnl : (fuSt rows (i + 1)).1.length = j := by rw [fuSt_len rows (i + 1) (by omega)]; omega
        refine ⟨D, zs, some (.int j), some (.ref pp), r, ?_, by omega, sm.trans s4, SqL.of eD, ?_⟩
        · rw [← ej]
          rfl
        · rw [List.length_map, hql, List.take_of_length_le (by omega)] at hZ
          exact hZ
    · rintro σ H3 ⟨la, qs, u, p, r, rfl, hi2, sm, hL, hQ⟩
      have hlen := fuSt_len rows _ hi2
      obtain ⟨pp, gp, hp⟩ := hQ.get (i := 0) (by omega)
      refine ⟨_, rfl, la, _, (0 : Nat), V.ref pp, rfl, rfl, hL, atI_nat (by rw [List.getElem?_map, gp]; rfl), ?_⟩
      exact q H3 pp sm hp
end
end Rt
/-! ### letters.py -/
namespace Rt
open PySem PySem.Spec PyProof.Rows L2
abbrev sAreW : Stmt := top 7
abbrev sIsW : Stmt := top 9
abbrev sAreL : Stmt := top 8
abbrev sEnds : Stmt := top 11
abbrev sCont : Stmt := top 12
abbrev sWend : Stmt := top 13
abbrev sEnt : Stmt := top 15
/-- letters as Python's whole numbers -/
def zi (w : List Nat) : List Int := w.map fun (n : Nat) => (n : Int)
theorem zi_len (w : List Nat) : (zi w).length = w.length := List.length_map ..
theorem zi_drop (w : List Nat) (k : Nat) : (zi w).drop k = zi (w.drop k) := (List.map_drop ..).symm
theorem zi_take (w : List Nat) (k : Nat) : (zi w).take k = zi (w.take k) := (List.map_take ..).symm
theorem zi_get {w : List Nat} {i : Nat} {z : Int} (h : (zi w)[i]? = some z) : ∃ n : Nat, w[i]? = some n ∧ z = (n : Int) := by
  unfold zi at h
  rw [List.getElem?_map] at h
  cases e : w[i]? with
  | none => rw [e] at h; cases h
  | some n => rw [e] at h; exact ⟨n, rfl, (Option.some.inj h).symm⟩
/-! data, to be compared -/
def wD (w : List Nat) : PyData := .list ((zi w).map PyData.int)
theorem ints_lay : ∀ w : List Int, PyData.canLayAll0 (w.map PyData.int) = true
  | [] => by simp [PyData.canLayAll0]
  | z :: w => by simp [PyData.canLayAll0, PyData.canLay0, ints_lay w]
theorem ints_depth : ∀ w : List Int, PyData.depthAll (w.map PyData.int) ≤ 1
  | [] => by simp [PyData.depthAll]
  | z :: w => by
    have h1 := ints_depth w
    simp only [List.map_cons, PyData.depthAll, PyData.depth]
    omega
theorem wD_shaped (w : List Nat) : SeqAt.shaped (wD w) = true := by
  have h2 : PyData.depth (wD w) ≤ 64 := by
    have := ints_depth (zi w)
    simp only [wD, PyData.depth]
    omega
  show (PyData.canLay0 (wD w) && decide (PyData.depth (wD w) ≤ 64)) = true
  rw [Bool.and_eq_true]
  exact ⟨by simp only [wD, PyData.canLay0]; exact ints_lay _, decide_eq_true h2⟩
theorem ints_eqv : ∀ u w : List Int, PyData.eqvAll (u.map PyData.int) (w.map PyData.int) = (u == w)
  | [], [] => by simp [PyData.eqvAll]
  | [], _ :: _ => by simp [PyData.eqvAll]
  | _ :: _, [] => by simp [PyData.eqvAll]
  | x :: u, y :: w => by
    simp only [List.map_cons, PyData.eqvAll, PyData.eqv, ints_eqv u w]
    rfl
theorem zi_inj {u w : List Nat} (h : zi u = zi w) : u = w := by
  unfold zi at h
  exact List.map_inj_right (fun _ _ e => Int.ofNat.inj e) |>.mp h
theorem wD_eqv (u w : List Nat) : PyData.eqv (wD u) (wD w) = (u == w) := by
  show PyData.eqv (.list _) (.list _) = _
  simp only [PyData.eqv]
  rw [ints_eqv]
  by_cases h : u = w
  · subst h; rw [beq_self_eq_true, beq_self_eq_true]
  · rw [beq_eq_false_iff_ne.mpr h, beq_eq_false_iff_ne.mpr fun e => h (zi_inj e)]
theorem dp_ints {K : PySem.W.Frag} {H : Hp} : ∀ w : List Int, DpAll K H (w.map V.int) (w.map PyData.int)
  | [] => .nil
  | z :: w => .cons (.int z) (dp_ints w)
theorem dp_w {K : PySem.W.Frag} {H : Hp} {a : Addr} {w : List Nat} (h : SqL K H a ((zi w).map V.int)) : Dp K H (.ref a) (wD w) := .lst h (dp_ints _)
/-- a slice to the list's end -/
theorem cut_tail (xs : List V) (k : Nat) (h : k ≤ xs.length) : cutV xs (some (k : Int)) none = xs.drop k := by
  unfold cutV
  rw [HT.sIx_none, HT.sIx_nat, Nat.min_eq_left h]
  exact List.take_of_length_le (by rw [List.length_drop]; omega)
/-- enumerate(list) -/
theorem for_enum {K : PySem.W.Frag} {a : Addr} {xs : List V} {g : TG} {tb : TS} {D : Ends} {σ : L2.St} {H : Hp} (Pv : Nat → L2.St → Hp → Prop) (h0 : Pv 0 σ H) (hq : ∀ i σ H, Pv i σ H → SqL K H a xs)
    (hs : ∀ (i : Nat) (x : V) (T : Addr) (σ : L2.St) (H : Hp), xs[i]? = some x → Pv i σ H → H T = none → g (.ref T) σ (upd H T (.tup [.int (i : Nat), x])) fun σ2 H2 => tb { D with nx := Pv (i + 1), ct := Pv (i + 1), bk := D.nx } σ2 H2) (hd : ∀ σ H, Pv xs.length σ H → D.nx σ H) :
    ∃ W : Nat → Nat → L2.St → Hp → Prop, (∃ m, W 0 m σ H) ∧ ∀ i m σ H, W i m σ H →
      ((Ite K a).stop i H ∧ D.nx σ H) ∨ ((Ite K a).go i H ∧ ∃ N : L2.St → Hp → Prop, (∀ σ' H', N σ' H' → ∃ m', m' < m ∧ W (i + 1) m' σ' H') ∧ ∀ v H', (Ite K a).yld i H v H' → g v σ H' fun σ2 H2 => tb { D with nx := N, ct := N, bk := D.nx } σ2 H2) := by
  refine ⟨fun i m σ H => m = xs.length - i ∧ i ≤ xs.length ∧ Pv i σ H, ⟨xs.length, rfl, Nat.zero_le _, h0⟩, ?_⟩
  rintro i m σ H ⟨rfl, hi, p⟩
  have qx := hq i σ H p
  by_cases hlt : i < xs.length
  · have hx : xs[i]? = some xs[i] := List.getElem?_eq_getElem hlt
    refine .inr ⟨⟨xs, _, qx, hx⟩, Pv (i + 1), fun σ' H' p' => ⟨xs.length - (i + 1), by omega, rfl, hlt, p'⟩, fun v H' y => ?_⟩
    obtain ⟨T, x', rfl, hT, rfl, f1⟩ := y
    exact hs i x' T σ H (f1 xs qx) p hT
  · have e : i = xs.length := by omega
    subst e
    exact .inl ⟨⟨xs, qx, Nat.le_refl _⟩, hd σ H p⟩
section
variable {P : Program} {w : World} {K : PySem.W.Frag} {mg : Str → Option Value} {base : Heap}
/-! ### ends_with -/
def spEnds (K : PySem.W.Frag) : Sp := fun vs H Q _ => ∃ (a b : Addr) (u w : List Nat), vs = [.ref a, .ref b] ∧ SqL K H a ((zi u).map V.int) ∧ SqL K H b ((zi w).map V.int) ∧ ∀ H', Same H H' → Q (.bl (Uw53.ends w u)) H'
theorem scEnds : FnScope ["sequence", "part"] ["sequence", "part"] (defScope sEnds) := ⟨rfl, rfl, rfl, by decide +kernel, rfl, by decide +kernel, by decide +kernel⟩
theorem ok_ends {f : Addr} {fd : FuncData} {k : Nat} (F : Fun K "ends_with" "ends_with" sEnds f fd) (ml : mg "len" = none) : FnOk P w K mg base CX0 (k + 1) f fd ["sequence", "part"] (spEnds K) := by
  refine F.ok scEnds (fun vs H Q E h => ?_) (fun cdv A outer s H vs Q E hr h => ?_)
  · obtain ⟨a, b, u, w, rfl, _⟩ := h
    rfl
  · obtain ⟨a, b, u, w, rfl, hA, hB, q⟩ := h
    refine ⟨_, pss_cons (ps_if (pt_cmpR op_gt (pe_callB call_len_seq (by rfl) ml PySem.boot_len (pa_cons (pv 1) pa_nil)) (pe_callB call_len_seq (by rfl) ml PySem.boot_len (pa_cons (pv 0) pa_nil)) (nomark _))
        (pss_one (ps_ret pe_bl)) pss_nil)
      (pss_one (ps_ret (pe_cmpR (op_eqD hr.units) (pe_slice sl_list (pv 0) (po_some (pe_op op_sub (pe_callB call_len_seq (by rfl) ml PySem.boot_len (pa_cons (pv 0) pa_nil)) (pe_callB call_len_seq (by rfl) ml PySem.boot_len (pa_cons (pv 1) pa_nil)))) po_none) (pv 1) (nomark _)))), ?_⟩
    refine ⟨_, rfl, b, _, rfl, .inl hB, _, rfl, a, _, rfl, .inl hA, _, _, rfl, rfl, _, rfl, ite2 (fun e => ?_) (fun e => ?_)⟩
    · have e1 := of_decide_eq_true e
      rw [List.length_map, List.length_map, zi_len, zi_len] at e1
      have : Uw53.ends w u = false := by
        show (decide (w.length ≤ u.length) && _) = false
        rw [decide_eq_false (by omega), Bool.false_and]
      rw [this] at q
      exact q H (Same.refl H)
    · have e1 : ¬ ((List.map V.int (zi u)).length : Int) < (List.map V.int (zi w)).length := fun z => e (decide_eq_true z)
      have hl : w.length ≤ u.length := by
        rw [List.length_map, List.length_map, zi_len, zi_len] at e1
        omega
      refine ⟨_, rfl, _, rfl, a, _, rfl, .inl hA, _, rfl, b, _, rfl, .inl hB, _, _, rfl, rfl, _, rfl, a, _, rfl, hA, fun c nc => ?_⟩
      have sc : Same H (upd H c (.lst (cutV ((zi u).map V.int) (some (((zi u).map V.int).length - ((zi w).map V.int).length)) none))) := same_upd nc
      have ecut : cutV ((zi u).map V.int) (some (((zi u).map V.int).length - ((zi w).map V.int).length)) none = (zi (u.drop (u.length - w.length))).map V.int := by
        have : (((zi u).map V.int).length : Int) - ((zi w).map V.int).length = ((u.length - w.length : Nat) : Int) := by
          rw [List.length_map, List.length_map, zi_len, zi_len]; omega
        rw [this, cut_tail _ _ (by rw [List.length_map, zi_len]; omega), ← List.map_drop, zi_drop]
      refine ⟨_, rfl, wD (u.drop (u.length - w.length)), wD w, dp_w (SqL.of (by rw [upd_same, ecut])), dp_w (sc.seq hB), wD_shaped _, wD_shaped _, ?_⟩
      rw [wD_eqv]
      have : (u.drop (u.length - w.length) == w) = Uw53.ends w u := by
        show _ = (decide (w.length ≤ u.length) && _)
        rw [decide_eq_true hl, Bool.true_and]
      rw [this]
      exact q _ sc
end
end Rt
/-! ### letters.py, the rest -/
namespace Rt
open PySem PySem.Spec PyProof.Rows L2
theorem ifT {c : Bool} {A B : Prop} (hc : c = true) (h : A) : if c = true then A else B := by
  rw [if_pos hc]
  exact h
theorem ifF {c : Bool} {A B : Prop} (hc : c = false) (h : B) : if c = true then A else B := by
  rw [hc, if_neg Bool.false_ne_true]
  exact h
def optV : Option Nat → V
  | none => .non
  | some i => .int (i : Nat)
theorem stands_true {w u : List Nat} {k : Nat} (hk : k ≤ u.length) (h : Uw53.ends w (u.take k) = true) : Uw53.stands w u = true := by
  unfold Uw53.stands
  exact List.any_eq_true.mpr ⟨k, List.mem_range.mpr (by omega), h⟩
theorem stands_false {w u : List Nat} (h : ∀ k, k ≤ u.length → Uw53.ends w (u.take k) = false) : Uw53.stands w u = false := by
  cases e : Uw53.stands w u with
  | false => rfl
  | true =>
    unfold Uw53.stands at e
    obtain ⟨k, hk, h2⟩ := List.any_eq_true.mp e
    rw [h k (by have := List.mem_range.mp hk; omega)] at h2
    cases h2
theorem ends_short {w u : List Nat} (h : u.length < w.length) : Uw53.ends w u = false := by
  show (decide (w.length ≤ u.length) && _) = false
  rw [decide_eq_false (by omega), Bool.false_and]
theorem find_here {a : Type} {l : List a} {p : a → Bool} {i : Nat} {x : a} (hx : l[i]? = some x) (hp : p x = true) (hn : ∀ (j : Nat) (y : a), j < i → l[j]? = some y → p y = false) : l.findIdx? p = some i := by
  obtain ⟨hi, e⟩ := List.getElem?_eq_some_iff.mp hx
  refine List.findIdx?_eq_some_iff_getElem.mpr ⟨hi, by rw [e]; exact hp, fun j hj => ?_⟩
  rw [hn j _ hj (List.getElem?_eq_getElem (by omega))]
  exact Bool.false_ne_true
theorem find_none {a : Type} {l : List a} {p : a → Bool} (hn : ∀ (j : Nat) (y : a), l[j]? = some y → p y = false) : l.findIdx? p = none := by
  refine List.findIdx?_eq_none_iff.mpr fun x hx => ?_
  obtain ⟨j, hj, e⟩ := List.getElem_of_mem hx
  exact hn j x (by rw [List.getElem?_eq_getElem hj, e])
theorem zis_get {ws : List (List Nat)} {i : Nat} {w : List Nat} (h : ws[i]? = some w) : (ws.map zi)[i]? = some (zi w) := by
  rw [List.getElem?_map, h]
  rfl
theorem ref_at {ps : List Addr} {i : Nat} {x : V} (h : (ps.map V.ref)[i]? = some x) : ∃ p, ps[i]? = some p ∧ x = V.ref p := by
  rw [List.getElem?_map] at h
  cases e : ps[i]? with
  | none => rw [e] at h; cases h
  | some z => rw [e] at h; exact ⟨z, rfl, (Option.some.inj h).symm⟩
theorem RowsAt.word {K : PySem.W.Frag} {H : Hp} {ps : List Addr} {ws : List (List Nat)} (h : RowsAt K H ps (ws.map zi)) {i : Nat} {p : Addr} (hp : ps[i]? = some p) : ∃ w, ws[i]? = some w ∧ SqL K H p ((zi w).map V.int) := by
  have hi : i < ps.length := (List.getElem?_eq_some_iff.mp hp).1
  have h1 := h.1
  rw [List.length_map] at h1
  have hw : ws[i]? = some ws[i] := List.getElem?_eq_getElem (by omega)
  exact ⟨_, hw, h.2 i p _ hp (zis_get hw)⟩
section
variable {P : Program} {w : World} {K : PySem.W.Frag} {mg : Str → Option Value} {base : Heap}
/-! ### is_contained -/
def spCont (K : PySem.W.Frag) : Sp := fun vs H Q _ => ∃ (a b : Addr) (w u : List Nat), vs = [.ref a, .ref b] ∧ SqL K H a ((zi w).map V.int) ∧ SqL K H b ((zi u).map V.int) ∧ w.length ≤ 1000 ∧ u.length ≤ 1000 ∧ ∀ H', Same H H' → Q (.bl (Uw53.stands w u)) H'
theorem scCont : FnScope ["part", "sequence", "end"] ["part", "sequence"] (defScope sCont) := ⟨rfl, rfl, rfl, by decide +kernel, rfl, by decide +kernel, by decide +kernel⟩
theorem ok_cont {f fE : Addr} {fd fdE : FuncData} {k : Nat} (F : Fun K "is_contained" "is_contained" sCont f fd) (FE : Fun K "ends_with" "ends_with" sEnds fE fdE) (bE : Binds K fdE ["sequence", "part"] []) (gE : mg "ends_with" = some (.ref fE)) (ml : mg "len" = none) (mr : mg "range" = none) :
    FnOk P w K mg base CX0 (k + 2) f fd ["part", "sequence"] (spCont K) := by
  have GE : FnOk P w K mg base CX0 (k + 1) fE fdE ["sequence", "part"] (spEnds K) := ok_ends FE ml
  refine F.ok scCont (fun vs H Q E h => ?_) (fun cdv A outer s H vs Q E hr h => ?_)
  · obtain ⟨a, b, w, u, rfl, _⟩ := h
    rfl
  · obtain ⟨a, b, w, u, rfl, hA, hB, lw, lu, q⟩ := h
    refine ⟨_, pss_cons (ps_for PassesOwn.never rfl (pi_range2 (by rfl) mr (pa_cons (pe_callB call_len_seq (by rfl) ml PySem.boot_len (pa_cons (pv 0) pa_nil)) (pa_cons (pe_op op_add (pe_callB call_len_seq (by rfl) ml PySem.boot_len (pa_cons (pv 1) pa_nil)) pe_int) pa_nil)))
        (pg_name (i := 2) scCont.nd rfl (.inl rfl))
        (pss_one (ps_if (pt_val (pe_call GE hr (by rfl) gE FE.kp bE .nil pass0 (pa_cons (pe_slice sl_list (pv 1) po_none (po_some (pv 2))) (pa_cons (pv 0) pa_nil))))
          (pss_one (ps_ret pe_bl)) pss_nil)))
      (pss_one (ps_ret pe_bl)), ?_⟩
    have la : ((zi w).map V.int).length = w.length := by rw [List.length_map, zi_len]
    have lb : ((zi u).map V.int).length = u.length := by rw [List.length_map, zi_len]
    refine ⟨_, rfl, a, _, rfl, .inl hA, _, rfl, b, _, rfl, .inl hB, _, _, rfl, rfl, _, _, rfl, ⟨by rw [la]; omega, by rw [la]; omega, by rw [lb]; omega, by rw [lb]; omega⟩, ?_⟩
    refine for_range (fun i σ H3 => ∃ e, σ = [some (.ref a), some (.ref b), e] ∧ Same H H3 ∧ ∀ j, j < w.length + i → Uw53.ends w (u.take j) = false)
      ⟨none, rfl, Same.refl H, fun j hj => ends_short (by rw [List.length_take]; omega)⟩ ?_ ?_
    · rintro i σ H3 hi ⟨e, rfl, sm, no⟩
      have hiu : w.length + i ≤ u.length := by rw [la, lb] at hi; omega
      have ej : (((zi w).map V.int).length : Int) + (i : Nat) = ((w.length + i : Nat) : Int) := by rw [la]; omega
      rw [ej]
      refine ⟨_, rfl, _, rfl, _, rfl, b, _, rfl, sm.seq hB, fun c nc => ?_⟩
      rw [cut_head _ _ (by rw [lb]; omega), ← List.map_take, zi_take]
      refine ⟨_, rfl, c, a, u.take (w.length + i), w, rfl, SqL.of upd_same, (same_upd nc).seq (sm.seq hA), fun H4 s4 => ?_⟩
      have s5 : Same H H4 := sm.trans ((same_upd nc).trans s4)
      refine ⟨_, rfl, ite2 (fun e => ?_) (fun e => ?_)⟩
      · have := stands_true hiu e
        rw [this] at q
        exact q H4 s5
      · refine ⟨_, rfl, s5, fun j hj => ?_⟩
        by_cases c : j < w.length + i
        · exact no j c
        · have : j = w.length + i := by omega
          rw [this]
          exact Bool.eq_false_iff.mpr e
    · rintro σ H3 ⟨e, rfl, sm, no⟩
      have : Uw53.stands w u = false := stands_false fun j hj => by
        by_cases c : j < w.length
        · exact ends_short (by rw [List.length_take]; omega)
        · exact no j (by rw [la, lb]; omega)
      rw [this] at q
      exact q H3 sm
/-! ### word_at_end -/
def spWend (K : PySem.W.Frag) : Sp := fun vs H Q _ => ∃ (a b : Addr) (ps : List Addr) (ws : List (List Nat)) (u : List Nat), vs = [.ref a, .ref b] ∧ SqL K H a (ps.map V.ref) ∧ RowsAt K H ps (ws.map zi) ∧ SqL K H b ((zi u).map V.int) ∧
  ∀ H', Same H H' → Q (optV (Uw53.ended ws u)) H'
theorem scWend : FnScope ["words", "sequence", "number", "word"] ["words", "sequence"] (defScope sWend) := ⟨rfl, rfl, rfl, by decide +kernel, rfl, by decide +kernel, by decide +kernel⟩
theorem ok_wend {f fE : Addr} {fd fdE : FuncData} {k : Nat} (F : Fun K "word_at_end" "word_at_end" sWend f fd) (FE : Fun K "ends_with" "ends_with" sEnds fE fdE) (bE : Binds K fdE ["sequence", "part"] []) (gE : mg "ends_with" = some (.ref fE)) (ml : mg "len" = none) (me : mg "enumerate" = none) :
    FnOk P w K mg base CX0 (k + 2) f fd ["words", "sequence"] (spWend K) := by
  have GE : FnOk P w K mg base CX0 (k + 1) fE fdE ["sequence", "part"] (spEnds K) := ok_ends FE ml
  refine F.ok scWend (fun vs H Q E h => ?_) (fun cdv A outer s H vs Q E hr h => ?_)
  · obtain ⟨a, b, ps, ws, u, rfl, _⟩ := h
    rfl
  · obtain ⟨a, b, ps, ws, u, rfl, hA, hP, hB, q⟩ := h
    refine ⟨_, pss_cons (ps_for PassesOwn.never rfl (pi_enum (by rfl) me (pa_cons (pv 0) pa_nil))
        (pg_tup rfl (pgs_cons (pg_name (i := 2) scWend.nd rfl (.inl rfl)) (pgs_cons (pg_name (i := 3) scWend.nd rfl (.inl rfl)) pgs_nil)))
        (pss_one (ps_if (pt_val (pe_call GE hr (by rfl) gE FE.kp bE .nil pass0 (pa_cons (pv 1) (pa_cons (pv 3) pa_nil))))
          (pss_one (ps_ret (pv 2))) pss_nil)))
      (pss_one (ps_ret pe_non)), ?_⟩
    refine ⟨_, rfl, a, _, rfl, hA, ?_⟩
    refine for_enum (fun i σ H3 => ∃ y z, σ = [some (.ref a), some (.ref b), y, z] ∧ Same H H3 ∧ ∀ j y, j < i → ws[j]? = some y → Uw53.ends y u = false)
      ⟨none, none, rfl, Same.refl H, fun j y hj => absurd hj (by omega)⟩ (fun i σ H3 ⟨_, _, _, sm, _⟩ => sm.seq hA) ?_ ?_
    · rintro i x T σ H3 hx ⟨y, z, rfl, sm, no⟩ nT
      obtain ⟨p, gp, rfl⟩ := ref_at hx
      obtain ⟨v, gv, hv⟩ := (hP.same (sm.trans (same_upd (o := .tup [.int (i : Nat), .ref p]) nT))).word gp
      have sT := sm.trans (same_upd (o := .tup [.int (i : Nat), .ref p]) nT)
      refine ⟨T, [_, _], rfl, .inl (.inl upd_same), rfl, _, [_], rfl, _, [], rfl, rfl, ?_⟩
      refine ⟨_, rfl, _, rfl, b, p, u, v, rfl, sT.seq hB, hv, fun H4 s4 => ?_⟩
      refine ⟨_, rfl, ite2 (fun e => ?_) (fun e => ?_)⟩
      · have : Uw53.ended ws u = some i := find_here gv e no
        rw [this] at q
        exact ⟨_, rfl, q H4 (sT.trans s4)⟩
      · refine ⟨_, _, rfl, sT.trans s4, fun j y hj hy => ?_⟩
        by_cases c : j < i
        · exact no j y c hy
        · have : j = i := by omega
          subst this
          have e2 : v = y := Option.some.inj (gv.symm.trans hy)
          rw [← e2]
          exact Bool.eq_false_iff.mpr e
    · rintro σ H3 ⟨y, z, rfl, sm, no⟩
      have h1 := hP.1
      rw [List.length_map] at h1
      have : Uw53.ended ws u = none := find_none fun j y hy => no j y (by
        rw [List.length_map, h1]
        exact (List.getElem?_eq_some_iff.mp hy).1) hy
      rw [this] at q
      exact q H3 sm
end
end Rt
/-! ### letters.py: entangled_word, is_word, are_weights -/
namespace Rt
open PySem PySem.Spec PyProof.Rows L2
/-- the name x of the module holds the number n -/
def Num (mg : Str → Option Value) (x : Str) (n : Int) : Prop := ∃ t, mg x = some (.int n t)
/-- len of a list or a tuple -/
def rLen (K : PySem.W.Frag) : List V → Hp → VK → Prop := fun xs H Q => ∃ p ys, xs = [.ref p] ∧ (SqL K H p ys ∨ SqT K H p ys) ∧ Q (.int ys.length) H
theorem bl_at {bs : List Bool} {i : Nat} {b : Bool} (h : bs[i]? = some b) : (bs.map V.bl)[i]? = some (V.bl b) := by
  rw [List.getElem?_map, h]
  rfl
section
variable {P : Program} {w : World} {K : PySem.W.Frag} {mg : Str → Option Value} {base : Heap}
/-! ### entangled_word -/
def clash (ws : List (List Nat)) (w : List Nat) : Option Nat := ws.findIdx? fun v => Uw53.stands v w || Uw53.stands w v
def spEnt (K : PySem.W.Frag) : Sp := fun vs H Q _ => ∃ (a b : Addr) (ps : List Addr) (ws : List (List Nat)) (u : List Nat), vs = [.ref a, .ref b] ∧ SqL K H a (ps.map V.ref) ∧ RowsAt K H ps (ws.map zi) ∧ SqL K H b ((zi u).map V.int) ∧
  u.length ≤ 1000 ∧ (∀ v, v ∈ ws → v.length ≤ 1000) ∧ ∀ H', Same H H' → Q (optV (clash ws u)) H'
theorem scEnt : FnScope ["words", "letters", "number", "word"] ["words", "letters"] (defScope sEnt) := ⟨rfl, rfl, rfl, by decide +kernel, rfl, by decide +kernel, by decide +kernel⟩
theorem ok_ent {f fE fC : Addr} {fd fdE fdC : FuncData} {k : Nat} (F : Fun K "entangled_word" "entangled_word" sEnt f fd) (FC : Fun K "is_contained" "is_contained" sCont fC fdC) (bC : Binds K fdC ["part", "sequence"] []) (gC : mg "is_contained" = some (.ref fC))
    (FE : Fun K "ends_with" "ends_with" sEnds fE fdE) (bE : Binds K fdE ["sequence", "part"] []) (gE : mg "ends_with" = some (.ref fE)) (ml : mg "len" = none) (me : mg "enumerate" = none) (mr : mg "range" = none) :
    FnOk P w K mg base CX0 (k + 3) f fd ["words", "letters"] (spEnt K) := by
  have GC : FnOk P w K mg base CX0 (k + 2) fC fdC ["part", "sequence"] (spCont K) := ok_cont FC FE bE gE ml mr
  refine F.ok scEnt (fun vs H Q E h => ?_) (fun cdv A outer s H vs Q E hr h => ?_)
  · obtain ⟨a, b, ps, ws, u, rfl, _⟩ := h
    rfl
  · obtain ⟨a, b, ps, ws, u, rfl, hA, hP, hB, lu, lws, q⟩ := h
    refine ⟨_, pss_cons (ps_for PassesOwn.never rfl (pi_enum (by rfl) me (pa_cons (pv 0) pa_nil))
        (pg_tup rfl (pgs_cons (pg_name (i := 2) scEnt.nd rfl (.inl rfl)) (pgs_cons (pg_name (i := 3) scEnt.nd rfl (.inl rfl)) pgs_nil)))
        (pss_one (ps_if (PW.pt (pw_or (pt_val (pe_call GC hr (by rfl) gC FC.kp bC .nil pass0 (pa_cons (pv 3) (pa_cons (pv 1) pa_nil)))) (pw_or1 (pt_val (pe_call GC hr (by rfl) gC FC.kp bC .nil pass0 (pa_cons (pv 1) (pa_cons (pv 3) pa_nil)))))))
          (pss_one (ps_ret (pv 2))) pss_nil)))
      (pss_one (ps_ret pe_non)), ?_⟩
    refine ⟨_, rfl, a, _, rfl, hA, ?_⟩
    refine for_enum (fun i σ H3 => ∃ y z, σ = [some (.ref a), some (.ref b), y, z] ∧ Same H H3 ∧ ∀ (j : Nat) (y : List Nat), j < i → ws[j]? = some y → (Uw53.stands y u || Uw53.stands u y) = false)
      ⟨none, none, rfl, Same.refl H, fun j y hj => absurd hj (by omega)⟩ (fun i σ H3 ⟨_, _, _, sm, _⟩ => sm.seq hA) ?_ ?_
    · rintro i x T σ H3 hx ⟨y, z, rfl, sm, no⟩ nT
      obtain ⟨p, gp, rfl⟩ := ref_at hx
      have sT := sm.trans (same_upd (o := .tup [.int (i : Nat), .ref p]) nT)
      obtain ⟨v, gv, hv⟩ := (hP.same sT).word gp
      have lv : v.length ≤ 1000 := lws v (List.mem_of_getElem? gv)
      have hit : (Uw53.stands v u || Uw53.stands u v) = true → clash ws u = some i := fun e => find_here gv e no
      have miss : (Uw53.stands v u || Uw53.stands u v) = false → ∀ (j : Nat) (y : List Nat), j < i + 1 → ws[j]? = some y → (Uw53.stands y u || Uw53.stands u y) = false := by
        intro e j y hj hy
        by_cases c : j < i
        · exact no j y c hy
        · have : j = i := by omega
          subst this
          have e2 : v = y := Option.some.inj (gv.symm.trans hy)
          rw [← e2]
          exact e
      refine ⟨T, [_, _], rfl, .inl (.inl upd_same), rfl, _, [_], rfl, _, [], rfl, rfl, ?_⟩
      refine ⟨_, rfl, _, rfl, p, b, v, u, rfl, hv, sT.seq hB, lv, lu, fun H4 s4 => ?_⟩
      refine ⟨_, rfl, ite2 (fun e => ?_) (fun e => ?_)⟩
      · refine iteT ?_
        have := hit (by rw [e]; rfl)
        rw [this] at q
        exact ⟨_, rfl, q H4 (sT.trans s4)⟩
      · refine ⟨_, rfl, _, rfl, b, p, u, v, rfl, (sT.trans s4).seq hB, s4.seq hv, lu, lv, fun H5 s5 => ?_⟩
        refine ⟨_, rfl, ite2 (fun e2 => ?_) (fun e2 => ?_)⟩
        · have := hit (by rw [e2, Bool.or_true])
          rw [this] at q
          exact ⟨_, rfl, q H5 ((sT.trans s4).trans s5)⟩
        · exact ⟨_, _, rfl, (sT.trans s4).trans s5, miss (by rw [Bool.eq_false_iff.mpr e, Bool.eq_false_iff.mpr e2]; rfl)⟩
    · rintro σ H3 ⟨y, z, rfl, sm, no⟩
      have h1 := hP.1
      rw [List.length_map] at h1
      have : clash ws u = none := find_none fun j y hy => no j y (by
        rw [List.length_map, h1]
        exact (List.getElem?_eq_some_iff.mp hy).1) hy
      rw [this] at q
      exact q H3 sm
/-! ### are_letters -/
def lets (n : Nat) (u : List Nat) : Bool := u.all fun x => decide (x < n)
def spAreL (K : PySem.W.Frag) : Sp := fun vs H Q _ => ∃ (a b : Addr) (u : List Nat) (ys : List V), vs = [.ref a, .ref b] ∧ SqL K H a ((zi u).map V.int) ∧ SqL K H b ys ∧ u.length ≤ 1000 ∧ ∀ H', Same H H' → Q (.bl (lets ys.length u)) H'
theorem scAreL : FnScope ["numbers", "weights", "number"] ["numbers", "weights"] (defScope sAreL) := ⟨rfl, rfl, rfl, by decide +kernel, rfl, by decide +kernel, by decide +kernel⟩
theorem ok_areL {f : Addr} {fd : FuncData} {k : Nat} (F : Fun K "are_letters" "are_letters" sAreL f fd) (ml : mg "len" = none) (ma : mg "all" = none) : FnOk P w K mg base CX0 (k + 1) f fd ["numbers", "weights"] (spAreL K) := by
  refine F.ok scAreL (fun vs H Q E h => ?_) (fun cdv A outer s H vs Q E hr h => ?_)
  · obtain ⟨a, b, u, ys, rfl, _⟩ := h
    rfl
  · obtain ⟨a, b, u, ys, rfl, hA, hB, lu, q⟩ := h
    refine ⟨_, pss_one (ps_ret (pe_callB (cr_all rfl) (by rfl) ma (by decide +kernel) (pa_cons (pe_lc (own := [("number", 2)]) (g := gName 2) (tt := tYes) rfl scAreL.nd (pi_list (pv 0)) (blkOk_by (N := ["numbers", "weights", "number"]) (sc := defScope sAreL) (by decide +kernel)) (fun _ _ _ _ _ => pg_name (i := 2) scAreL.nd rfl (Or.inl rfl)) (fun _ _ _ _ _ => pts_nil)
        (fun _ _ _ _ _ => pe_chain op_le op_lt pe_int (pv 2) (pe_callB (r := rLen K) call_len_seq (by rfl) ml PySem.boot_len (pa_cons (pv 1) pa_nil)))) pa_nil))), ?_⟩
    have la : ((zi u).map V.int).length = u.length := by rw [List.length_map, zi_len]
    refine ⟨_, rfl, a, rfl, ⟨_, hA⟩, fun D nD => ?_⟩
    refine lc_list (K := K) (a := a) (xs := (zi u).map V.int) (fun n H4 => Same H H4 ∧ H4 D = some (.lst ((((u.map fun x => decide (x < ys.length)).take n)).map V.bl))) ⟨same_upd nD, upd_same⟩ (fun n H4 _ ⟨s4, _⟩ => s4.seq hA) ?_ ?_
    · rintro n x H4 hx ⟨s4, eD⟩
      obtain ⟨z, gz, rfl⟩ := iv_at hx
      obtain ⟨m, gm, rfl⟩ := zi_get gz
      have hn : n < u.length := (List.getElem?_eq_some_iff.mp gm).1
      refine ⟨rfl, lc_yes ?_⟩
      refine ⟨_, rfl, _, _, rfl, rfl, _, rfl, ifT (decide_eq_true (by omega)) ?_⟩
      refine ⟨_, rfl, b, _, rfl, .inl (s4.seq hB), _, _, rfl, rfl, _, eD, ?_, same_new s4 nD, ?_⟩
      · rw [List.length_map, List.length_take, List.length_map]
        exact Nat.lt_of_le_of_lt (Nat.min_le_left _ _) (small1000 (by omega))
      · rw [upd_same, take_more (x := decide (m < ys.length)), List.map_append]
        · have : decide ((m : Int) < (ys.length : Int)) = decide (m < ys.length) := decide_eq_decide.mpr (by omega)
          show some (HO.lst (_ ++ [V.bl (decide ((m : Int) < (ys.length : Int)))])) = _
          rw [this]
          rfl
        · rw [List.getElem?_map, gm]
          rfl
    · rintro H4 ⟨s4, eD⟩
      rw [la, List.take_of_length_le (by rw [List.length_map]; exact Nat.le_refl _)] at eD
      refine ⟨D, _, rfl, SqL.of eD, ?_⟩
      have : (u.map fun x => decide (x < ys.length)).all id = lets ys.length u := by
        unfold lets
        rw [List.all_map]
        rfl
      rw [this]
      exact q H4 s4
/-! ### is_word -/
def isW (n : Nat) (u : List Nat) : Bool := decide (1 ≤ u.length) && (decide (u.length ≤ 5) && u.all fun x => decide (x < n))
def spIsW (K : PySem.W.Frag) : Sp := fun vs H Q _ => ∃ (a b : Addr) (u : List Nat) (ys : List V), vs = [.ref a, .ref b] ∧ SqL K H a ((zi u).map V.int) ∧ SqL K H b ys ∧ ∀ H', Same H H' → Q (.bl (isW ys.length u)) H'
theorem scIsW : FnScope ["numbers", "weights"] ["numbers", "weights"] (defScope sIsW) := ⟨rfl, rfl, rfl, by decide +kernel, rfl, by decide +kernel, by decide +kernel⟩
theorem ok_isW {f fL : Addr} {fd fdL : FuncData} {k : Nat} (F : Fun K "is_word" "is_word" sIsW f fd) (FL : Fun K "are_letters" "are_letters" sAreL fL fdL) (bL : Binds K fdL ["numbers", "weights"] []) (gL : mg "are_letters" = some (.ref fL)) (c1 : Num mg "SHORTEST_WORD" 1) (c2 : Num mg "LONGEST_WORD" 5) (ml : mg "len" = none) (ma : mg "all" = none) : FnOk P w K mg base CX0 (k + 2) f fd ["numbers", "weights"] (spIsW K) := by
  have GL : FnOk P w K mg base CX0 (k + 1) fL fdL ["numbers", "weights"] (spAreL K) := ok_areL FL ml ma
  obtain ⟨t1, c1⟩ := c1
  obtain ⟨t2, c2⟩ := c2
  refine F.ok scIsW (fun vs H Q E h => ?_) (fun cdv A outer s H vs Q E hr h => ?_)
  · obtain ⟨a, b, u, ys, rfl, _⟩ := h
    rfl
  · obtain ⟨a, b, u, ys, rfl, hA, hB, q⟩ := h
    refine ⟨_, pss_cons (ps_if (PW.pt (pw_or (pt_cmpR op_lt (pe_callB call_len_seq (by rfl) ml PySem.boot_len (pa_cons (pv 0) pa_nil)) (pe_glob (v := .int 1) rfl c1 ⟨_, rfl⟩) (nomark _)) (pw_or1 (pt_cmpR op_gt (pe_callB call_len_seq (by rfl) ml PySem.boot_len (pa_cons (pv 0) pa_nil)) (pe_glob (v := .int 5) rfl c2 ⟨_, rfl⟩) (nomark _)))))
        (pss_one (ps_ret pe_bl)) pss_nil)
      (pss_one (ps_ret (pe_call GL hr (by rfl) gL FL.kp bL .nil pass0 (pa_cons (pv 0) (pa_cons (pv 1) pa_nil))))), ?_⟩
    have la : ((zi u).map V.int).length = u.length := by rw [List.length_map, zi_len]
    refine ⟨_, rfl, a, _, rfl, .inl hA, _, _, rfl, rfl, _, rfl, ite2 (fun e => ?_) (fun e => ?_)⟩
    · have e1 := of_decide_eq_true e
      rw [la] at e1
      have : isW ys.length u = false := by
        unfold isW
        rw [decide_eq_false (by omega), Bool.false_and]
      rw [this] at q
      exact iteT (q H (Same.refl H))
    · have e1 : ¬ ((((zi u).map V.int).length : Int) < 1) := fun z => e (decide_eq_true z)
      rw [la] at e1
      refine ⟨_, rfl, a, _, rfl, .inl hA, _, _, rfl, rfl, _, rfl, ite2 (fun e2 => ?_) (fun e2 => ?_)⟩
      · have e3 := of_decide_eq_true e2
        rw [la] at e3
        have : isW ys.length u = false := by
          unfold isW
          rw [decide_eq_false (show ¬ u.length ≤ 5 by omega), Bool.false_and, Bool.and_false]
        rw [this] at q
        exact q H (Same.refl H)
      · have e3 : ¬ ((5 : Int) < ((zi u).map V.int).length) := fun z => e2 (decide_eq_true z)
        rw [la] at e3
        refine ⟨_, rfl, _, rfl, a, b, u, ys, rfl, hA, hB, by omega, fun H4 s4 => ?_⟩
        have : lets ys.length u = isW ys.length u := by
          unfold isW lets
          rw [decide_eq_true (by omega), decide_eq_true (by omega), Bool.true_and, Bool.true_and]
        rw [this]
        exact q H4 s4
/-! ### are_weights -/
def areW (u : List Nat) : Bool := decide (2 ≤ u.length) && (decide (u.length ≤ 3) && u.all fun x => decide (1 ≤ x) && decide (x ≤ 10))
def spAreW (K : PySem.W.Frag) : Sp := fun vs H Q _ => ∃ (a : Addr) (u : List Nat), vs = [.ref a] ∧ SqL K H a ((zi u).map V.int) ∧ ∀ H', Same H H' → Q (.bl (areW u)) H'
theorem scAreW : FnScope ["numbers", "number"] ["numbers"] (defScope sAreW) := ⟨rfl, rfl, rfl, by decide +kernel, rfl, by decide +kernel, by decide +kernel⟩
theorem ok_areW {f : Addr} {fd : FuncData} {k : Nat} (F : Fun K "are_weights" "are_weights" sAreW f fd) (c1 : Num mg "FEWEST_LETTERS" 2) (c2 : Num mg "MOST_LETTERS" 3) (c3 : Num mg "LEAST_WEIGHT" 1) (c4 : Num mg "GREATEST_WEIGHT" 10) (ml : mg "len" = none) (ma : mg "all" = none) : FnOk P w K mg base CX0 (k + 1) f fd ["numbers"] (spAreW K) := by
  obtain ⟨t1, c1⟩ := c1
  obtain ⟨t2, c2⟩ := c2
  obtain ⟨t3, c3⟩ := c3
  obtain ⟨t4, c4⟩ := c4
  refine F.ok scAreW (fun vs H Q E h => ?_) (fun cdv A outer s H vs Q E hr h => ?_)
  · obtain ⟨a, u, rfl, _⟩ := h
    rfl
  · obtain ⟨a, u, rfl, hA, q⟩ := h
    refine ⟨_, pss_cons (ps_if (PW.pt (pw_or (pt_cmpR op_lt (pe_callB call_len_seq (by rfl) ml PySem.boot_len (pa_cons (pv 0) pa_nil)) (pe_glob (v := .int 2) rfl c1 ⟨_, rfl⟩) (nomark _)) (pw_or1 (pt_cmpR op_gt (pe_callB call_len_seq (by rfl) ml PySem.boot_len (pa_cons (pv 0) pa_nil)) (pe_glob (v := .int 3) rfl c2 ⟨_, rfl⟩) (nomark _)))))
        (pss_one (ps_ret pe_bl)) pss_nil)
      (pss_one (ps_ret (pe_callB (cr_all rfl) (by rfl) ma (by decide +kernel) (pa_cons (pe_lc (own := [("number", 1)]) (g := gName 1) (tt := tYes) rfl scAreW.nd (pi_list (pv 0)) (blkOk_by (N := ["numbers", "number"]) (sc := defScope sAreW) (by decide +kernel)) (fun _ _ _ _ _ => pg_name (i := 1) scAreW.nd rfl (Or.inl rfl)) (fun _ _ _ _ _ => pts_nil)
        (fun _ _ _ _ _ => pe_chain op_le op_le (pe_glob (v := .int 1) rfl c3 ⟨_, rfl⟩) (pv 1) (pe_glob (v := .int 10) rfl c4 ⟨_, rfl⟩))) pa_nil)))), ?_⟩
    have la : ((zi u).map V.int).length = u.length := by rw [List.length_map, zi_len]
    refine ⟨_, rfl, a, _, rfl, .inl hA, _, _, rfl, rfl, _, rfl, ite2 (fun e => ?_) (fun e => ?_)⟩
    · have e1 := of_decide_eq_true e
      rw [la] at e1
      have : areW u = false := by
        unfold areW
        rw [decide_eq_false (by omega), Bool.false_and]
      rw [this] at q
      exact iteT (q H (Same.refl H))
    · have e1 : ¬ ((((zi u).map V.int).length : Int) < 2) := fun z => e (decide_eq_true z)
      rw [la] at e1
      refine ⟨_, rfl, a, _, rfl, .inl hA, _, _, rfl, rfl, _, rfl, ite2 (fun e2 => ?_) (fun e2 => ?_)⟩
      · have e3 := of_decide_eq_true e2
        rw [la] at e3
        have : areW u = false := by
          unfold areW
          rw [decide_eq_false (show ¬ u.length ≤ 3 by omega), Bool.false_and, Bool.and_false]
        rw [this] at q
        exact q H (Same.refl H)
      · have e3 : ¬ ((3 : Int) < ((zi u).map V.int).length) := fun z => e2 (decide_eq_true z)
        rw [la] at e3
        refine ⟨_, rfl, a, rfl, ⟨_, hA⟩, fun D nD => ?_⟩
        refine lc_list (K := K) (a := a) (xs := (zi u).map V.int) (fun n H4 => Same H H4 ∧ H4 D = some (.lst ((((u.map fun x => decide (1 ≤ x) && decide (x ≤ 10)).take n)).map V.bl))) ⟨same_upd nD, upd_same⟩ (fun n H4 _ ⟨s4, _⟩ => s4.seq hA) ?_ ?_
        · rintro n x H4 hx ⟨s4, eD⟩
          obtain ⟨z, gz, rfl⟩ := iv_at hx
          obtain ⟨m, gm, rfl⟩ := zi_get gz
          have hn : n < u.length := (List.getElem?_eq_some_iff.mp gm).1
          have hnext : (u.map fun x => decide (1 ≤ x) && decide (x ≤ 10))[n]? = some (decide (1 ≤ m) && decide (m ≤ 10)) := by
            rw [List.getElem?_map, gm]
            rfl
          have hlen : ((((u.map fun x => decide (1 ≤ x) && decide (x ≤ 10)).take n)).map V.bl).length < sizeLine := by
            rw [List.length_map, List.length_take]
            exact Nat.lt_of_le_of_lt (Nat.min_le_left _ _) (small1000 (by omega))
          refine ⟨rfl, lc_yes ?_⟩
          refine ⟨_, rfl, _, _, rfl, rfl, _, rfl, ite2 (fun d => ?_) (fun d => ?_)⟩
          · have d1 : (1 : Int) ≤ m := of_decide_eq_true d
            refine ⟨_, _, rfl, rfl, _, eD, hlen, same_new s4 nD, ?_⟩
            rw [upd_same, take_more hnext, List.map_append]
            have : decide ((m : Int) ≤ 10) = (decide (1 ≤ m) && decide (m ≤ 10)) := by
              rw [decide_eq_true (show 1 ≤ m by omega), Bool.true_and]
              exact decide_eq_decide.mpr (by omega)
            show some (HO.lst (_ ++ [V.bl (decide ((m : Int) ≤ 10))])) = _
            rw [this]
            rfl
          · have d1 : ¬ (1 : Int) ≤ m := fun z => d (decide_eq_true z)
            refine ⟨_, eD, hlen, same_new s4 nD, ?_⟩
            rw [upd_same, take_more hnext, List.map_append, decide_eq_false (show ¬ 1 ≤ m by omega), Bool.false_and]
            rfl
        · rintro H4 ⟨s4, eD⟩
          rw [la, List.take_of_length_le (by rw [List.length_map]; exact Nat.le_refl _)] at eD
          refine ⟨D, _, rfl, SqL.of eD, ?_⟩
          have : (u.map fun x => decide (1 ≤ x) && decide (x ≤ 10)).all id = areW u := by
            unfold areW
            rw [decide_eq_true (by omega), decide_eq_true (by omega), Bool.true_and, Bool.true_and, List.all_map]
            rfl
          rw [this]
          exact q H4 s4
end
end Rt
/-! ### race.py: states_of, state_at_end -/
namespace Rt
open PySem PySem.Spec PyProof.Rows L2
abbrev sStOf : Stmt := top 22
/-! a list of words as data -/
def wsD (ws : List (List Nat)) : PyData := .list (ws.map wD)
theorem wsD_depth : ∀ ws : List (List Nat), PyData.depthAll (ws.map wD) ≤ 3
  | [] => by simp [PyData.depthAll]
  | w :: ws => by
    have h1 := wsD_depth ws
    have h2 := ints_depth (zi w)
    simp only [List.map_cons, PyData.depthAll, wD, PyData.depth]
    omega
theorem wsD_lay : ∀ ws : List (List Nat), PyData.canLayAll0 (ws.map wD) = true
  | [] => by simp [PyData.canLayAll0]
  | w :: ws => by
    simp only [List.map_cons, PyData.canLayAll0, wD, PyData.canLay0, ints_lay, Bool.true_and]
    exact wsD_lay ws
theorem wsD_shaped (ws : List (List Nat)) : SeqAt.shaped (wsD ws) = true := by
  have h2 : PyData.depth (wsD ws) ≤ 64 := by
    have := wsD_depth ws
    simp only [wsD, PyData.depth]
    omega
  show (PyData.canLay0 (wsD ws) && decide (PyData.depth (wsD ws) ≤ 64)) = true
  rw [Bool.and_eq_true]
  exact ⟨by simp only [wsD, PyData.canLay0]; exact wsD_lay _, decide_eq_true h2⟩
theorem dp_all {K : PySem.W.Frag} {H : Hp} : ∀ (ps : List Addr) (ws : List (List Nat)), RowsAt K H ps (ws.map zi) → DpAll K H (ps.map V.ref) (ws.map wD)
  | [], [], _ => .nil
  | [], _ :: _, h => by cases h.1
  | _ :: _, [], h => by cases h.1
  | p :: ps, w :: ws, h => .cons (dp_w (h.2 0 p (zi w) rfl rfl)) (dp_all ps ws ⟨Nat.succ.inj h.1, fun i q r h1 h2 => h.2 (i + 1) q r h1 h2⟩)
theorem any_eqv (ws : List (List Nat)) (w : List Nat) : ((ws.map wD).any fun z => PyData.eqv z (wD w)) = decide (w ∈ ws) := by
  rw [List.any_map]
  by_cases h : w ∈ ws
  · rw [decide_eq_true h]
    exact List.any_eq_true.mpr ⟨w, h, by show PyData.eqv (wD w) (wD w) = true; rw [wD_eqv]; exact beq_self_eq_true w⟩
  · rw [decide_eq_false h]
    refine List.any_eq_false.mpr fun x hx => ?_
    show ¬ PyData.eqv (wD x) (wD w) = true
    rw [wD_eqv]
    intro e
    exact h (eq_of_beq e ▸ hx)
/-- lists of whole numbers that the run itself has made -/
def TrAt (H : Hp) (ps : List Addr) (rows : List (List Int)) : Prop := ps.length = rows.length ∧ ∀ (i : Nat) (p : Addr) (r : List Int), ps[i]? = some p → rows[i]? = some r → H p = some (.lst (r.map V.int))
theorem TrAt.rows {K : PySem.W.Frag} {H : Hp} {ps : List Addr} {rows : List (List Int)} (h : TrAt H ps rows) : RowsAt K H ps rows := ⟨h.1, fun i p r h1 h2 => SqL.of (h.2 i p r h1 h2)⟩
theorem TrAt.same {H H' : Hp} {ps : List Addr} {rows : List (List Int)} (h : TrAt H ps rows) (s : Same H H') : TrAt H' ps rows := ⟨h.1, fun i p r h1 h2 => s _ _ (h.2 i p r h1 h2)⟩
theorem TrAt.upd {H : Hp} {ps : List Addr} {rows : List (List Int)} {p : Addr} {o : HO} (h : TrAt H ps rows) (hp : p ∉ ps) : TrAt (upd H p o) ps rows :=
  ⟨h.1, fun i a r h1 h2 => by rw [upd_ne (show a ≠ p from fun e => hp (e ▸ List.mem_of_getElem? h1))]; exact h.2 i a r h1 h2⟩
theorem TrAt.snoc {H : Hp} {ps : List Addr} {rows : List (List Int)} (h : TrAt H ps rows) {p : Addr} {r : List Int} (hp : H p = some (.lst (r.map V.int))) : TrAt H (ps ++ [p]) (rows ++ [r]) := by
  refine ⟨by rw [List.length_append, List.length_append, h.1]; rfl, fun i q z h1 h2 => ?_⟩
  by_cases c : i < ps.length
  · rw [List.getElem?_append_left c] at h1
    rw [List.getElem?_append_left (by rw [← h.1]; exact c)] at h2
    exact h.2 i q z h1 h2
  · rw [List.getElem?_append_right (by omega)] at h1
    rw [List.getElem?_append_right (by rw [← h.1]; omega), ← h.1] at h2
    cases e : i - ps.length with
    | zero =>
      rw [e] at h1 h2
      have e1 : p = q := Option.some.inj h1
      have e2 : r = z := Option.some.inj h2
      subst e1 e2
      exact hp
    | succ j =>
      rw [e] at h1
      cases h1
theorem room65 {k : Nat} {A : Around} (r : Room k A) : A.units + 65 < cLine := by
  have := r.un
  omega
section
variable {P : Program} {w : World} {K : PySem.W.Frag} {mg : Str → Option Value} {base : Heap}
def spStOf (K : PySem.W.Frag) : Sp := fun vs H Q _ => ∃ (a : Addr) (ps : List Addr) (ws : List (List Nat)), vs = [.ref a] ∧ SqL K H a (ps.map V.ref) ∧ RowsAt K H ps (ws.map zi) ∧ ws.length ≤ 10 ∧ (∀ w, w ∈ ws → w.length ≤ 10) ∧
  ∀ H' o qs, Same H H' → SqL K H' o (qs.map V.ref) → TrAt H' qs ((stOf ws).map zi) → Q (.ref o) H'
theorem scStOf : FnScope ["words", "states", "word", "length"] ["words"] (defScope sStOf) := ⟨rfl, rfl, rfl, by decide +kernel, rfl, by decide +kernel, by decide +kernel⟩
theorem ok_stOf {f : Addr} {fd : FuncData} {k : Nat} (F : Fun K "states_of" "states_of" sStOf f fd) (ml : mg "len" = none) (mr : mg "range" = none) : FnOk P w K mg base CX0 (k + 1) f fd ["words"] (spStOf K) := by
  refine F.ok scStOf (fun vs H Q E h => ?_) (fun cdv A outer s H vs Q E hr h => ?_)
  · obtain ⟨a, ps, ws, rfl, _⟩ := h
    rfl
  · obtain ⟨a, ps, ws, rfl, hA, hP, lws, lw, q⟩ := h
    refine ⟨_, pss_cons (ps_set (i := 1) scStOf.nd rfl (.inl rfl) (pe_lst (pa_cons (pe_lst pa_nil) pa_nil)))
      (pss_cons (ps_for PassesOwn.never rfl (pi_list (pv 0)) (pg_name (i := 2) scStOf.nd rfl (.inl rfl))
        (pss_one (ps_for PassesOwn.never rfl (pi_range2 (by rfl) mr (pa_cons pe_int (pa_cons (pe_callB call_len_seq (by rfl) ml PySem.boot_len (pa_cons (pv 2) pa_nil)) pa_nil))) (pg_name (i := 3) scStOf.nd rfl (.inl rfl))
          (pss_one (ps_if (pt_cmpR (op_notInD (room65 hr)) (pe_slice sl_list (pv 2) po_none (po_some (pv 3))) (pv 1) (by rfl))
            (pss_one (ps_expr (pe_bm PySem.F.plainAttrs_list PySem.F.slot_list_append PySem.F.type_list_append mt_append (pv 1) (pa_cons (pe_slice sl_list (pv 2) po_none (po_some (pv 3))) pa_nil)))) pss_nil)))))
      (pss_one (ps_ret (pv 1)))), ?_⟩
    refine ⟨Nat.zero_le _, fun e ne => ⟨(by show 1 ≤ sizeLine; decide), fun o no => ?_⟩⟩
    have no0 : H o = none := (same_upd ne).free no
    have eo : o ≠ e := fun z => by
      rw [z, upd_same] at no
      cases no
    have len_ws : ps.length = ws.length := by have := hP.1; rw [List.length_map] at this; exact this
    have inv0 : ∃ qs : List Addr, o ∉ qs ∧ Same H (upd (upd H e (.lst [])) o (.lst [.ref e])) ∧ (upd (upd H e (.lst [])) o (.lst [.ref e])) o = some (.lst (qs.map V.ref)) ∧ TrAt (upd (upd H e (.lst [])) o (.lst [.ref e])) qs ((stOf (ws.take 0)).map zi) := by
      refine ⟨[e], fun h => eo (List.mem_singleton.mp h), (same_upd ne).trans (same_upd no), upd_same, rfl, fun i p r h1 h2 => ?_⟩
      cases i with
      | zero =>
        have e1 : e = p := Option.some.inj h1
        have e2 : ([] : List Int) = r := Option.some.inj h2
        subst e1 e2
        rw [upd_ne (Ne.symm eo), upd_same]; rfl
      | succ i => cases h1
    refine ⟨_, rfl, a, rfl, ⟨_, (((same_upd ne).trans (same_upd no)).seq hA)⟩, for_list (K := K) (a := a) (xs := ps.map V.ref) (fun i σ H3 => ∃ y z, σ = [some (.ref a), some (.ref o), y, z] ∧ ∃ qs : List Addr, o ∉ qs ∧ Same H H3 ∧ H3 o = some (.lst (qs.map V.ref)) ∧ TrAt H3 qs ((stOf (ws.take i)).map zi))
      ⟨none, none, rfl, inv0⟩ (fun i σ H3 _ ⟨_, _, _, _, _, sm, _⟩ => sm.seq hA) ?_ ?_⟩
    · rintro i x σ H3 hx ⟨y, z, rfl, qs, noq, sm, h3, hQ⟩
      obtain ⟨p, gp, rfl⟩ := ref_at hx
      obtain ⟨v, gv, hv0⟩ := hP.word gp
      have hv := sm.seq hv0
      have mv : v ∈ ws := List.mem_of_getElem? gv
      have lv := lw v mv
      have iws : i < ws.length := (List.getElem?_eq_some_iff.mp gv).1
      have lst := stOf_len (ws.take i) 10 fun w hw => lw w (List.mem_of_mem_take hw)
      have lv2 : ((zi v).map V.int).length = v.length := by rw [List.length_map, zi_len]
      have bst : (stOf (ws.take i)).length ≤ 101 := by
        have : (ws.take i).length ≤ 10 := by rw [List.length_take]; omega
        omega
      refine ⟨_, rfl, p, _, rfl, .inl hv, 1, _, rfl, ⟨by decide, by decide, by omega, by rw [lv2]; omega⟩, ?_⟩
      have en : (((zi v).map V.int).length - 1 : Int).toNat = v.length - 1 := by rw [lv2]; omega
      rw [en]
      refine for_range (fun j σ H4 => ∃ z, σ = [some (.ref a), some (.ref o), some (.ref p), z] ∧ ∃ qs : List Addr, o ∉ qs ∧ Same H H4 ∧ H4 o = some (.lst (qs.map V.ref)) ∧ TrAt H4 qs ((addPre v j (stOf (ws.take i))).map zi))
        ⟨_, rfl, qs, noq, sm, h3, hQ⟩ ?_ ?_
      · rintro j σ H4 hj ⟨z, rfl, qs, noq, sm, h4, hQ⟩
        have hv := sm.seq hv0
        have ej : (1 : Int) + (j : Nat) = ((j + 1 : Nat) : Int) := by omega
        rw [ej]
        refine ⟨_, rfl, _, rfl, _, rfl, p, _, rfl, hv, fun c nc => ?_⟩
        rw [cut_head _ _ (by rw [lv2]; omega), ← List.map_take, zi_take]
        have sc : Same H4 (upd H4 c (.lst ((zi (v.take (j + 1))).map V.int))) := same_upd nc
        refine ⟨_, rfl, wD (v.take (j + 1)), (addPre v j (stOf (ws.take i))).map wD, dp_w (SqL.of upd_same), .lst (SqL.of (sc _ _ h4)) (dp_all _ _ (hQ.same sc).rows), wD_shaped _, wsD_shaped _, ?_⟩
        rw [any_eqv]
        refine ⟨_, rfl, ite2 (fun e => ?_) (fun e => ?_)⟩
        · have hn : v.take (j + 1) ∉ addPre v j (stOf (ws.take i)) := by
            intro h
            rw [decide_eq_true h] at e
            cases e
          have hnext : addPre v (j + 1) (stOf (ws.take i)) = addPre v j (stOf (ws.take i)) ++ [v.take (j + 1)] := if_neg hn
          have oc : o ≠ c := ne_of_none h4 nc
          refine ⟨_, rfl, .inl ⟨rfl, _, .inl (.inl (sc _ _ h4))⟩, _, rfl, _, rfl, _, rfl, p, _, rfl, sc.seq hv, fun d nd => ?_⟩
          rw [cut_head _ _ (by rw [lv2]; omega), ← List.map_take, zi_take]
          have sd : Same (upd H4 c (.lst ((zi (v.take (j + 1))).map V.int))) (upd (upd H4 c (.lst ((zi (v.take (j + 1))).map V.int))) d (.lst ((zi (v.take (j + 1))).map V.int))) := same_upd nd
          have od : o ≠ d := ne_of_none (sc _ _ h4) nd
          refine ⟨o, _, _, rfl, rfl, sd _ _ (sc _ _ h4), ?_, ?_⟩
          · rw [List.length_map, hQ.1, List.length_map]
            have := addPre_len v (stOf (ws.take i)) j
            exact small1000 (by omega)
          · refine ⟨_, rfl, qs ++ [d], ?_, same_new (sm.trans (sc.trans sd)) no0, ?_, ?_⟩
            · intro h
              rcases List.mem_append.mp h with h | h
              · exact noq h
              · exact od (List.mem_singleton.mp h)
            · rw [upd_same, List.map_append]
              rfl
            · rw [hnext, List.map_append]
              exact (((hQ.same (sc.trans sd)).upd noq).snoc (by rw [upd_ne (Ne.symm od), upd_same]))
        · have hn : v.take (j + 1) ∈ addPre v j (stOf (ws.take i)) := by
            apply Classical.byContradiction
            intro h
            exact e (by rw [decide_eq_false h]; rfl)
          have hnext : addPre v (j + 1) (stOf (ws.take i)) = addPre v j (stOf (ws.take i)) := if_pos hn
          exact ⟨_, rfl, qs, noq, sm.trans sc, sc _ _ h4, by rw [hnext]; exact hQ.same sc⟩
      · rintro σ H4 ⟨z, rfl, qs, noq, sm, h4, hQ⟩
        refine ⟨_, _, rfl, qs, noq, sm, h4, ?_⟩
        rw [take_more gv, stOf_snoc]
        exact hQ
    · rintro σ H3 ⟨y, z, rfl, qs, noq, sm, h3, hQ⟩
      rw [List.length_map, len_ws, List.take_length] at hQ
      exact ⟨_, rfl, q H3 o qs sm (SqL.of h3) hQ⟩
end
end Rt
/-! ### race.py: state_after, states_from, place_after, moves_of, equation -/
namespace Rt
open PySem PySem.Spec PyProof.Rows L2
open Rw (lp W)
abbrev sStAft : Stmt := top 23
abbrev sStFrom : Stmt := top 24
abbrev sPlace : Stmt := top 25
abbrev sMoves : Stmt := top 26
abbrev sEqn : Stmt := top 27
theorem zvl (u : List Nat) : ((zi u).map V.int).length = u.length := by rw [List.length_map, zi_len]
section
variable {P : Program} {w : World} {K : PySem.W.Frag} {mg : Str → Option Value} {base : Heap}
def spStAft (K : PySem.W.Frag) : Sp := fun vs H Q _ => ∃ (a b : Addr) (ps : List Addr) (sts : List (List Nat)) (u : List Nat), vs = [.ref a, .ref b] ∧ SqL K H a (ps.map V.ref) ∧ RowsAt K H ps (sts.map zi) ∧ SqL K H b ((zi u).map V.int) ∧ [] ∈ sts ∧
  ∀ H' p, Same H H' → H p = none → H' p = some (.lst ((zi (lp sts u)).map V.int)) → Q (.ref p) H'
theorem scStAft : FnScope ["states", "sequence", "start"] ["states", "sequence"] (defScope sStAft) := ⟨rfl, rfl, rfl, by decide +kernel, rfl, by decide +kernel, by decide +kernel⟩
def muStA (n : Nat) : L2.St → Hp → Nat := fun σ _ => match σ with
  | [_, _, some (.int y)] => n - y.toNat
  | _ => 0
theorem lp_drop {sts : List (List Nat)} {u : List Nat} {i : Nat} (h : u.drop i ∉ sts) (h0 : [] ∈ sts) : i < u.length ∧ lp sts (u.drop i) = lp sts (u.drop (i + 1)) := by
  have hi : i < u.length := by
    apply Classical.byContradiction
    intro c
    rw [List.drop_of_length_le (by omega)] at h
    exact h h0
  refine ⟨hi, ?_⟩
  rw [List.drop_eq_getElem_cons hi] at h ⊢
  exact if_neg h
theorem lp_in {sts : List (List Nat)} {v : List Nat} (h : v ∈ sts) : lp sts v = v := by
  cases v with
  | nil => rfl
  | cons x u => exact if_pos h
theorem ok_stAft {f : Addr} {fd : FuncData} {k : Nat} (F : Fun K "state_after" "state_after" sStAft f fd) : FnOk P w K mg base CX0 (k + 1) f fd ["states", "sequence"] (spStAft K) := by
  refine F.ok scStAft (fun vs H Q E h => ?_) (fun cdv A outer s H vs Q E hr h => ?_)
  · obtain ⟨a, b, ps, sts, u, rfl, _⟩ := h
    rfl
  · obtain ⟨a, b, ps, sts, u, rfl, hA, hP, hB, h0, q⟩ := h
    refine ⟨_, pss_cons (ps_set (i := 2) scStAft.nd rfl (.inl rfl) pe_int)
      (pss_cons (ps_while PassesOwn.never (pt_cmpR (op_notInD (room65 hr)) (pe_slice sl_list (pv 1) (po_some (pv 2)) po_none) (pv 0) (by rfl))
        (pss_one (ps_set (i := 2) scStAft.nd rfl (.inl rfl) (pe_op op_add (pv 2) pe_int))))
      (pss_one (ps_ret (pe_slice sl_list (pv 1) (po_some (pv 2)) po_none)))), ?_⟩
    refine while_by (fun σ H' => ∃ i : Nat, σ = [some (.ref a), some (.ref b), some (.int i)] ∧ i ≤ u.length ∧ Same H H' ∧ lp sts u = lp sts (u.drop i)) (muStA u.length) ⟨0, rfl, Nat.zero_le _, Same.refl H, rfl⟩ ?_ ?_
    · rintro σ H' ⟨i, rfl, hi, sm, e⟩
      refine ⟨_, rfl, _, rfl, _, rfl, b, _, rfl, sm.seq hB, fun c nc => ?_⟩
      rw [cut_tail _ _ (by rw [zvl]; exact hi), ← List.map_drop, zi_drop]
      have sc : Same H' (upd H' c (.lst ((zi (u.drop i)).map V.int))) := same_upd nc
      refine ⟨_, rfl, wD (u.drop i), sts.map wD, dp_w (SqL.of upd_same), .lst (sc.seq (sm.seq hA)) (dp_all _ _ ((hP.same sm).same sc)), wD_shaped _, wsD_shaped _, ?_⟩
      rw [any_eqv]
      refine ⟨_, rfl, ite2 (fun d => ?_) (fun d => ?_)⟩
      · have hn : u.drop i ∉ sts := by
          intro h
          rw [decide_eq_true h] at d
          cases d
        obtain ⟨h1, h2⟩ := lp_drop hn h0
        refine ⟨_, rfl, _, _, rfl, rfl, ⟨i + 1, ?_, h1, sm.trans sc, e.trans h2⟩, ?_⟩
        · show [some (V.ref a), some (V.ref b), some (V.int ((i : Int) + 1))] = _
          have : (i : Int) + 1 = ((i + 1 : Nat) : Int) := by omega
          rw [this]
        · show u.length - ((i : Int) + 1).toNat < u.length - (i : Int).toNat
          omega
      · have hn : u.drop i ∈ sts := by
          apply Classical.byContradiction
          intro h
          exact d (by rw [decide_eq_false h]; rfl)
        have sm2 := sm.trans sc
        refine ⟨_, rfl, _, rfl, _, rfl, b, _, rfl, sm2.seq hB, fun p np => ?_⟩
        rw [cut_tail _ _ (by rw [zvl]; exact hi), ← List.map_drop, zi_drop]
        refine q _ p (sm2.trans (same_upd np)) (sm2.free np) ?_
        rw [upd_same, e, lp_in hn]
    · rintro σ H' Q1 Q2 m ⟨v1, e1, v2, e2, i, e3, a, xs, e4, hs, h⟩
      refine ⟨v1, e1, v2, e2, i, e3, a, xs, e4, hs, fun c nc => ?_⟩
      obtain ⟨v, e5, d, ds, h1, h2, h3, h4, bb, e6, hh⟩ := h c nc
      exact ⟨v, e5, d, ds, h1, h2, h3, h4, bb, e6, m _ _ hh⟩
/-! ### states_from -/
theorem TrAt.word {H : Hp} {ps : List Addr} {ws : List (List Nat)} (h : TrAt H ps (ws.map zi)) {i : Nat} {p : Addr} (hp : ps[i]? = some p) : ∃ w, ws[i]? = some w ∧ H p = some (.lst ((zi w).map V.int)) := by
  have hi : i < ps.length := (List.getElem?_eq_some_iff.mp hp).1
  have h1 := h.1
  rw [List.length_map] at h1
  have hw : ws[i]? = some ws[i] := List.getElem?_eq_getElem (by omega)
  exact ⟨_, hw, h.2 i p _ hp (zis_get hw)⟩
def spStFrom (K : PySem.W.Frag) : Sp := fun vs H Q _ => ∃ (a b : Addr) (ps : List Addr) (ws : List (List Nat)) (u : List Nat), vs = [.ref a, .ref b] ∧ SqL K H a (ps.map V.ref) ∧ RowsAt K H ps (ws.map zi) ∧ SqL K H b ((zi u).map V.int) ∧ ws.length ≤ 10 ∧ (∀ w, w ∈ ws → w.length ≤ 10) ∧
  ∀ H' o qs, Same H H' → H' o = some (.lst (qs.map V.ref)) → TrAt H' qs ((stFrom ws u).map zi) → Q (.ref o) H'
theorem scStFrom : FnScope ["words", "drawn", "states", "start", "state"] ["words", "drawn"] (defScope sStFrom) := ⟨rfl, rfl, rfl, by decide +kernel, rfl, by decide +kernel, by decide +kernel⟩
theorem ok_stFrom {f fO fA : Addr} {fd fdO fdA : FuncData} {k : Nat} (F : Fun K "states_from" "states_from" sStFrom f fd) (FO : Fun K "states_of" "states_of" sStOf fO fdO) (bO : Binds K fdO ["words"] []) (gO : mg "states_of" = some (.ref fO))
    (FA : Fun K "state_after" "state_after" sStAft fA fdA) (bA : Binds K fdA ["states", "sequence"] []) (gA : mg "state_after" = some (.ref fA)) (ml : mg "len" = none) (mr : mg "range" = none) :
    FnOk P w K mg base CX0 (k + 2) f fd ["words", "drawn"] (spStFrom K) := by
  have GO : FnOk P w K mg base CX0 (k + 1) fO fdO ["words"] (spStOf K) := ok_stOf FO ml mr
  have GA : FnOk P w K mg base CX0 (k + 1) fA fdA ["states", "sequence"] (spStAft K) := ok_stAft FA
  refine F.ok scStFrom (fun vs H Q E h => ?_) (fun cdv A outer s H vs Q E hr h => ?_)
  · obtain ⟨a, b, ps, ws, u, rfl, _⟩ := h
    rfl
  · obtain ⟨a, b, ps, ws, u, rfl, hA, hP, hB, lws, lw, q⟩ := h
    refine ⟨_, pss_cons (ps_set (i := 2) scStFrom.nd rfl (.inl rfl) (pe_call GO hr (by rfl) gO FO.kp bO .nil pass0 (pa_cons (pv 0) pa_nil)))
      (pss_cons (ps_set (i := 3) scStFrom.nd rfl (.inr rfl) (pe_call GA hr (by rfl) gA FA.kp bA .nil pass0 (pa_cons (pv 2) (pa_cons (pv 1) pa_nil))))
      (pss_one (ps_ret (pe_op op_cat (pe_lst (pa_cons (pv 3) pa_nil)) (pe_lc (own := [("state", 4)]) (g := gName 4) rfl scStFrom.nd (pi_list (pv 2)) (blkOk_by (N := ["words", "drawn", "states", "start", "state"]) (sc := defScope sStFrom) (by decide +kernel)) (fun _ _ _ _ _ => pg_name (i := 4) scStFrom.nd rfl (Or.inl rfl))
        (fun _ _ _ _ _ => pts_one (pt_cmpR (r := rNeD K) (op_neD hr.units) (pv 4) (pv 3) (nomark _))) (fun _ _ _ _ _ => pv 4)))))), ?_⟩
    refine ⟨_, rfl, a, ps, ws, rfl, hA, hP, lws, lw, fun H1 o qs s1 eo hQ => ?_⟩
    refine ⟨_, rfl, _, rfl, o, b, qs, stOf ws, u, rfl, eo, hQ.rows, s1.seq hB, (states_stOf ws).nil, fun H2 t s2 nt et => ?_⟩
    refine ⟨_, rfl, by show 1 ≤ sizeLine; decide, fun l nl => ?_⟩
    have sl := same_upd (o := .lst [V.ref t]) nl
    refine ⟨_, rfl, o, rfl, ⟨_, (s2.trans sl).seq eo⟩, fun D nD => ?_⟩
    have hst := stOf_len ws 10 lw
    have hQ2 := hQ.same (s2.trans sl)
    have lD : l ≠ D := fun z => by
      rw [← z, upd_same] at nD
      cases nD
    have tl : t ≠ l := ne_of_none et nl
    have lq : qs.length = (stOf ws).length := by have := hQ.1; rw [List.length_map] at this; exact this
    refine lc_list (K := K) (a := o) (xs := qs.map V.ref) (fun n H4 => ∃ zs : List Addr, D ∉ zs ∧ Same (upd H2 l (.lst [V.ref t])) H4 ∧ H4 D = some (.lst (zs.map V.ref)) ∧ TrAt H4 zs ((((stOf ws).take n).filter fun v => !(v == lp (stOf ws) u)).map zi))
      ⟨[], List.not_mem_nil, same_upd nD, upd_same, rfl, fun i p r h => by cases h⟩ (fun n H4 _ ⟨_, _, s4, _⟩ => s4.seq ((s2.trans sl).seq eo)) ?_ ?_
    · rintro n x H4 hx ⟨zs, nz, s4, eD, hZ⟩
      obtain ⟨p, gp, rfl⟩ := ref_at hx
      obtain ⟨v, gv, hv⟩ := (hQ2.same s4).word gp
      have zl : zs.length ≤ 200 := by
        have := hZ.1
        rw [List.length_map] at this
        have h2 := List.length_filter_le (fun v => !(v == lp (stOf ws) u)) ((stOf ws).take n)
        rw [List.length_take] at h2
        omega
      refine ⟨rfl, _, rfl, _, rfl, wD v, wD (lp (stOf ws) u), dp_w (SqL.of hv), dp_w (s4.seq (sl.seq (SqL.of et))), wD_shaped _, wD_shaped _, ?_⟩
      rw [wD_eqv]
      refine ⟨_, rfl, ite2 (fun d => ?_) (fun d => ?_)⟩
      · refine ⟨_, rfl, zs.map V.ref, eD, by rw [List.length_map]; exact small1000 (by omega), zs ++ [p], ?_, same_new s4 nD, ?_, ?_⟩
        · intro h
          rcases List.mem_append.mp h with h | h
          · exact nz h
          · rw [← List.mem_singleton.mp h] at hv
            have e2 := hQ2.2 n p (zi v) gp (zis_get gv)
            rw [← List.mem_singleton.mp h, nD] at e2
            cases e2
        · rw [upd_same, List.map_append]
          rfl
        · rw [take_more gv, List.filter_append, List.filter_cons_of_pos (by exact d), List.filter_nil, List.map_append]
          refine (hZ.upd nz).snoc ?_
          have pD : p ≠ D := fun z => by
            have e2 := hQ2.2 n p (zi v) gp (zis_get gv)
            rw [z, nD] at e2
            cases e2
          rw [upd_ne pD]
          exact hv
      · refine ⟨zs, nz, s4, eD, ?_⟩
        rw [take_more gv, List.filter_append, List.filter_cons_of_neg (by exact d), List.filter_nil, List.append_nil]
        exact hZ
    · rintro H4 ⟨zs, nz, s4, eD, hZ⟩
      rw [List.length_map, lq, List.take_length] at hZ
      have el : H4 l = some (.lst [V.ref t]) := s4 _ _ upd_same
      have hz : zs.length ≤ 200 := by
        have := hZ.1
        rw [List.length_map] at this
        have h2 := List.length_filter_le (fun v => !(v == lp (stOf ws) u)) (stOf ws)
        omega
      refine ⟨l, D, _, _, rfl, rfl, el, eD, ?_, fun r nr => ?_⟩
      · rw [List.length_map]
        have := small1000 (n := zs.length + 1) (by omega)
        show 1 + zs.length ≤ sizeLine
        omega
      have sr := same_upd (o := .lst ([V.ref t] ++ zs.map V.ref)) nr
      refine q _ r (t :: zs) (s1.trans (s2.trans (sl.trans (s4.trans sr)))) upd_same ⟨?_, fun i p rr h1 h2 => ?_⟩
      · show zs.length + 1 = _
        rw [hZ.1]
        rfl
      · cases i with
        | zero =>
          have e1 : t = p := Option.some.inj h1
          have e2 : zi (lp (stOf ws) u) = rr := Option.some.inj h2
          subst e1 e2
          exact sr _ _ (s4 _ _ (sl _ _ et))
        | succ i => exact sr _ _ (hZ.2 i p rr h1 h2)
end
end Rt
/-! ### race.py: place_after, moves_of -/
namespace Rt
open PySem PySem.Spec PyProof.Rows L2
open Rw (lp W)
theorem idx_ahead {sts : List (List Nat)} {v z : List Nat} {m : Nat} (h : m < sts.idxOf v) (hz : sts[m]? = some z) : z ≠ v := by
  intro e
  have h1 : m < sts.findIdx (· == v) := h
  have h2 := List.not_of_lt_findIdx h1
  have hm : m < sts.length := (List.getElem?_eq_some_iff.mp hz).1
  rw [List.getElem?_eq_getElem hm] at hz
  have h3 := Option.some.inj hz
  rw [h3, e, beq_self_eq_true] at h2
  exact absurd h2 (by decide)
theorem idx_get {sts : List (List Nat)} {v : List Nat} (h : v ∈ sts) : sts[sts.idxOf v]? = some v := by
  rw [List.getElem?_eq_getElem (idx_lt h)]
  exact congrArg some (List.getElem_idxOf (idx_lt h))
section
variable {P : Program} {w : World} {K : PySem.W.Frag} {mg : Str → Option Value} {base : Heap}
def spPlace (K : PySem.W.Frag) : Sp := fun vs H Q _ => ∃ (a b c : Addr) (ps qs : List Addr) (sts ws : List (List Nat)) (u : List Nat), vs = [.ref a, .ref b, .ref c] ∧ SqL K H a (ps.map V.ref) ∧ RowsAt K H ps (sts.map zi) ∧ SqL K H b (qs.map V.ref) ∧ RowsAt K H qs (ws.map zi) ∧ SqL K H c ((zi u).map V.int) ∧ [] ∈ sts ∧
  ∀ H', Same H H' → Q (.int (plOf sts ws u : Nat)) H'
theorem scPlace : FnScope ["states", "words", "sequence", "winner"] ["states", "words", "sequence"] (defScope sPlace) := ⟨rfl, rfl, rfl, by decide +kernel, rfl, by decide +kernel, by decide +kernel⟩
theorem ok_place {f fE fW fA : Addr} {fd fdE fdW fdA : FuncData} {k : Nat} (F : Fun K "place_after" "place_after" sPlace f fd) (FE : Fun K "ends_with" "ends_with" sEnds fE fdE) (bE : Binds K fdE ["sequence", "part"] []) (gE : mg "ends_with" = some (.ref fE))
    (FW : Fun K "word_at_end" "word_at_end" sWend fW fdW) (bW : Binds K fdW ["words", "sequence"] []) (gW : mg "word_at_end" = some (.ref fW)) (FA : Fun K "state_after" "state_after" sStAft fA fdA) (bA : Binds K fdA ["states", "sequence"] []) (gA : mg "state_after" = some (.ref fA))
    (ml : mg "len" = none) (me : mg "enumerate" = none) :
    FnOk P w K mg base CX0 (k + 3) f fd ["states", "words", "sequence"] (spPlace K) := by
  have GW : FnOk P w K mg base CX0 (k + 2) fW fdW ["words", "sequence"] (spWend K) := ok_wend FW FE bE gE ml me
  have GA : FnOk P w K mg base CX0 (k + 2) fA fdA ["states", "sequence"] (spStAft K) := ok_stAft FA
  refine F.ok scPlace (fun vs H Q E h => ?_) (fun cdv A outer s H vs Q E hr h => ?_)
  · obtain ⟨a, b, c, ps, qs, sts, ws, u, rfl, _⟩ := h
    rfl
  · obtain ⟨a, b, c, ps, qs, sts, ws, u, rfl, hA, hP, hB, hQ, hC, h0, q⟩ := h
    refine ⟨_, pss_cons (ps_set (i := 3) scPlace.nd rfl (.inl rfl) (pe_call GW hr (by rfl) gW FW.kp bW .nil pass0 (pa_cons (pv 1) (pa_cons (pv 2) pa_nil))))
      (pss_cons (ps_if (pt_cmpR op_isN (pv 3) pe_non (nomark _)) (pss_one (ps_ret (pe_bm PySem.F.plainAttrs_list PySem.F.slot_list_index PySem.F.type_list_index (mt_indexD (room65 hr)) (pv 0) (pa_cons (pe_call GA hr (by rfl) gA FA.kp bA .nil pass0 (pa_cons (pv 0) (pa_cons (pv 2) pa_nil))) pa_nil)))) pss_nil)
      (pss_one (ps_ret (pe_op op_add (pe_callB call_len_seq (by rfl) ml PySem.boot_len (pa_cons (pv 0) pa_nil)) (pv 3))))), ?_⟩
    refine ⟨_, rfl, _, rfl, b, c, qs, ws, u, rfl, hB, hQ, hC, fun H1 s1 => ?_⟩
    have lps : (ps.map V.ref).length = sts.length := by rw [List.length_map, hP.1, List.length_map]
    cases hw : Uw53.ended ws u with
    | none =>
      have e : plOf sts ws u = sts.idxOf (lp sts u) := by unfold plOf; rw [hw]
      rw [e] at q
      have hm := Rw.lp_mem h0 u
      refine ⟨_, rfl, rfl, _, rfl, ifT (decide_eq_true rfl) ?_⟩
      refine ⟨_, rfl, .inl ⟨rfl, _, s1.seq hA⟩, _, rfl, _, rfl, a, c, ps, sts, u, rfl, s1.seq hA, hP.same s1, s1.seq hC, h0, fun H2 p s2 np ep => ?_⟩
      refine ⟨a, .ref p, wD (lp sts u), sts.map wD, sts.idxOf (lp sts u), wD (lp sts u), rfl, rfl, .lst (s2.seq (s1.seq hA)) (dp_all _ _ ((hP.same s1).same s2)), dp_w (SqL.of ep), wsD_shaped _, wD_shaped _, ?_, ?_, fun m z' hm' hz => ?_, q _ (s1.trans s2)⟩
      · rw [List.getElem?_map, idx_get hm]
        rfl
      · rw [wD_eqv]
        exact beq_self_eq_true _
      · rw [List.getElem?_map] at hz
        cases e2 : sts[m]? with
        | none => rw [e2] at hz; cases hz
        | some v =>
          rw [e2] at hz
          have e3 : wD v = z' := Option.some.inj hz
          rw [← e3, wD_eqv]
          exact beq_eq_false_iff_ne.mpr (idx_ahead hm' e2)
    | some i =>
      have e : plOf sts ws u = sts.length + i := by unfold plOf; rw [hw]
      rw [e] at q
      refine ⟨_, rfl, rfl, _, rfl, ifF (decide_eq_false (by intro h; cases h)) ?_⟩
      refine ⟨_, rfl, a, _, rfl, .inl (s1.seq hA), _, rfl, _, _, rfl, rfl, ?_⟩
      have e2 : (((ps.map V.ref).length : Nat) : Int) + (i : Nat) = ((sts.length + i : Nat) : Int) := by rw [lps]; omega
      show Q (.int ((((ps.map V.ref).length : Nat) : Int) + (i : Nat))) H1
      rw [e2]
      exact q H1 s1
/-! ### moves_of -/
def spMoves (K : PySem.W.Frag) : Sp := fun vs H Q _ => ∃ (a b : Addr) (ps qs : List Addr) (sts ws : List (List Nat)) (n : Nat), vs = [.ref a, .ref b, .int n] ∧ SqL K H a (ps.map V.ref) ∧ TrAt H ps (sts.map zi) ∧ SqL K H b (qs.map V.ref) ∧ RowsAt K H qs (ws.map zi) ∧ [] ∈ sts ∧ n ≤ 10 ∧ sts.length ≤ 500 ∧ (∀ v, v ∈ sts → v.length ≤ 900) ∧
  ∀ H' o rs, Same H H' → H' o = some (.lst (rs.map V.ref)) → TrAt H' rs ((mvsOf sts ws n).map zi) → Q (.ref o) H'
theorem scMoves : FnScope ["states", "words", "letter_count", "moves", "state", "letter"] ["states", "words", "letter_count"] (defScope sMoves) := ⟨rfl, rfl, rfl, by decide +kernel, rfl, by decide +kernel, by decide +kernel⟩
theorem ok_moves {f fE fW fA fP : Addr} {fd fdE fdW fdA fdP : FuncData} {k : Nat} (F : Fun K "moves_of" "moves_of" sMoves f fd) (FP : Fun K "place_after" "place_after" sPlace fP fdP) (bP : Binds K fdP ["states", "words", "sequence"] []) (gP : mg "place_after" = some (.ref fP))
    (FE : Fun K "ends_with" "ends_with" sEnds fE fdE) (bE : Binds K fdE ["sequence", "part"] []) (gE : mg "ends_with" = some (.ref fE))
    (FW : Fun K "word_at_end" "word_at_end" sWend fW fdW) (bW : Binds K fdW ["words", "sequence"] []) (gW : mg "word_at_end" = some (.ref fW)) (FA : Fun K "state_after" "state_after" sStAft fA fdA) (bA : Binds K fdA ["states", "sequence"] []) (gA : mg "state_after" = some (.ref fA))
    (ml : mg "len" = none) (me : mg "enumerate" = none) (mr : mg "range" = none) :
    FnOk P w K mg base CX0 (k + 4) f fd ["states", "words", "letter_count"] (spMoves K) := by
  have GP : FnOk P w K mg base CX0 (k + 3) fP fdP ["states", "words", "sequence"] (spPlace K) := ok_place FP FE bE gE FW bW gW FA bA gA ml me
  refine F.ok scMoves (fun vs H Q E h => ?_) (fun cdv A outer s H vs Q E hr h => ?_)
  · obtain ⟨a, b, ps, qs, sts, ws, n, rfl, _⟩ := h
    rfl
  · obtain ⟨a, b, ps, qs, sts, ws, n, rfl, hA, hP, hB, hQ, h0, hn, hs, hv, q⟩ := h
    refine ⟨_, pss_cons (ps_set (i := 3) scMoves.nd rfl (.inl rfl) (pe_lst pa_nil))
      (pss_cons (ps_for PassesOwn.never rfl (pi_list (pv 0)) (pg_name (i := 4) scMoves.nd rfl (.inr rfl))
        (pss_one (ps_expr (pe_bm PySem.F.plainAttrs_list PySem.F.slot_list_append PySem.F.type_list_append mt_append (pv 3) (pa_cons (pe_lc (own := [("letter", 5)]) (g := gName 5) (tt := tYes) rfl scMoves.nd (pi_range1 rfl mr (pa_cons (pv 2) pa_nil)) (blkOk_by (N := ["states", "words", "letter_count", "moves", "state", "letter"]) (sc := defScope sMoves) (by decide +kernel)) (fun _ _ _ _ _ => pg_name (i := 5) scMoves.nd rfl (Or.inl rfl)) (fun _ _ _ _ _ => pts_nil)
          (fun _ _ _ _ _ => pe_call GP hr (by rfl) gP FP.kp bP .nil pass0 (pa_cons (pv 0) (pa_cons (pv 1) (pa_cons (pe_op op_cat (pv 4) (pe_lst (pa_cons (pv 5) pa_nil))) pa_nil))))) pa_nil)))))
      (pss_one (ps_ret (pv 3)))), ?_⟩
    have lps : ps.length = sts.length := by have := hP.1; rw [List.length_map] at this; exact this
    refine ⟨Nat.zero_le _, fun o no => ?_⟩
    have so := same_upd (o := .lst []) no
    refine ⟨_, rfl, a, rfl, ⟨_, so.seq hA⟩, for_list (K := K) (a := a) (xs := ps.map V.ref) (fun i σ H3 => ∃ y z, σ = [some (.ref a), some (.ref b), some (.int n), some (.ref o), y, z] ∧ ∃ rs : List Addr, o ∉ rs ∧ Same H H3 ∧ H3 o = some (.lst (rs.map V.ref)) ∧ TrAt H3 rs (((mvsOf sts ws n).take i).map zi))
      ⟨none, none, rfl, [], List.not_mem_nil, so, upd_same, rfl, fun i p r h => by cases h⟩ (fun i σ H3 _ ⟨_, _, _, _, _, sm, _⟩ => sm.seq hA) ?_ ?_⟩
    · rintro i x σ H3 hx ⟨y, z, rfl, rs, nor, sm, h3, hR⟩
      obtain ⟨p, gp, rfl⟩ := ref_at hx
      obtain ⟨v, gv, hv3⟩ := (hP.same sm).word gp
      have lv := hv v (List.mem_of_getElem? gv)
      have il : i < sts.length := (List.getElem?_eq_some_iff.mp gv).1
      refine ⟨_, rfl, .inl ⟨rfl, _, SqL.of h3⟩, _, rfl, n, rfl, by omega, by omega, fun D nD => ?_⟩
      have oD : o ≠ D := ne_of_none h3 nD
      rw [Int.toNat_natCast]
      have en : (mvOf sts ws n v).length = n := by unfold mvOf; rw [List.length_map, List.length_range]
      refine lc_range (lo := 0) (n := n) (fun j H4 => Same H3 H4 ∧ H4 D = some (.lst ((zi ((mvOf sts ws n v).take j)).map V.int)))
        ⟨same_upd nD, upd_same⟩ ?_ ?_
      · rintro j H4 hj ⟨s4, eD⟩
        refine ⟨rfl, lc_yes ?_⟩
        have s34 := sm.trans s4
        refine ⟨_, rfl, _, rfl, _, rfl, _, rfl, by show 1 ≤ sizeLine; decide, fun t nt => ?_⟩
        have st := same_upd (o := .lst [V.int (0 + (j : Nat))]) nt
        refine ⟨p, t, _, _, rfl, rfl, st _ _ (s4 _ _ hv3), upd_same, ?_, fun c nc => ?_⟩
        · rw [zvl]
          have := small1000 (n := v.length + 1) (by omega)
          show v.length + 1 ≤ sizeLine
          omega
        have ey : (zi v).map V.int ++ [V.int (0 + (j : Nat))] = (zi (v ++ [j])).map V.int := by
          unfold zi
          rw [List.map_append, List.map_append, Int.zero_add]
          rfl
        rw [ey]
        have sc := same_upd (o := .lst ((zi (v ++ [j])).map V.int)) nc
        have s5 := s34.trans (st.trans sc)
        refine ⟨a, b, c, ps, qs, sts, ws, v ++ [j], rfl, s5.seq hA, (hP.same s5).rows, s5.seq hB, hQ.same s5, SqL.of upd_same, h0, fun H5 s6 => ?_⟩
        have s7 := st.trans (sc.trans s6)
        refine ⟨_, s7 _ _ eD, ?_, same_new (s4.trans s7) nD, ?_⟩
        · rw [zvl, List.length_take]
          exact small1000 (by omega)
        · rw [upd_same, take_more (x := plOf sts ws (v ++ [j]))]
          · unfold zi
            rw [List.map_append, List.map_append]
            rfl
          · unfold mvOf
            rw [List.getElem?_map, List.getElem?_range hj]
            rfl
      · rintro H4 ⟨s4, eD⟩
        rw [List.take_of_length_le (by omega)] at eD
        have lr : rs.length = ((mvsOf sts ws n).take i).length := by have := hR.1; rw [List.length_map] at this; exact this
        have oD4 := s4 _ _ h3
        refine ⟨o, _, _, rfl, rfl, oD4, ?_, ?_⟩
        · rw [List.length_map, lr, List.length_take]
          exact small1000 (by omega)
        · refine ⟨_, _, rfl, rs ++ [D], ?_, same_new (sm.trans s4) no, ?_, ?_⟩
          · intro h
            rcases List.mem_append.mp h with h | h
            · exact nor h
            · exact oD (List.mem_singleton.mp h)
          · rw [upd_same, List.map_append]
            rfl
          · rw [take_more (x := mvOf sts ws n v) (by unfold mvsOf; rw [List.getElem?_map, gv]; rfl), List.map_append]
            exact ((hR.same s4).upd nor).snoc (by rw [upd_ne (Ne.symm oD)]; exact eD)
    · rintro σ H3 ⟨y, z, rfl, rs, nor, sm, h3, hR⟩
      rw [List.length_map, lps, List.take_of_length_le (by unfold mvsOf; rw [List.length_map]; exact Nat.le_refl _)] at hR
      exact ⟨_, rfl, q H3 o rs sm h3 hR⟩
end
end Rt
/-! ### race.py: equation -/
namespace Rt
open PySem PySem.Spec PyProof.Rows L2
theorem RowsAt.wordD {K : PySem.W.Frag} {H : Hp} {ps : List Addr} {ws : List (List Nat)} (h : RowsAt K H ps (ws.map zi)) {i : Nat} (hi : i < ws.length) : ∃ p, ps[i]? = some p ∧ SqL K H p ((zi (ws.getD i [])).map V.int) := by
  obtain ⟨p, gp, hp⟩ := h.get (i := i) (by rw [List.length_map]; exact hi)
  refine ⟨p, gp, ?_⟩
  have : (ws.map zi).getD i [] = zi (ws.getD i []) := by
    rw [List.getD_eq_getElem?_getD, List.getElem?_map, List.getD_eq_getElem?_getD, List.getElem?_eq_getElem hi]
    rfl
  rw [this] at hp
  exact hp
theorem zi_sum : ∀ W : List Nat, (zi W).sum = (W.sum : Nat)
  | [] => rfl
  | x :: W => by
    show (x : Int) + (zi W).sum = ((x + W.sum : Nat) : Int)
    rw [zi_sum W]
    omega
theorem iv_set (row : List Int) (j : Nat) (z : Int) : (row.map V.int).set j (V.int z) = (row.set j z).map V.int := List.map_set.symm
theorem ixN_of {n j : Nat} (h : j < n) : ixN n (j : Int) = some j := by
  unfold ixN
  rw [if_pos (by omega), if_pos (by omega)]
  rfl
theorem flat_zero : ∀ k : Nat, (List.replicate k [V.int 0]).flatten = (List.replicate k (0 : Int)).map V.int
  | 0 => rfl
  | k + 1 => by
    rw [List.replicate_succ, List.flatten_cons, flat_zero k, List.replicate_succ]
    rfl
theorem getDN {ws : List (List Nat)} {i : Nat} {w : List Nat} (h : ws[i]? = some w) : ws.getD i [] = w := by
  rw [List.getD_eq_getElem?_getD, h]
  rfl
theorem getN {ws : List Nat} {i : Nat} {w : Nat} (h : ws[i]? = some w) : ws.getD i 0 = w := by
  rw [List.getD_eq_getElem?_getD, h]
  rfl
section
variable {P : Program} {w : World} {K : PySem.W.Frag} {mg : Str → Option Value} {base : Heap}
def spEqn (K : PySem.W.Frag) : Sp := fun vs H Q _ => ∃ (a c : Addr) (rs : List Addr) (mv : List (List Nat)) (W : List Nat) (s m : Nat), vs = [.int s, .ref a, .int m, .ref c] ∧ SqL K H a (rs.map V.ref) ∧ RowsAt K H rs (mv.map zi) ∧ SqL K H c ((zi W).map V.int) ∧
  s < mv.length ∧ mv.length ≤ 500 ∧ m ≤ 10 ∧ (mv.getD s []).length = W.length ∧ (∀ p, p ∈ mv.getD s [] → p < mv.length + m) ∧
  ∀ H' p, Same H H' → H p = none → H' p = some (.lst ((eqOf mv.length m W (mv.getD s []) s).map V.int)) → Q (.ref p) H'
theorem scEqn : FnScope ["number", "moves", "word_count", "weights", "row", "place", "weight"] ["number", "moves", "word_count", "weights"] (defScope sEqn) := ⟨rfl, rfl, rfl, by decide +kernel, rfl, by decide +kernel, by decide +kernel⟩
theorem ok_eqn {f : Addr} {fd : FuncData} {k : Nat} (F : Fun K "equation" "equation" sEqn f fd) (ml : mg "len" = none) (mz : mg "zip" = none) (ms : mg "sum" = none) :
    FnOk P w K mg base CX0 (k + 1) f fd ["number", "moves", "word_count", "weights"] (spEqn K) := by
  refine F.ok scEqn (fun vs H Q E h => ?_) (fun cdv A outer s H vs Q E hr h => ?_)
  · obtain ⟨a, c, rs, mv, W, s, m, rfl, _⟩ := h
    rfl
  · obtain ⟨a, c, rs, mv, W, s, m, rfl, hA, hR, hC, hs, hn, hm, hl, hp, q⟩ := h
    refine ⟨_, pss_cons (ps_set (i := 4) scEqn.nd rfl (.inl rfl) (pe_op op_rep (pe_lst (pa_cons pe_int pa_nil)) (pe_op op_add (pe_callB call_len_seq (by rfl) ml PySem.boot_len (pa_cons (pv 1) pa_nil)) (pv 2))))
      (pss_cons (ps_asg (pe_callB (cr_sum rfl) (by rfl) ms (by decide +kernel) (pa_cons (pv 3) pa_nil)) (pg_sub (pv 4) (pv 0) set_list))
      (pss_cons (ps_for PassesOwn.never rfl (pi_zip (by rfl) mz (pa_cons (pe_ix ix_list (pv 1) (pv 0) (fun _ _ => rfl)) (pa_cons (pv 3) pa_nil)))
          (pg_tup rfl (pgs_cons (pg_name (i := 5) scEqn.nd rfl (.inl rfl)) (pgs_cons (pg_name (i := 6) scEqn.nd rfl (.inl rfl)) pgs_nil)))
        (pss_one (ps_if (pt_cmpR op_lt (pv 5) (pe_callB call_len_seq (by rfl) ml PySem.boot_len (pa_cons (pv 1) pa_nil)) (nomark _))
          (pss_one (ps_asg (pe_op op_sub (pe_ix ix_list (pv 4) (pv 5) (fun _ _ => rfl)) (pv 6)) (pg_sub (pv 4) (pv 5) set_list)))
          (pss_one (ps_asg (pe_op op_add (pe_ix ix_list (pv 4) (pv 5) (fun _ _ => rfl)) (pv 6)) (pg_sub (pv 4) (pv 5) set_list))))))
      (pss_one (ps_ret (pe_op op_cat (pv 4) (pe_lst (pa_cons (pe_callB (cr_sum rfl) (by rfl) ms (by decide +kernel) (pa_cons (pv 3) pa_nil)) pa_nil))))))), ?_⟩
    have lrs : (rs.map V.ref).length = mv.length := by rw [List.length_map, hR.1, List.length_map]
    generalize hN : mv.length = n at *
    generalize hps : mv.getD s [] = ps at *
    refine ⟨by show 1 ≤ sizeLine; decide, fun l nl => ⟨_, rfl, a, _, rfl, .inl ((same_upd nl).seq hA), _, rfl, _, _, rfl, rfl, l, _, _, rfl, rfl, upd_same, ?_, ?_, ?_, fun o no => ?_⟩⟩
    · rw [lrs]; omega
    · rw [lrs]; omega
    · rw [lrs]
      show 1 * ((n : Int) + m).toNat ≤ sizeLine
      have := small1000 (n := 1 * ((n : Int) + m).toNat) (by omega)
      omega
    have no0 : H o = none := (same_upd nl).free no
    have k0 : (((rs.map V.ref).length : Int) + (m : Nat)).toNat = n + m := by rw [lrs]; omega
    rw [k0, flat_zero]
    have s2 := (same_upd (o := .lst [V.int 0]) nl).trans (same_upd (o := .lst ((List.replicate (n + m) (0 : Int)).map V.int)) no)
    have l0 : ((List.replicate (n + m) (0 : Int)).map V.int).length = n + m := by rw [List.length_map, List.length_replicate]
    -- row[number] = sum(weights)
    refine ⟨_, rfl, c, zi W, rfl, s2.seq hC, _, rfl, _, rfl, o, _, _, s, rfl, rfl, upd_same, ixN_of (by rw [l0]; omega), ?_⟩
    rw [iv_set, zi_sum]
    have s3 := same_new (o := .lst ((eqTo n m W ps s 0).map V.int)) s2 no0
    obtain ⟨pr, gpr, hpr⟩ := RowsAt.wordD (ws := mv) (hR.same s3) (i := s) (by omega)
    rw [hps] at hpr
    refine ⟨_, rfl, _, rfl, a, _, _, V.ref pr, rfl, rfl, s3.seq hA, atI_nat (by rw [List.getElem?_map, gpr]; rfl), _, rfl, pr, c, _, _, rfl, hpr, s3.seq hC, ?_⟩
    have hprH : ∀ H4, Same H H4 → SqL K H4 pr ((zi ps).map V.int) := by
      intro H4 s4
      obtain ⟨p2, g2, h2⟩ := RowsAt.wordD (ws := mv) (hR.same s4) (i := s) (by omega)
      have : p2 = pr := Option.some.inj (g2.symm.trans gpr)
      rw [← this, ← hps]
      exact h2
    refine RZ.for_zipL (by rw [zvl, zvl, hl]) (fun i σ H3 => ∃ u v, σ = [some (.int s), some (.ref a), some (.int m), some (.ref c), some (.ref o), u, v] ∧ Same H H3 ∧ H3 o = some (.lst ((eqTo n m W ps s i).map V.int)))
      ⟨none, none, rfl, s3, upd_same⟩ (fun i σ H3 ⟨_, _, _, sm, _⟩ => ⟨hprH H3 sm, sm.seq hC⟩) ?_ ?_
    · rintro i x y T σ H3 hx hy ⟨u, v, rfl, sm, eo⟩ nT
      obtain ⟨zx, gx, rfl⟩ := iv_at hx
      obtain ⟨p, gp, rfl⟩ := zi_get gx
      obtain ⟨zy, gy, rfl⟩ := iv_at hy
      obtain ⟨wx, gw, rfl⟩ := zi_get gy
      have oT : o ≠ T := ne_of_none eo nT
      have sT := sm.trans (same_upd (o := .tup [.int (p : Nat), .int (wx : Nat)]) nT)
      have eoT : (upd H3 T (.tup [.int (p : Nat), .int (wx : Nat)])) o = some (.lst ((eqTo n m W ps s i).map V.int)) := by
        rw [upd_ne oT]
        exact eo
      have pl := hp p (List.mem_of_getElem? gp)
      have rl := eqTo_len n m W ps s i
      have f1 := atI_nat (iv_get (ns := eqTo n m W ps s i) (i := p) (by rw [rl]; omega))
      have f2 := ixN_of (n := ((eqTo n m W ps s i).map V.int).length) (j := p) (by rw [List.length_map, rl]; omega)
      refine ⟨T, [_, _], rfl, .inl (.inl upd_same), rfl, _, [_], rfl, _, [], rfl, rfl, ?_⟩
      refine ⟨_, rfl, _, rfl, a, _, rfl, .inl (sT.seq hA), _, _, rfl, rfl, _, rfl, ite2 (fun e => ?_) (fun e => ?_)⟩
      · have e1 : (p : Int) < ((rs.map V.ref).length : Nat) := of_decide_eq_true e
        rw [lrs] at e1
        refine ⟨_, rfl, _, rfl, o, _, _, _, rfl, rfl, SqL.of eoT, f1, _, rfl, _, _, rfl, rfl, _, rfl, _, rfl, o, _, _, _, rfl, rfl, eoT, f2, ?_⟩
        refine ⟨_, _, rfl, same_new sT no0, ?_⟩
        rw [upd_same, iv_set]
        show _ = some (HO.lst ((eqStep n (eqTo n m W ps s i) (ps.getD i 0) (W.getD i 0)).map V.int))
        unfold eqStep
        rw [getN gp, getN gw, if_pos (by omega)]
      · have e1 : ¬ (p : Int) < ((rs.map V.ref).length : Nat) := fun z => e (decide_eq_true z)
        rw [lrs] at e1
        refine ⟨_, rfl, _, rfl, o, _, _, _, rfl, rfl, SqL.of eoT, f1, _, rfl, _, _, rfl, rfl, _, rfl, _, rfl, o, _, _, _, rfl, rfl, eoT, f2, ?_⟩
        refine ⟨_, _, rfl, same_new sT no0, ?_⟩
        rw [upd_same, iv_set]
        show _ = some (HO.lst ((eqStep n (eqTo n m W ps s i) (ps.getD i 0) (W.getD i 0)).map V.int))
        unfold eqStep
        rw [getN gp, getN gw, if_neg (by omega)]
    · rintro σ H3 ⟨u, v, rfl, sm, eo⟩
      rw [zvl, hl] at eo
      refine ⟨_, rfl, _, rfl, c, zi W, rfl, sm.seq hC, by show 1 ≤ sizeLine; decide, fun t nt => ?_⟩
      have st := same_upd (o := .lst [V.int (zi W).sum]) nt
      refine ⟨o, t, _, _, rfl, rfl, st _ _ eo, upd_same, ?_, fun r nr => ?_⟩
      · rw [List.length_map, eqTo_len]
        have := small1000 (n := n + m + 1) (by omega)
        show n + m + 1 ≤ sizeLine
        omega
      refine q _ r (sm.trans (st.trans (same_upd nr))) ((sm.trans st).free nr) ?_
      rw [upd_same]
      unfold eqOf
      rw [List.map_append, zi_sum]
      rfl
end
end Rt
/-! ### race.py: outcome -/
namespace Rt
open PySem PySem.Spec PyProof.Rows L2
open Rw (lp W low)
open Uw53 (Game)
abbrev sOutc : Stmt := top 28
/-- a def of the module stands where its name says -/
def Def (K : PySem.W.Frag) (mg : Str → Option Value) (name : Str) (st : Stmt) (ps : List Str) : Prop := ∃ f fd, Fun K name name st f fd ∧ Binds K fd ps [] ∧ mg name = some (.ref f)
/-- the defs that a race needs, and the built-in names -/
structure DR (K : PySem.W.Frag) (mg : Str → Option Value) : Prop where
  len : mg "len" = none
  zip : mg "zip" = none
  range : mg "range" = none
  enum : mg "enumerate" = none
  sum : mg "sum" = none
  all : mg "all" = none
  list : mg "list" = none
  ends : Def K mg "ends_with" sEnds ["sequence", "part"]
  wend : Def K mg "word_at_end" sWend ["words", "sequence"]
  gcd : Def K mg "common_divisor" sGcd ["one", "other"]
  low : Def K mg "lowest_terms" sLow ["numerator", "denominator"]
  wu : Def K mg "without_unknown" sWu ["row", "pivot_row", "unknown", "last_pivot"]
  fu : Def K mg "first_unknown" sFu ["rows"]
  stOf : Def K mg "states_of" sStOf ["words"]
  stAft : Def K mg "state_after" sStAft ["states", "sequence"]
  stFrom : Def K mg "states_from" sStFrom ["words", "drawn"]
  place : Def K mg "place_after" sPlace ["states", "words", "sequence"]
  moves : Def K mg "moves_of" sMoves ["states", "words", "letter_count"]
  eqn : Def K mg "equation" sEqn ["number", "moves", "word_count", "weights"]
  outc : Def K mg "outcome" sOutc ["words", "weights", "drawn"]
theorem atI_neg {xs : List V} {k : Nat} {v : V} (hl : xs.length = k + 1) (h : xs[k]? = some v) : atI xs (-1) = some v := by
  have e : ixN xs.length (-1) = some k := by
    unfold ixN
    rw [hl, if_neg (by decide), if_pos (by omega)]
    congr 1
    omega
  unfold atI
  rw [e]
  exact h
theorem cut_mid (xs : List V) (n m : Nat) (h : xs.length = n + m + 1) : cutV xs (some (n : Int)) (some (-1)) = (xs.drop n).take m := by
  unfold cutV
  have e : HT.sIx xs.length xs.length (some (-1)) = n + m := by
    show (if (-1 : Int) < 0 then ((-1 : Int) + (xs.length : Int)).toNat else min (-1 : Int).toNat xs.length) = n + m
    rw [if_pos (by decide), h]
    omega
  rw [HT.sIx_nat, e, Nat.min_eq_left (by omega)]
  congr 1
  omega
theorem low_map (a b : Nat) : (low a b).map V.int = [.int (a / Nat.gcd a b : Nat), .int (b / Nat.gcd a b : Nat)] := rfl
theorem sm8 {z : Int} (h0 : 0 < z) (h : Sm z) : z.toNat < 2 ^ 8000 := by
  have h1 : z.natAbs < 2 ^ 3000 := h
  have h2 : z.toNat = z.natAbs := by omega
  rw [h2]
  exact Nat.lt_trans h1 (Nat.pow_lt_pow_right (by decide) (by decide))
/-- what is told of the row, behind the first i words -/
def outTo (n m : Nat) (l : List Int) (i : Nat) : List Int := low (l.getD (n + m) 0).toNat (l.getD 0 0).toNat ++ (List.range i).flatMap fun i => low (l.getD (n + i) 0).toNat (l.getD 0 0).toNat
theorem outTo_len (n m : Nat) (l : List Int) : ∀ i, (outTo n m l i).length = 2 + 2 * i
  | 0 => rfl
  | i + 1 => by
    have ih := outTo_len n m l i
    unfold outTo at ih ⊢
    rw [List.range_succ, List.flatMap_append, ← List.append_assoc, List.length_append, ih]
    show 2 + 2 * i + 2 = _
    omega
theorem outTo_succ (n m : Nat) (l : List Int) (i : Nat) : outTo n m l (i + 1) = outTo n m l i ++ low (l.getD (n + i) 0).toNat (l.getD 0 0).toNat := by
  unfold outTo
  rw [List.range_succ, List.flatMap_append, ← List.append_assoc]
  simp
section
variable {P : Program} {w : World} {K : PySem.W.Frag} {mg : Str → Option Value} {base : Heap}
def spOutc (K : PySem.W.Frag) : Sp := fun vs H Q _ => ∃ (a b c : Addr) (ps : List Addr) (g : Game) (ws : List (List Nat)) (u : List Nat), vs = [.ref a, .ref b, .ref c] ∧ SqL K H a (ps.map V.ref) ∧ RowsAt K H ps (ws.map zi) ∧ SqL K H b ((zi g.weights).map V.int) ∧ SqL K H c ((zi u).map V.int) ∧ Fit g ws u ∧
  ∀ H' p, Same H H' → H p = none → H' p = some (.lst ((outc g ws u).map V.int)) → Q (.ref p) H'
theorem scOutc : FnScope ["words", "weights", "drawn", "states", "moves", "left", "fractions", "value", "number"] ["words", "weights", "drawn"] (defScope sOutc) := ⟨rfl, rfl, rfl, by decide +kernel, rfl, by decide +kernel, by decide +kernel⟩
theorem ok_outc {f : Addr} {fd : FuncData} {k : Nat} (F : Fun K "outcome" "outcome" sOutc f fd) (D : DR K mg) : FnOk P w K mg base CX0 (k + 5) f fd ["words", "weights", "drawn"] (spOutc K) := by
  obtain ⟨fE, fdE, FE, bE, gE⟩ := D.ends
  obtain ⟨fW, fdW, FW, bW, gW⟩ := D.wend
  obtain ⟨fG, fdG, FG, bG, gG⟩ := D.gcd
  obtain ⟨fL, fdL, FL, bL, gL⟩ := D.low
  obtain ⟨fU, fdU, FU, bU, gU⟩ := D.wu
  obtain ⟨fF, fdF, FF, bF, gF⟩ := D.fu
  obtain ⟨fO, fdO, FO, bO, gO⟩ := D.stOf
  obtain ⟨fA, fdA, FA, bA, gA⟩ := D.stAft
  obtain ⟨fS, fdS, FS, bS, gS⟩ := D.stFrom
  obtain ⟨fP, fdP, FP, bP, gP⟩ := D.place
  obtain ⟨fM, fdM, FM, bM, gM⟩ := D.moves
  obtain ⟨fQ, fdQ, FQ, bQ, gQ⟩ := D.eqn
  have GS : FnOk P w K mg base CX0 (k + 4) fS fdS ["words", "drawn"] (spStFrom K) := ok_stFrom (k := k + 2) FS FO bO gO FA bA gA D.len D.range
  have GM : FnOk P w K mg base CX0 (k + 4) fM fdM ["states", "words", "letter_count"] (spMoves K) := ok_moves (k := k) FM FP bP gP FE bE gE FW bW gW FA bA gA D.len D.enum D.range
  have GF : FnOk P w K mg base CX0 (k + 4) fF fdF ["rows"] (spFu K) := ok_fu (k := k + 2) FF FU bU gU D.zip D.range D.len
  have GQ : FnOk P w K mg base CX0 (k + 4) fQ fdQ ["number", "moves", "word_count", "weights"] (spEqn K) := ok_eqn (k := k + 3) FQ D.len D.zip D.sum
  have GL : FnOk P w K mg base CX0 (k + 4) fL fdL ["numerator", "denominator"] spLow := ok_low (k := k + 2) FL FG bG gG
  have ml := D.len
  have mr := D.range
  refine F.ok scOutc (fun vs H Q E h => ?_) (fun cdv A outer s H vs Q E hr h => ?_)
  · obtain ⟨a, b, c, ps, g, ws, u, rfl, _⟩ := h
    rfl
  · obtain ⟨a, b, c, ps, g, ws, u, rfl, hA, hP, hB, hC, fit, q⟩ := h
    refine ⟨_, pss_cons (ps_set (i := 3) scOutc.nd rfl (.inl rfl) (pe_call GS hr (by rfl) gS FS.kp bS .nil pass0 (pa_cons (pv 0) (pa_cons (pv 2) pa_nil))))
      (pss_cons (ps_set (i := 4) scOutc.nd rfl (.inr rfl) (pe_call GM hr (by rfl) gM FM.kp bM .nil pass0 (pa_cons (pv 3) (pa_cons (pv 0) (pa_cons (pe_callB call_len_seq (by rfl) ml PySem.boot_len (pa_cons (pv 1) pa_nil)) pa_nil)))))
      (pss_cons (ps_set (i := 5) scOutc.nd rfl (.inl rfl) (pe_call GF hr (by rfl) gF FF.kp bF .nil pass0 (pa_cons (pe_lc (own := [("number", 8)]) (g := gName 8) (tt := tYes) rfl scOutc.nd (pi_range1 rfl mr (pa_cons (pe_callB call_len_seq (by rfl) ml PySem.boot_len (pa_cons (pv 3) pa_nil)) pa_nil)) (blkOk_by (N := ["words", "weights", "drawn", "states", "moves", "left", "fractions", "value", "number"]) (sc := defScope sOutc) (by decide +kernel)) (fun _ _ _ _ _ => pg_name (i := 8) scOutc.nd rfl (Or.inl rfl)) (fun _ _ _ _ _ => pts_nil)
          (fun _ _ _ _ _ => pe_call GQ hr (by rfl) gQ FQ.kp bQ .nil pass0 (pa_cons (pv 8) (pa_cons (pv 4) (pa_cons (pe_callB (r := rLen K) call_len_seq (by rfl) ml PySem.boot_len (pa_cons (pv 0) pa_nil)) (pa_cons (pv 1) pa_nil)))))) pa_nil)))
      (pss_cons (ps_set (i := 6) scOutc.nd rfl (.inl rfl) (pe_call GL hr (by rfl) gL FL.kp bL .nil pass0 (pa_cons (pe_ix ix_list (pv 5) (pe_un un_neg pe_int) (fun _ _ => rfl)) (pa_cons (pe_ix ix_list (pv 5) pe_int (fun _ _ => rfl)) pa_nil))))
      (pss_cons (ps_for PassesOwn.never rfl (pi_list (pe_slice sl_list (pv 5) (po_some (pe_callB call_len_seq (by rfl) ml PySem.boot_len (pa_cons (pv 3) pa_nil))) (po_some (pe_un un_neg pe_int)))) (pg_name (i := 7) scOutc.nd rfl (.inl rfl))
        (pss_one (ps_expr (pe_bm PySem.F.plainAttrs_list PySem.F.slot_list_extend PySem.F.type_list_extend mt_extend (pv 6) (pa_cons (pe_call GL hr (by rfl) gL FL.kp bL .nil pass0 (pa_cons (pv 7) (pa_cons (pe_ix ix_list (pv 5) pe_int (fun _ _ => rfl)) pa_nil))) pa_nil)))))
      (pss_one (ps_ret (pv 6))))))), ?_⟩
    obtain ⟨tame, d0, dS, nn, _⟩ := outc_ok fit.pos fit.ne fit.t30 fit.free fit.lets fit.some_ (fit_states fit) fit.clean
    have n50 := fit_states fit
    have np := stFrom_pos ws u
    have n4 := fit.n4
    have lps : (ps.map V.ref).length = ws.length := by rw [List.length_map, hP.1, List.length_map]
    have lW : ((zi g.weights).map V.int).length = g.weights.length := zvl _
    -- states
    refine ⟨_, rfl, _, rfl, a, c, ps, ws, u, rfl, hA, hP, hC, by omega, fun w hw => by have := fit.w5 w hw; omega, fun H1 o qs s1 eo hQ => ?_⟩
    have lqs : (qs.map V.ref).length = (stFrom ws u).length := by rw [List.length_map, hQ.1, List.length_map]
    -- moves
    refine ⟨_, rfl, _, rfl, _, rfl, b, _, rfl, .inl (s1.seq hB), o, a, qs, ps, stFrom ws u, ws, g.weights.length, by rw [lW]; rfl, SqL.of eo, hQ, s1.seq hA, hP.same s1, (states_stFrom ws u).nil, fit.l10, by omega, fun v hv => ?_, fun H2 m rs s2 em hR => ?_⟩
    · rcases (states_stFrom ws u).pre v hv with h | ⟨w, hw, hp, _⟩
      · rw [h]; exact Nat.zero_le _
      · have := hp.length_le
        have := fit.w5 w hw
        omega
    have s12 := s1.trans s2
    have eo2 := s2 _ _ eo
    -- left
    have lmv : (mvsOf (stFrom ws u) ws g.weights.length).length = (stFrom ws u).length := by unfold mvsOf; rw [List.length_map]
    refine ⟨_, rfl, o, _, rfl, .inl (SqL.of eo2), (stFrom ws u).length, by rw [lqs], by omega, by omega, fun D nD => ?_⟩
    rw [Int.toNat_natCast]
    have oD : o ≠ D := ne_of_none eo2 nD
    refine lc_range (lo := 0) (n := (stFrom ws u).length) (fun j H4 => ∃ zs : List Addr, D ∉ zs ∧ Same H2 H4 ∧ H4 D = some (.lst (zs.map V.ref)) ∧ TrAt H4 zs ((rowsS g.weights (stFrom ws u) ws).take j))
      ⟨[], List.not_mem_nil, same_upd nD, upd_same, rfl, fun i p r h => by cases h⟩ ?_ ?_
    · rintro j H4 hj ⟨zs, nz, s4, eD, hZ⟩
      refine ⟨rfl, lc_yes ?_⟩
      have s24 := s12.trans s4
      have egd : (mvsOf (stFrom ws u) ws g.weights.length).getD j [] = mvOf (stFrom ws u) ws g.weights.length (W (stFrom ws u) j) := by
        unfold mvsOf W
        rw [List.getD_eq_getElem?_getD, List.getElem?_map, List.getD_eq_getElem?_getD, List.getElem?_eq_getElem hj]
        rfl
      have zl : zs.length ≤ j := by
        have := hZ.1
        rw [List.length_take] at this
        omega
      refine ⟨_, rfl, _, rfl, _, rfl, a, _, rfl, .inl (s24.seq hA), _, rfl, m, b, rs, mvsOf (stFrom ws u) ws g.weights.length, g.weights, j, ws.length, by rw [lps, Int.zero_add]; rfl, SqL.of (s4 _ _ em), (hR.same s4).rows, s24.seq hB, by omega, by omega, by omega, ?_, ?_, fun H5 z s5 nz5 ez => ?_⟩
      · rw [egd]
        unfold mvOf
        rw [List.length_map, List.length_range]
      · intro p hp
        rw [egd] at hp
        obtain ⟨x, _, rfl⟩ := List.mem_map.mp hp
        rw [lmv]
        exact mvS_lt (states_stFrom ws u) j x
      · rw [lmv, egd] at ez
        have hnext : (rowsS g.weights (stFrom ws u) ws)[j]? = some (eqOf (stFrom ws u).length ws.length g.weights (mvOf (stFrom ws u) ws g.weights.length (W (stFrom ws u) j)) j) := by
          unfold rowsS
          rw [List.getElem?_map, List.getElem?_range hj]
          rfl
        have zD : D ≠ z := ne_of_none eD nz5
        refine ⟨zs.map V.ref, s5 _ _ eD, by rw [List.length_map]; exact small1000 (by omega), zs ++ [z], ?_, same_new (s4.trans s5) nD, ?_, ?_⟩
        · intro h
          rcases List.mem_append.mp h with h | h
          · exact nz h
          · exact zD (List.mem_singleton.mp h)
        · rw [upd_same, List.map_append]
          rfl
        · rw [take_more hnext]
          exact ((hZ.same s5).upd nz).snoc (by rw [upd_ne (Ne.symm zD)]; exact ez)
    · rintro H4 ⟨zs, nz, s4, eD, hZ⟩
      have rl : (rowsS g.weights (stFrom ws u) ws).length = (stFrom ws u).length := rowsS_len
      rw [List.take_of_length_le (by omega)] at hZ
      refine ⟨D, zs, rowsS g.weights (stFrom ws u) ws, (stFrom ws u).length + ws.length + 1, rfl, SqL.of eD, hZ.rows, by omega, by omega, by omega, rowsS_row, tame, fun H5 l s5 el => ?_⟩
      have s25 := s12.trans (s4.trans s5)
      have ll : (leftS g ws u).length = (stFrom ws u).length + ws.length + 1 := by
        have mem : leftS g ws u ∈ (fuSt (rowsS g.weights (stFrom ws u) ws) ((rowsS g.weights (stFrom ws u) ws).length - 1)).1 := by
          have l1 := fuSt_len (rowsS g.weights (stFrom ws u) ws) ((rowsS g.weights (stFrom ws u) ws).length - 1) (by omega)
          exact getDL_mem (by omega)
        exact fuSt_row (rowsS_row (g := g) (sts := stFrom ws u) (ws := ws)) _ (by omega) _ mem
      have el2 : SqL K H5 l ((leftS g ws u).map V.int) := el
      have vl : ((leftS g ws u).map V.int).length = (stFrom ws u).length + ws.length + 1 := by rw [List.length_map, ll]
      have g0 : ((leftS g ws u).map V.int)[0]? = some (V.int ((leftS g ws u).getD 0 0)) := iv_get (by omega)
      have e0 : (leftS g ws u).getD 0 0 = (((leftS g ws u).getD 0 0).toNat : Nat) := by omega
      -- fractions = lowest_terms(left[-1], left[0])
      refine ⟨_, rfl, _, rfl, l, _, _, _, rfl, rfl, el2, atI_neg vl (iv_get (by omega)), _, rfl, l, _, (0 : Nat), _, rfl, rfl, el2, atI_nat g0, ((leftS g ws u).getD ((stFrom ws u).length + ws.length) 0).toNat, ((leftS g ws u).getD 0 0).toNat, ?_, by omega, sm8 d0 dS, fun p np5 => ?_⟩
      · have := nn ws.length (Nat.le_refl _)
        rw [← e0]
        have e1 : (leftS g ws u).getD ((stFrom ws u).length + ws.length) 0 = ((((leftS g ws u).getD ((stFrom ws u).length + ws.length) 0).toNat : Nat) : Int) := by omega
        rw [← e1]
        rfl
      have sp := same_upd (o := .lst ((outTo (stFrom ws u).length ws.length (leftS g ws u) 0).map V.int)) np5
      have ep0 : (HO.lst [V.int ((((leftS g ws u).getD ((stFrom ws u).length + ws.length) 0).toNat / Nat.gcd ((leftS g ws u).getD ((stFrom ws u).length + ws.length) 0).toNat ((leftS g ws u).getD 0 0).toNat : Nat)), V.int ((((leftS g ws u).getD 0 0).toNat / Nat.gcd ((leftS g ws u).getD ((stFrom ws u).length + ws.length) 0).toNat ((leftS g ws u).getD 0 0).toNat : Nat))]) = .lst ((outTo (stFrom ws u).length ws.length (leftS g ws u) 0).map V.int) := rfl
      rw [ep0]
      have np0 : H p = none := s25.free np5
      -- for value in left[len(states):-1]
      refine ⟨_, rfl, _, rfl, o, _, rfl, .inl (sp.seq (s5.seq (s4.seq (SqL.of eo2)))), _, rfl, _, rfl, _, rfl, l, _, rfl, sp.seq el2, fun t nt => ?_⟩
      rw [lqs, cut_mid _ _ _ vl]
      have st := same_upd (o := .lst ((((leftS g ws u).map V.int).drop (stFrom ws u).length).take ws.length)) nt
      have s6 := s25.trans (sp.trans st)
      have pt : p ≠ t := fun z => by
        rw [← z, upd_same] at nt
        cases nt
      refine ⟨t, rfl, ⟨_, SqL.of upd_same⟩, for_list (K := K) (a := t) (xs := (((leftS g ws u).map V.int).drop (stFrom ws u).length).take ws.length) (fun i σ H6 => ∃ v n8, σ = [some (.ref a), some (.ref b), some (.ref c), some (.ref o), some (.ref m), some (.ref l), some (.ref p), v, n8] ∧ Same H5 H6 ∧ H6 t = some (.lst ((((leftS g ws u).map V.int).drop (stFrom ws u).length).take ws.length)) ∧ H6 p = some (.lst ((outTo (stFrom ws u).length ws.length (leftS g ws u) i).map V.int)))
        ⟨_, _, rfl, sp.trans st, upd_same, st _ _ upd_same⟩ (fun i σ H6 _ ⟨_, _, _, _, e, _⟩ => SqL.of e) ?_ ?_⟩
      · rintro i x σ H6 hx ⟨v, n8, rfl, sm, h6t, h6p⟩
        have h6l := sm.seq el2
        have hi : i < ws.length := by
          have := (List.getElem?_eq_some_iff.mp hx).1
          rw [List.length_take, List.length_drop, vl] at this
          omega
        rw [List.getElem?_take_of_lt hi, List.getElem?_drop, iv_get (by omega)] at hx
        have ex := Option.some.inj hx
        subst ex
        have e1 : (leftS g ws u).getD ((stFrom ws u).length + i) 0 = ((((leftS g ws u).getD ((stFrom ws u).length + i) 0).toNat : Nat) : Int) := by
          have := nn i (by omega)
          omega
        refine ⟨_, rfl, .inl ⟨rfl, _, SqL.of h6p⟩, _, rfl, _, rfl, l, _, (0 : Nat), _, rfl, rfl, h6l, atI_nat g0, ((leftS g ws u).getD ((stFrom ws u).length + i) 0).toNat, ((leftS g ws u).getD 0 0).toNat, by rw [← e1, ← e0]; rfl, by omega, sm8 d0 dS, fun y ny => ?_⟩
        have sy := same_upd (o := .lst ((low ((leftS g ws u).getD ((stFrom ws u).length + i) 0).toNat ((leftS g ws u).getD 0 0).toNat).map V.int)) ny
        have py : p ≠ y := ne_of_none h6p ny
        refine ⟨p, y, _, (low ((leftS g ws u).getD ((stFrom ws u).length + i) 0).toNat ((leftS g ws u).getD 0 0).toNat).map V.int, rfl, rfl, sy _ _ h6p, upd_same, ?_, ?_⟩
        · rw [List.length_map, outTo_len]
          have := small1000 (n := 2 + 2 * i + 2) (by omega)
          show 2 + 2 * i + 2 ≤ sizeLine
          omega
        · have s7 := same_new (o := .lst ((outTo (stFrom ws u).length ws.length (leftS g ws u) i).map V.int ++ (low ((leftS g ws u).getD ((stFrom ws u).length + i) 0).toNat ((leftS g ws u).getD 0 0).toNat).map V.int)) (sm.trans sy) np5
          have tp : t ≠ p := Ne.symm pt
          refine ⟨_, _, rfl, s7, ?_, ?_⟩
          · rw [upd_ne tp]
            exact sy _ _ h6t
          · rw [upd_same, outTo_succ, List.map_append]
      · rintro σ H6 ⟨v, n8, rfl, sm, h6t, h6p⟩
        have : ((((leftS g ws u).map V.int).drop (stFrom ws u).length).take ws.length).length = ws.length := by
          rw [List.length_take, List.length_drop, vl]
          omega
        rw [this] at h6p
        exact ⟨_, rfl, q H6 p (s25.trans sm) np0 h6p⟩
end
end Rt
/-! ### race.py: one_letter_later, standing -/
namespace Rt
open PySem PySem.Spec PyProof.Rows L2
open Rw (lp W low)
open Uw53 (Game)
abbrev sOll : Stmt := top 29
abbrev sStand : Stmt := top 30
theorem zi_set (l : List Nat) (p v : Nat) : (zi l).set p (v : Int) = zi (l.set p v) := List.map_set.symm
theorem zi_getD (l : List Nat) (i : Nat) : (zi l).getD i 0 = ((l.getD i 0 : Nat) : Int) := by
  unfold zi
  rw [List.getD_eq_getElem?_getD, List.getElem?_map, List.getD_eq_getElem?_getD]
  cases l[i]? <;> rfl
theorem zi_at {l : List Nat} {i : Nat} (h : i < l.length) : ((zi l).map V.int)[i]? = some (V.int ((l.getD i 0 : Nat) : Int)) := by
  rw [iv_get (by rw [zi_len]; exact h), zi_getD]
theorem zi_app (l m : List Nat) : zi (l ++ m) = zi l ++ zi m := List.map_append ..
/-- a loop over zip of two lists, the second one not the longer -/
theorem for_zipS {K : PySem.W.Frag} {a b : Addr} {xs ys : List V} {g : TG} {tb : TS} {D : Ends} {σ : L2.St} {H : Hp} (hl : ys.length ≤ xs.length) (Pv : Nat → L2.St → Hp → Prop) (h0 : Pv 0 σ H) (hq : ∀ i σ H, Pv i σ H → SqL K H a xs ∧ SqL K H b ys)
    (hs : ∀ (i : Nat) (x y : V) (T : Addr) (σ : L2.St) (H : Hp), xs[i]? = some x → ys[i]? = some y → Pv i σ H → H T = none → g (.ref T) σ (upd H T (.tup [x, y])) fun σ2 H2 => tb { D with nx := Pv (i + 1), ct := Pv (i + 1), bk := D.nx } σ2 H2) (hd : ∀ σ H, Pv ys.length σ H → D.nx σ H) :
    ∃ W : Nat → Nat → L2.St → Hp → Prop, (∃ m, W 0 m σ H) ∧ ∀ i m σ H, W i m σ H →
      ((Itz K a b).stop i H ∧ D.nx σ H) ∨ ((Itz K a b).go i H ∧ ∃ N : L2.St → Hp → Prop, (∀ σ' H', N σ' H' → ∃ m', m' < m ∧ W (i + 1) m' σ' H') ∧ ∀ v H', (Itz K a b).yld i H v H' → g v σ H' fun σ2 H2 => tb { D with nx := N, ct := N, bk := D.nx } σ2 H2) := by
  refine ⟨fun i m σ H => m = ys.length - i ∧ i ≤ ys.length ∧ Pv i σ H, ⟨ys.length, rfl, Nat.zero_le _, h0⟩, ?_⟩
  rintro i m σ H ⟨rfl, hi, p⟩
  obtain ⟨qx, qy⟩ := hq i σ H p
  by_cases hlt : i < ys.length
  · have hlt2 : i < xs.length := by omega
    have hx : xs[i]? = some xs[i] := List.getElem?_eq_getElem hlt2
    have hy : ys[i]? = some ys[i] := List.getElem?_eq_getElem hlt
    refine .inr ⟨⟨xs, ys, _, _, qx, qy, hx, hy⟩, Pv (i + 1), fun σ' H' p' => ⟨ys.length - (i + 1), by omega, rfl, hlt, p'⟩, fun v H' y => ?_⟩
    obtain ⟨T, x', y', rfl, hT, rfl, f1, f2⟩ := y
    exact hs i x' y' T σ H (f1 xs qx) (f2 ys qy) p hT
  · have e : i = ys.length := by omega
    subst e
    exact .inl ⟨⟨xs, ys, qx, qy, Or.inr (Nat.le_refl _)⟩, hd σ H p⟩
theorem sm_nat {n : Nat} (h : n < 2 ^ 3000) : Sm ((n : Nat) : Int) := by
  show ((n : Nat) : Int).natAbs < 2 ^ 3000
  rw [Int.natAbs_natCast]
  exact h
section
variable {P : Program} {w : World} {K : PySem.W.Frag} {mg : Str → Option Value} {base : Heap}
def spOll (K : PySem.W.Frag) : Sp := fun vs H Q _ => ∃ (a b c : Addr) (rs : List Addr) (ch wt : List Nat) (mv : List (List Nat)), vs = [.ref a, .ref b, .ref c] ∧ SqL K H a ((zi ch).map V.int) ∧ SqL K H b (rs.map V.ref) ∧ RowsAt K H rs (mv.map zi) ∧ SqL K H c ((zi wt).map V.int) ∧
  mv.length ≤ ch.length ∧ ch.length ≤ 500 ∧ (∀ s, s < mv.length → (mv.getD s []).length = wt.length) ∧ (∀ s i, s < mv.length → i < wt.length → (mv.getD s []).getD i 0 < ch.length) ∧ (∀ x, x ∈ ch → x < 2 ^ 3000) ∧ (∀ x, x ∈ wt → x < 2 ^ 3000) ∧ wt.sum < 2 ^ 3000 ∧
  ∀ H' p, Same H H' → H p = none → H' p = some (.lst ((zi (ouTo wt ch mv mv.length)).map V.int)) → Q (.ref p) H'
theorem scOll : FnScope ["chances", "moves", "weights", "later", "chance", "places", "place", "weight"] ["chances", "moves", "weights"] (defScope sOll) := ⟨rfl, rfl, rfl, by decide +kernel, rfl, by decide +kernel, by decide +kernel⟩
theorem ok_oll {f : Addr} {fd : FuncData} {k : Nat} (F : Fun K "one_letter_later" "one_letter_later" sOll f fd) (ml : mg "len" = none) (mz : mg "zip" = none) (ms : mg "sum" = none) :
    FnOk P w K mg base CX0 (k + 1) f fd ["chances", "moves", "weights"] (spOll K) := by
  refine F.ok scOll (fun vs H Q E h => ?_) (fun cdv A outer s H vs Q E hr h => ?_)
  · obtain ⟨a, b, c, rs, ch, wt, mv, rfl, _⟩ := h
    rfl
  · obtain ⟨a, b, c, rs, ch, wt, mv, rfl, hA, hB, hR, hC, hn, hz, hlen, hpl, bch, bwt, bsum, q⟩ := h
    refine ⟨_, pss_cons (ps_set (i := 3) scOll.nd rfl (.inl rfl) (pe_op op_rep (pe_lst (pa_cons pe_int pa_nil)) (pe_callB call_len_seq (by rfl) ml PySem.boot_len (pa_cons (pv 1) pa_nil))))
      (pss_cons (ps_expr (pe_bm PySem.F.plainAttrs_list PySem.F.slot_list_extend PySem.F.type_list_extend mt_extend (pv 3) (pa_cons (pe_lc (own := [("chance", 4)]) (g := gName 4) (tt := tYes) rfl scOll.nd (pi_list (pe_slice sl_list (pv 0) (po_some (pe_callB call_len_seq (by rfl) ml PySem.boot_len (pa_cons (pv 1) pa_nil))) po_none)) (blkOk_by (N := ["chances", "moves", "weights", "later", "chance", "places", "place", "weight"]) (sc := defScope sOll) (by decide +kernel)) (fun _ _ _ _ _ => pg_name (i := 4) scOll.nd rfl (Or.inl rfl)) (fun _ _ _ _ _ => pts_nil)
          (fun _ _ _ _ _ => pe_op op_mulW (pv 4) (pe_callB (r := rSum K) (cr_sum rfl) (by rfl) ms (show bootBuiltins "sum" = some (.builtin "sum") by decide +kernel) (pa_cons (pv 2) pa_nil)))) pa_nil)))
      (pss_cons (ps_for PassesOwn.never rfl (pi_zip (by rfl) mz (pa_cons (pv 0) (pa_cons (pv 1) pa_nil)))
          (pg_tup rfl (pgs_cons (pg_name (i := 4) scOll.nd rfl (.inl rfl)) (pgs_cons (pg_name (i := 5) scOll.nd rfl (.inl rfl)) pgs_nil)))
        (pss_one (ps_for PassesOwn.never rfl (pi_zip (by rfl) mz (pa_cons (pv 5) (pa_cons (pv 2) pa_nil)))
            (pg_tup rfl (pgs_cons (pg_name (i := 6) scOll.nd rfl (.inl rfl)) (pgs_cons (pg_name (i := 7) scOll.nd rfl (.inl rfl)) pgs_nil)))
          (pss_one (ps_asg (pe_op op_add (pe_ix ix_list (pv 3) (pv 6) (fun _ _ => rfl)) (pe_op op_mulW (pv 4) (pv 7))) (pg_sub (pv 3) (pv 6) set_list))))))
      (pss_one (ps_ret (pv 3))))), ?_⟩
    have lrs : (rs.map V.ref).length = mv.length := by rw [List.length_map, hR.1, List.length_map]
    refine ⟨by show 1 ≤ sizeLine; decide, fun l nl => ⟨_, rfl, b, _, rfl, .inl ((same_upd nl).seq hB), l, _, _, rfl, rfl, upd_same, ?_, ?_, ?_, fun o no => ?_⟩⟩
    · rw [lrs]; omega
    · rw [lrs]; omega
    · rw [lrs]
      show 1 * ((mv.length : Nat) : Int).toNat ≤ sizeLine
      have := small1000 (n := 1 * ((mv.length : Nat) : Int).toNat) (by omega)
      omega
    have no0 : H o = none := (same_upd nl).free no
    have k0 : (((rs.map V.ref).length : Nat) : Int).toNat = mv.length := by rw [lrs]; omega
    rw [k0, flat_zero]
    have s2 := (same_upd (o := .lst [V.int 0]) nl).trans (same_upd (o := .lst ((List.replicate mv.length (0 : Int)).map V.int)) no)
    -- later.extend([..])
    refine ⟨_, rfl, .inl ⟨rfl, _, SqL.of upd_same⟩, _, rfl, _, rfl, b, _, rfl, .inl (s2.seq hB), _, rfl, a, _, rfl, s2.seq hA, fun t nt => ?_⟩
    rw [lrs, cut_tail _ _ (by rw [zvl]; exact hn), ← List.map_drop, zi_drop]
    have st := same_upd (o := .lst ((zi (ch.drop mv.length)).map V.int)) nt
    have ot : o ≠ t := fun z => by
      rw [← z, upd_same] at nt
      cases nt
    refine ⟨t, rfl, ⟨_, SqL.of upd_same⟩, fun D nD => ?_⟩
    have oD : o ≠ D := fun z => by
      rw [← z, upd_ne ot, upd_same] at nD
      cases nD
    have s3 := s2.trans st
    have eo3 := st o _ upd_same
    refine lc_list (K := K) (a := t) (xs := (zi (ch.drop mv.length)).map V.int) (fun n H4 => Same (upd (upd (upd H l (.lst [V.int 0])) o (.lst ((List.replicate mv.length (0 : Int)).map V.int))) t (.lst ((zi (ch.drop mv.length)).map V.int))) H4 ∧ H4 D = some (.lst ((zi (((ch.drop mv.length).map fun x => x * wt.sum).take n)).map V.int)))
      ⟨same_upd nD, upd_same⟩ (fun n H4 _ ⟨s4, _⟩ => s4.seq (SqL.of upd_same)) ?_ ?_
    · rintro n x H4 hx ⟨s4, eD⟩
      obtain ⟨z, gz, rfl⟩ := iv_at hx
      obtain ⟨m, gm, rfl⟩ := zi_get gz
      have hm : m ∈ ch := List.mem_of_mem_drop (List.mem_of_getElem? gm)
      have hnl : n < (ch.drop mv.length).length := (List.getElem?_eq_some_iff.mp gm).1
      rw [List.length_drop] at hnl
      refine ⟨rfl, lc_yes ?_⟩
      refine ⟨_, rfl, _, rfl, c, zi wt, rfl, s4.seq (s3.seq hC), _, _, rfl, rfl, ?_, _, eD, ?_, same_new s4 nD, ?_⟩
      · rw [zi_sum]
        exact sm_mul (sm_nat (bch m hm)) (sm_nat bsum)
      · rw [zvl, List.length_take]
        exact Nat.lt_of_le_of_lt (Nat.min_le_left _ _) (small1000 (by omega))
      · rw [upd_same, zi_sum, take_more (x := m * wt.sum), zi_app, List.map_append]
        · show some (HO.lst (_ ++ [V.int ((m : Int) * (wt.sum : Nat))])) = some (HO.lst (_ ++ [V.int ((m * wt.sum : Nat) : Int)]))
          rw [Int.natCast_mul]
        · rw [List.getElem?_map, gm]
          rfl
    · rintro H4 ⟨s4, eD⟩
      rw [zvl, List.take_of_length_le (by rw [List.length_map]; exact Nat.le_refl _)] at eD
      refine ⟨o, D, _, _, rfl, rfl, s4 _ _ eo3, eD, ?_, ?_⟩
      · rw [List.length_map, List.length_replicate, zvl, List.length_map, List.length_drop]
        have := small1000 (n := mv.length + (ch.length - mv.length)) (by omega)
        omega
      have e0 : (List.replicate mv.length (0 : Int)).map V.int ++ (zi ((ch.drop mv.length).map fun x => x * wt.sum)).map V.int = (zi (ouTo wt ch mv 0)).map V.int := by
        show _ = (zi (List.replicate mv.length 0 ++ (ch.drop mv.length).map _)).map V.int
        rw [zi_app, List.map_append]
        congr 2
        unfold zi
        rw [List.map_replicate]
        rfl
      rw [e0]
      have s5 := same_new (o := .lst ((zi (ouTo wt ch mv 0)).map V.int)) (s3.trans s4) no0
      -- for chance, places in zip(chances, moves)
      refine ⟨_, rfl, _, rfl, a, b, _, _, rfl, s5.seq hA, s5.seq hB, ?_⟩
      refine for_zipS (by rw [lrs, zvl]; exact hn) (fun i σ H3 => ∃ v4 v5 v6 v7, σ = [some (.ref a), some (.ref b), some (.ref c), some (.ref o), v4, v5, v6, v7] ∧ Same H H3 ∧ H3 o = some (.lst ((zi (ouTo wt ch mv i)).map V.int)))
        ⟨none, none, none, none, rfl, s5, upd_same⟩ (fun i σ H3 ⟨_, _, _, _, _, sm, _⟩ => ⟨sm.seq hA, sm.seq hB⟩) ?_ ?_
      · rintro i x y T σ H3 hx hy ⟨v4, v5, v6, v7, rfl, sm, eo⟩ nT
        obtain ⟨z, gz, rfl⟩ := iv_at hx
        obtain ⟨m, gm, rfl⟩ := zi_get gz
        obtain ⟨p, gp, rfl⟩ := ref_at hy
        have hm : m ∈ ch := List.mem_of_getElem? gm
        have sT := sm.trans (same_upd (o := .tup [.int (m : Nat), .ref p]) nT)
        have oT : o ≠ T := ne_of_none eo nT
        have eoT : (upd H3 T (.tup [.int (m : Nat), .ref p])) o = some (.lst ((zi (ouTo wt ch mv i)).map V.int)) := by
          rw [upd_ne oT]
          exact eo
        obtain ⟨v, gv, _⟩ := (hR.same sT).word gp
        have im : i < mv.length := (List.getElem?_eq_some_iff.mp gv).1
        have hvp : ∀ H5, Same H H5 → SqL K H5 p ((zi v).map V.int) := fun H5 s5 => by
          obtain ⟨v2, gv2, hv2⟩ := (hR.same s5).word gp
          have e := Option.some.inj (gv.symm.trans gv2)
          rw [e]
          exact hv2
        have ev : mv.getD i [] = v := getDN gv
        have em : ch.getD i 0 = m := getN gm
        have lv : v.length = wt.length := ev ▸ hlen i im
        have lo := ouTo_len (w := wt) (ch := ch) (mv := mv) hn i
        refine ⟨T, [_, _], rfl, .inl (.inl upd_same), rfl, _, [_], rfl, _, [], rfl, rfl, ?_⟩
        refine ⟨_, rfl, _, rfl, p, c, _, _, rfl, hvp _ sT, sT.seq hC, ?_⟩
        refine RZ.for_zipL (by rw [zvl, zvl, lv]) (fun j σ H4 => ∃ v6 v7, σ = [some (.ref a), some (.ref b), some (.ref c), some (.ref o), some (.int (m : Nat)), some (.ref p), v6, v7] ∧ Same H H4 ∧ H4 o = some (.lst ((zi (inTo m v wt (ouTo wt ch mv i) j)).map V.int)))
          ⟨_, _, rfl, sT, eoT⟩ (fun j σ H4 ⟨_, _, _, s4, _⟩ => ⟨hvp _ s4, s4.seq hC⟩) ?_ ?_
        · rintro j x y U σ H4 hx hy ⟨v6, v7, rfl, s4, e4⟩ nU
          obtain ⟨zx, gx, rfl⟩ := iv_at hx
          obtain ⟨pl, gpl, rfl⟩ := zi_get gx
          obtain ⟨zy, gy, rfl⟩ := iv_at hy
          obtain ⟨wx, gw, rfl⟩ := zi_get gy
          have oU : o ≠ U := ne_of_none e4 nU
          have sU := s4.trans (same_upd (o := .tup [.int (pl : Nat), .int (wx : Nat)]) nU)
          have e4U : (upd H4 U (.tup [.int (pl : Nat), .int (wx : Nat)])) o = some (.lst ((zi (inTo m v wt (ouTo wt ch mv i) j)).map V.int)) := by
            rw [upd_ne oU]
            exact e4
          have jw : j < wt.length := (List.getElem?_eq_some_iff.mp gw).1
          have plt : pl < ch.length := by
            have := hpl i j im jw
            rw [ev, getN gpl] at this
            exact this
          have li := inTo_len m v wt (ouTo wt ch mv i) j
          refine ⟨U, [_, _], rfl, .inl (.inl upd_same), rfl, _, [_], rfl, _, [], rfl, rfl, ?_⟩
          refine ⟨_, rfl, _, rfl, o, _, _, _, rfl, rfl, SqL.of e4U, atI_nat (zi_at (by omega)), _, rfl, _, rfl, _, _, rfl, rfl, sm_mul (sm_nat (bch m hm)) (sm_nat (bwt wx (List.mem_of_getElem? gw))), _, _, rfl, rfl, _, rfl, _, rfl, o, _, _, _, rfl, rfl, e4U, ixN_of (by rw [zvl]; omega), ?_⟩
          refine ⟨_, _, rfl, same_new sU no0, ?_⟩
          rw [upd_same, iv_set, ← Int.natCast_mul, ← Int.natCast_add, zi_set]
          show _ = some (HO.lst ((zi (addAt (inTo m v wt (ouTo wt ch mv i) j) (v.getD j 0) (m * wt.getD j 0))).map V.int))
          rw [getN gpl, getN gw]
          rfl
        · rintro σ H4 ⟨v6, v7, rfl, s4, e4⟩
          refine ⟨_, _, v6, v7, rfl, s4, ?_⟩
          rw [zvl, lv] at e4
          rw [e4]
          show _ = some (HO.lst ((zi (inTo (ch.getD i 0) (mv.getD i []) wt (ouTo wt ch mv i) wt.length)).map V.int))
          rw [ev, em]
      · rintro σ H3 ⟨v4, v5, v6, v7, rfl, sm, eo⟩
        rw [lrs] at eo
        exact ⟨_, rfl, q H3 o sm no0 eo⟩
/-! ### standing -/
theorem le_sum {l : List Nat} {x : Nat} (h : x ∈ l) : x ≤ l.sum := by
  induction l with
  | nil => cases h
  | cons y l ih =>
    rw [List.sum_cons]
    rcases List.mem_cons.mp h with h | h
    · omega
    · have := ih h
      omega
theorem all30 {g : Game} {ws : List (List Nat)} {u : List Nat} (h : Fit g ws u) : g.all ≤ 30 := by
  have e : ((g.all : Nat) : Rat) ≤ ((30 : Nat) : Rat) := h.t30
  exact Rat.natCast_le_natCast.mp e
theorem pow_small {g : Game} {ws : List (List Nat)} {u : List Nat} (h : Fit g ws u) {n : Nat} (hn : n ≤ 30) : g.all ^ n < 2 ^ 3000 := by
  have h1 : g.all ^ n ≤ 30 ^ n := Nat.pow_le_pow_left (all30 h) n
  have h2 : 30 ^ n ≤ 30 ^ 30 := Nat.pow_le_pow_right (by decide) hn
  have h3 : 30 ^ 30 < 2 ^ 3000 := by decide +kernel
  exact Nat.lt_of_le_of_lt h1 (Nat.lt_of_le_of_lt h2 h3)
theorem all_pos {g : Game} {ws : List (List Nat)} {u : List Nat} (h : Fit g ws u) : 0 < g.all := by
  have := Rw.tot_pos h.pos h.ne
  exact Rat.natCast_pos.mp this
/-- what is told, behind the first i words -/
def stdTo (n : Nat) (ch : List Nat) (i : Nat) : List Int := low (ch.take n).sum ch.sum ++ ((ch.drop n).take i).flatMap fun c => low c ch.sum
theorem stdTo_len (n : Nat) (ch : List Nat) (i : Nat) : (stdTo n ch i).length ≤ 2 + 2 * i := by
  unfold stdTo
  have key : ∀ l : List Nat, (l.flatMap fun c => low c ch.sum).length = 2 * l.length := by
    intro l
    induction l with
    | nil => rfl
    | cons x l ih =>
      rw [List.flatMap_cons, List.length_append, ih, List.length_cons]
      show 2 + _ = _
      omega
  rw [List.length_append, key, List.length_take]
  show 2 + _ ≤ _
  omega
theorem stdTo_succ {n : Nat} {ch : List Nat} {i c : Nat} (h : (ch.drop n)[i]? = some c) : stdTo n ch (i + 1) = stdTo n ch i ++ low c ch.sum := by
  unfold stdTo
  rw [take_more h, List.flatMap_append, ← List.append_assoc]
  simp
def spStand (K : PySem.W.Frag) : Sp := fun vs H Q _ => ∃ (a b : Addr) (ps : List Addr) (g : Game) (ws : List (List Nat)) (n : Nat), vs = [.ref a, .ref b, .int n] ∧ SqL K H a (ps.map V.ref) ∧ RowsAt K H ps (ws.map zi) ∧ SqL K H b ((zi g.weights).map V.int) ∧ Fit g ws [] ∧ n ≤ 30 ∧
  ∀ H' p, Same H H' → H p = none → H' p = some (.lst ((stdL g.weights ws n).map V.int)) → Q (.ref p) H'
theorem scStand : FnScope ["words", "weights", "count", "states", "moves", "chances", "drawn", "whole", "fractions", "chance"] ["words", "weights", "count"] (defScope sStand) := ⟨rfl, rfl, rfl, by decide +kernel, rfl, by decide +kernel, by decide +kernel⟩
theorem ok_stand {f fJ : Addr} {fd fdJ : FuncData} {k : Nat} (F : Fun K "standing" "standing" sStand f fd) (D : DR K mg) (FJ : Fun K "one_letter_later" "one_letter_later" sOll fJ fdJ) (bJ : Binds K fdJ ["chances", "moves", "weights"] []) (gJ : mg "one_letter_later" = some (.ref fJ)) :
    FnOk P w K mg base CX0 (k + 5) f fd ["words", "weights", "count"] (spStand K) := by
  obtain ⟨fE, fdE, FE, bE, gE⟩ := D.ends
  obtain ⟨fW, fdW, FW, bW, gW⟩ := D.wend
  obtain ⟨fG, fdG, FG, bG, gG⟩ := D.gcd
  obtain ⟨fL, fdL, FL, bL, gL⟩ := D.low
  obtain ⟨fO, fdO, FO, bO, gO⟩ := D.stOf
  obtain ⟨fA, fdA, FA, bA, gA⟩ := D.stAft
  obtain ⟨fP, fdP, FP, bP, gP⟩ := D.place
  obtain ⟨fM, fdM, FM, bM, gM⟩ := D.moves
  have GO : FnOk P w K mg base CX0 (k + 4) fO fdO ["words"] (spStOf K) := ok_stOf (k := k + 3) FO D.len D.range
  have GM : FnOk P w K mg base CX0 (k + 4) fM fdM ["states", "words", "letter_count"] (spMoves K) := ok_moves (k := k) FM FP bP gP FE bE gE FW bW gW FA bA gA D.len D.enum D.range
  have GJ : FnOk P w K mg base CX0 (k + 4) fJ fdJ ["chances", "moves", "weights"] (spOll K) := ok_oll (k := k + 3) FJ D.len D.zip D.sum
  have GL : FnOk P w K mg base CX0 (k + 4) fL fdL ["numerator", "denominator"] spLow := ok_low (k := k + 2) FL FG bG gG
  have ml := D.len
  have mr := D.range
  have ms := D.sum
  refine F.ok scStand (fun vs H Q E h => ?_) (fun cdv A outer s H vs Q E hr h => ?_)
  · obtain ⟨a, b, ps, g, ws, n, rfl, _⟩ := h
    rfl
  · obtain ⟨a, b, ps, g, ws, n, rfl, hA, hP, hB, fit, hn, q⟩ := h
    refine ⟨_, pss_cons (ps_set (i := 3) scStand.nd rfl (.inl rfl) (pe_call GO hr (by rfl) gO FO.kp bO .nil pass0 (pa_cons (pv 0) pa_nil)))
      (pss_cons (ps_set (i := 4) scStand.nd rfl (.inl rfl) (pe_call GM hr (by rfl) gM FM.kp bM .nil pass0 (pa_cons (pv 3) (pa_cons (pv 0) (pa_cons (pe_callB call_len_seq (by rfl) ml PySem.boot_len (pa_cons (pv 1) pa_nil)) pa_nil)))))
      (pss_cons (ps_set (i := 5) scStand.nd rfl (.inl rfl) (pe_op op_cat (pe_lst (pa_cons pe_int pa_nil)) (pe_op op_rep (pe_lst (pa_cons pe_int pa_nil)) (pe_op op_add (pe_op op_sub (pe_callB call_len_seq (by rfl) ml PySem.boot_len (pa_cons (pv 3) pa_nil)) pe_int) (pe_callB call_len_seq (by rfl) ml PySem.boot_len (pa_cons (pv 0) pa_nil))))))
      (pss_cons (ps_for PassesOwn.never rfl (pi_range1 rfl mr (pa_cons (pv 2) pa_nil)) (pg_name (i := 6) scStand.nd rfl (.inl rfl))
        (pss_one (ps_set (i := 5) scStand.nd rfl (.inl rfl) (pe_call GJ hr (by rfl) gJ FJ.kp bJ .nil pass0 (pa_cons (pv 5) (pa_cons (pv 4) (pa_cons (pv 1) pa_nil)))))))
      (pss_cons (ps_set (i := 7) scStand.nd rfl (.inl rfl) (pe_callB (cr_sum rfl) (by rfl) ms (by decide +kernel) (pa_cons (pv 5) pa_nil)))
      (pss_cons (ps_set (i := 8) scStand.nd rfl (.inl rfl) (pe_call GL hr (by rfl) gL FL.kp bL .nil pass0 (pa_cons (pe_callB (cr_sum rfl) (by rfl) ms (by decide +kernel) (pa_cons (pe_slice sl_list (pv 5) po_none (po_some (pe_callB call_len_seq (by rfl) ml PySem.boot_len (pa_cons (pv 3) pa_nil)))) pa_nil)) (pa_cons (pv 7) pa_nil))))
      (pss_cons (ps_for PassesOwn.never rfl (pi_list (pe_slice sl_list (pv 5) (po_some (pe_callB call_len_seq (by rfl) ml PySem.boot_len (pa_cons (pv 3) pa_nil))) po_none)) (pg_name (i := 9) scStand.nd rfl (.inl rfl))
        (pss_one (ps_expr (pe_bm PySem.F.plainAttrs_list PySem.F.slot_list_extend PySem.F.type_list_extend mt_extend (pv 8) (pa_cons (pe_call GL hr (by rfl) gL FL.kp bL .nil pass0 (pa_cons (pv 9) (pa_cons (pv 7) pa_nil))) pa_nil)))))
      (pss_one (ps_ret (pv 8))))))))), ?_⟩
    have T := states_stOf ws
    have np := stOf_pos ws
    have n4 := fit.n4
    have n50 := stOf_len ws 5 fit.w5
    have lps : (ps.map V.ref).length = ws.length := by rw [List.length_map, hP.1, List.length_map]
    have lW : ((zi g.weights).map V.int).length = g.weights.length := zvl _
    -- states
    refine ⟨_, rfl, a, ps, ws, rfl, hA, hP, by omega, fun w hw => by have := fit.w5 w hw; omega, fun H1 o qs s1 eo hQ => ?_⟩
    have lqs : (qs.map V.ref).length = (stOf ws).length := by rw [List.length_map, hQ.1, List.length_map]
    -- moves
    refine ⟨_, rfl, _, rfl, _, rfl, b, _, rfl, .inl (s1.seq hB), o, a, qs, ps, stOf ws, ws, g.weights.length, by rw [lW]; rfl, eo, hQ, s1.seq hA, hP.same s1, T.nil, fit.l10, by omega, fun v hv => ?_, fun H2 m rs s2 em hR => ?_⟩
    · rcases T.pre v hv with h | ⟨w, hw, hp, _⟩
      · rw [h]; exact Nat.zero_le _
      · have := hp.length_le
        have := fit.w5 w hw
        omega
    have s12 := s1.trans s2
    have eo2 := s2.seq eo
    -- chances
    refine ⟨by show 1 ≤ sizeLine; decide, fun l1 nl1 => ⟨by show 1 ≤ sizeLine; decide, fun l2 nl2 => ?_⟩⟩
    have u1 := same_upd (o := .lst [V.int 1]) nl1
    have u2 := same_upd (o := .lst [V.int 0]) nl2
    have u12 := u1.trans u2
    have ek : (((qs.map V.ref).length : Nat) : Int) - 1 + (((ps.map V.ref).length : Nat) : Int) = (((stOf ws).length - 1 + ws.length : Nat) : Int) := by rw [lqs, lps]; omega
    refine ⟨_, rfl, o, _, rfl, .inl (u12.seq eo2), _, _, rfl, rfl, _, rfl, a, _, rfl, .inl ((s12.trans u12).seq hA), _, _, rfl, rfl, l2, _, _, rfl, rfl, upd_same, ?_, ?_, ?_, fun l3 nl3 => ?_⟩
    · rw [ek]; omega
    · rw [ek]; omega
    · rw [ek]
      show 1 * (((stOf ws).length - 1 + ws.length : Nat) : Int).toNat ≤ sizeLine
      have := small1000 (n := 1 * (((stOf ws).length - 1 + ws.length : Nat) : Int).toNat) (by omega)
      omega
    rw [ek, Int.toNat_natCast, flat_zero]
    have u3 := same_upd (o := .lst ((List.replicate ((stOf ws).length - 1 + ws.length) (0 : Int)).map V.int)) nl3
    have u13 := u12.trans u3
    refine ⟨l1, l3, _, _, rfl, rfl, (u2.trans u3) _ _ upd_same, upd_same, ?_, fun c nc => ?_⟩
    · rw [List.length_map, List.length_replicate]
      have := small1000 (n := 1 + ((stOf ws).length - 1 + ws.length)) (by omega)
      show 1 + ((stOf ws).length - 1 + ws.length) ≤ sizeLine
      omega
    have ec : [V.int 1] ++ (List.replicate ((stOf ws).length - 1 + ws.length) (0 : Int)).map V.int = (zi (chTo g.weights (stOf ws) ws 0)).map V.int := by
      show _ = (zi (1 :: List.replicate ((stOf ws).length - 1 + ws.length) 0)).map V.int
      unfold zi
      rw [List.map_cons, List.map_cons, List.map_replicate, List.map_replicate, List.map_replicate]
      rfl
    rw [ec]
    have s3 := s12.trans (u13.trans (same_upd (o := .lst ((zi (chTo g.weights (stOf ws) ws 0)).map V.int)) nc))
    have hRS : ∀ H5, Same H2 H5 → SqL K H5 o (qs.map V.ref) ∧ SqL K H5 m (rs.map V.ref) ∧ TrAt H5 rs ((mvsOf (stOf ws) ws g.weights.length).map zi) := fun H5 s5 => ⟨s5.seq eo2, SqL.of (s5 _ _ em), hR.same s5⟩
    have s2c := u13.trans (same_upd (o := .lst ((zi (chTo g.weights (stOf ws) ws 0)).map V.int)) nc)
    have lmv := mvs_len (stOf ws) ws g.weights.length
    -- for drawn in range(count)
    refine ⟨_, rfl, n, rfl, by omega, by omega, ?_⟩
    rw [Int.toNat_natCast]
    refine for_range (lo := 0) (n := n) (fun i σ H3 => ∃ (c : Addr) (v6 : Option V), σ = [some (.ref a), some (.ref b), some (.int n), some (.ref o), some (.ref m), some (.ref c), v6, none, none, none] ∧ Same H2 H3 ∧ H3 c = some (.lst ((zi (chTo g.weights (stOf ws) ws i)).map V.int)))
      ⟨c, none, rfl, s2c, upd_same⟩ ?_ ?_
    · rintro i σ H3 hi ⟨c, v6, rfl, sm, e3⟩
      have cl := chTo_len (w := g.weights) (ws := ws) np i
      have cs := chTo_sum (g := g) (ws := ws) i
      obtain ⟨h1, h2, h3⟩ := hRS H3 sm
      refine ⟨_, rfl, _, rfl, _, rfl, c, m, b, rs, chTo g.weights (stOf ws) ws i, g.weights, mvsOf (stOf ws) ws g.weights.length, rfl, SqL.of e3, h2, h3.rows, (s12.trans sm).seq hB, by omega, by omega, fun s hs => ?_, fun s j hs hj => ?_, fun x hx => ?_, fun x hx => ?_, ?_, fun H4 p s4 nq ep => ?_⟩
      · rw [lmv] at hs
        unfold mvsOf
        rw [List.getD_eq_getElem?_getD, List.getElem?_map, List.getElem?_eq_getElem hs]
        show (mvOf _ _ _ _).length = _
        unfold mvOf
        rw [List.length_map, List.length_range]
      · rw [cl]
        exact mv_lt T _ s j hs hj
      · have := le_sum hx
        rw [cs] at this
        exact Nat.lt_of_le_of_lt this (pow_small fit (by omega))
      · have h4 := le_sum hx
        rw [← all_sum] at h4
        exact Nat.lt_of_le_of_lt h4 (Nat.lt_of_le_of_lt (all30 fit) (by decide +kernel))
      · rw [← all_sum]
        exact Nat.lt_of_le_of_lt (all30 fit) (by decide +kernel)
      · rw [lmv] at ep
        exact ⟨p, _, rfl, sm.trans s4, ep⟩
    · rintro σ H3 ⟨c, v6, rfl, sm, e3⟩
      have cl := chTo_len (w := g.weights) (ws := ws) np n
      have cs := chTo_sum (g := g) (ws := ws) n
      generalize hch : chTo g.weights (stOf ws) ws n = ch at *
      have pos : 0 < ch.sum := by rw [cs]; exact Nat.pow_pos (all_pos fit)
      have small : ch.sum < 2 ^ 8000 := by
        rw [cs]
        exact Nat.lt_trans (pow_small fit hn) (Nat.pow_lt_pow_right (by decide) (by decide))
      obtain ⟨h1, h2, h3⟩ := hRS H3 sm
      -- whole = sum(chances)
      refine ⟨_, rfl, c, zi ch, rfl, SqL.of e3, ?_⟩
      rw [zi_sum]
      -- fractions = lowest_terms(sum(chances[:len(states)]), whole)
      refine ⟨_, rfl, _, rfl, o, _, rfl, .inl h1, _, rfl, c, _, rfl, SqL.of e3, fun t nt => ?_⟩
      rw [lqs, cut_head _ _ (by rw [zvl, cl]; omega), ← List.map_take, zi_take]
      have st := same_upd (o := .lst ((zi (ch.take (stOf ws).length)).map V.int)) nt
      refine ⟨t, zi (ch.take (stOf ws).length), rfl, SqL.of upd_same, ?_⟩
      rw [zi_sum]
      refine ⟨_, rfl, (ch.take (stOf ws).length).sum, ch.sum, rfl, pos, small, fun p npt => ?_⟩
      have np3 : H3 p = none := st.free npt
      have ep0 : (HO.lst [V.int (((ch.take (stOf ws).length).sum / Nat.gcd (ch.take (stOf ws).length).sum ch.sum : Nat)), V.int ((ch.sum / Nat.gcd (ch.take (stOf ws).length).sum ch.sum : Nat))]) = .lst ((stdTo (stOf ws).length ch 0).map V.int) := rfl
      rw [ep0]
      have sp := same_upd (o := .lst ((stdTo (stOf ws).length ch 0).map V.int)) npt
      have s5 := st.trans sp
      -- for chance in chances[len(states):]
      refine ⟨_, rfl, _, rfl, o, _, rfl, .inl (s5.seq h1), _, rfl, c, _, rfl, SqL.of (s5 _ _ e3), fun d nd => ?_⟩
      rw [lqs, cut_tail _ _ (by rw [zvl, cl]; omega), ← List.map_drop, zi_drop]
      have sd := same_upd (o := .lst ((zi (ch.drop (stOf ws).length)).map V.int)) nd
      have pd : p ≠ d := fun z => by
        rw [← z, upd_same] at nd
        cases nd
      have np0 : H p = none := (s12.trans sm).free np3
      refine ⟨d, rfl, ⟨_, SqL.of upd_same⟩, for_list (K := K) (a := d) (xs := (zi (ch.drop (stOf ws).length)).map V.int) (fun i σ H6 => ∃ v6 v9, σ = [some (.ref a), some (.ref b), some (.int n), some (.ref o), some (.ref m), some (.ref c), v6, some (.int (ch.sum : Nat)), some (.ref p), v9] ∧ Same H3 H6 ∧ H6 d = some (.lst ((zi (ch.drop (stOf ws).length)).map V.int)) ∧ H6 p = some (.lst ((stdTo (stOf ws).length ch i).map V.int)))
        ⟨_, _, rfl, s5.trans sd, upd_same, sd _ _ upd_same⟩ (fun i σ H6 _ ⟨_, _, _, _, e, _⟩ => SqL.of e) ?_ ?_⟩
      · rintro i x σ H6 hx ⟨v6, v9, rfl, s6, h6d, h6p⟩
        obtain ⟨z, gz, rfl⟩ := iv_at hx
        obtain ⟨y, gy, rfl⟩ := zi_get gz
        have il : i < ws.length := by
          have := (List.getElem?_eq_some_iff.mp gy).1
          rw [List.length_drop, cl] at this
          omega
        refine ⟨_, rfl, .inl ⟨rfl, _, SqL.of h6p⟩, _, rfl, _, rfl, y, ch.sum, rfl, pos, small, fun r nr => ?_⟩
        have sr := same_upd (o := .lst ((low y ch.sum).map V.int)) nr
        have pr : p ≠ r := ne_of_none h6p nr
        refine ⟨p, r, _, (low y ch.sum).map V.int, rfl, rfl, sr _ _ h6p, upd_same, ?_, ?_⟩
        · rw [List.length_map]
          have h7 := stdTo_len (stOf ws).length ch i
          have := small1000 (n := (stdTo (stOf ws).length ch i).length + 2) (by omega)
          show _ + 2 ≤ sizeLine
          omega
        · refine ⟨_, _, rfl, same_new (s6.trans sr) np3, ?_, ?_⟩
          · rw [upd_ne (Ne.symm pd)]
            exact sr _ _ h6d
          · rw [upd_same, stdTo_succ gy, List.map_append]
      · rintro σ H6 ⟨v6, v9, rfl, s6, h6d, h6p⟩
        refine ⟨_, rfl, q H6 p (s12.trans (sm.trans s6)) np0 ?_⟩
        rw [h6p, zvl]
        unfold stdTo stdL
        rw [List.take_length, hch]
end
end Rt
/-! ### letters.py: words_of_length, first_occurrence -/
namespace Rt
open PySem PySem.Spec PyProof.Rows L2
abbrev sWol : Stmt := top 10
abbrev sFocc : Stmt := top 14
/-- all words, letter by letter -/
def wl (a : Nat) : Nat → List (List Nat)
  | 0 => [[]]
  | n + 1 => (wl a n).flatMap fun w => (List.range a).map fun x => w ++ [x]
theorem wordsOf_snoc (a : Nat) : ∀ n, Uw53.wordsOf a (n + 1) = (Uw53.wordsOf a n).flatMap fun w => (List.range a).map fun x => w ++ [x]
  | 0 => by
    show ((List.range a).flatMap fun x => [[x]]) = [[]].flatMap fun w => (List.range a).map fun x => w ++ [x]
    rw [List.flatMap_cons, List.flatMap_nil, List.append_nil]
    induction List.range a with
    | nil => rfl
    | cons x l ih => rw [List.flatMap_cons, List.map_cons, ih]; rfl
  | n + 1 => by
    have ih := wordsOf_snoc a n
    show ((List.range a).flatMap fun x => (Uw53.wordsOf a (n + 1)).map fun w => x :: w) = ((List.range a).flatMap fun x => (Uw53.wordsOf a n).map fun w => x :: w).flatMap _
    rw [List.flatMap_assoc]
    congr 1
    funext x
    rw [ih, List.map_flatMap, List.flatMap_map]
    congr 1
    funext w
    rw [List.map_map]
    rfl
theorem wl_eq (a : Nat) : ∀ n, wl a n = Uw53.wordsOf a n
  | 0 => rfl
  | n + 1 => by
    rw [wordsOf_snoc, ← wl_eq a n]
    rfl
theorem wl_len (a : Nat) : ∀ n, (wl a n).length = a ^ n
  | 0 => rfl
  | n + 1 => by
    show ((wl a n).flatMap _).length = _
    rw [List.length_flatMap, Nat.pow_succ, ← wl_len a n]
    have : ((wl a n).map fun w => ((List.range a).map fun x => w ++ [x]).length) = (wl a n).map fun _ => a := List.map_congr_left fun w _ => by rw [List.length_map, List.length_range]
    rw [this, List.map_const', List.sum_replicate_nat]
theorem wl_word (a : Nat) : ∀ n, ∀ w, w ∈ wl a n → w.length = n ∧ ∀ x, x ∈ w → x < a
  | 0, w, h => by
    rw [List.mem_singleton.mp h]
    exact ⟨rfl, fun x hx => absurd hx List.not_mem_nil⟩
  | n + 1, w, h => by
    obtain ⟨v, hv, hw⟩ := List.mem_flatMap.mp h
    obtain ⟨x, hx, rfl⟩ := List.mem_map.mp hw
    obtain ⟨h1, h2⟩ := wl_word a n v hv
    refine ⟨by rw [List.length_append, h1]; rfl, fun y hy => ?_⟩
    rcases List.mem_append.mp hy with hy | hy
    · exact h2 y hy
    · rw [List.mem_singleton.mp hy]
      exact List.mem_range.mp hx
theorem TrAt.append {H : Hp} {ps qs : List Addr} {rows rows2 : List (List Int)} (h : TrAt H ps rows) (h2 : TrAt H qs rows2) : TrAt H (ps ++ qs) (rows ++ rows2) := by
  refine ⟨by rw [List.length_append, List.length_append, h.1, h2.1], fun i p r e1 e2 => ?_⟩
  by_cases c : i < ps.length
  · rw [List.getElem?_append_left c] at e1
    rw [List.getElem?_append_left (by rw [← h.1]; exact c)] at e2
    exact h.2 i p r e1 e2
  · rw [List.getElem?_append_right (by omega)] at e1
    rw [List.getElem?_append_right (by rw [← h.1]; omega), ← h.1] at e2
    exact h2.2 _ p r e1 e2
theorem pow_le {a n : Nat} (ha : a ≤ 3) (hn : n ≤ 5) : a ^ n ≤ 243 := Nat.le_trans (Nat.pow_le_pow_left ha n) (Nat.le_trans (Nat.pow_le_pow_right (by decide) hn) (by decide))
section
variable {P : Program} {w : World} {K : PySem.W.Frag} {mg : Str → Option Value} {base : Heap}
def spWol : Sp := fun vs H Q _ => ∃ (n a : Nat), vs = [.int n, .int a] ∧ n ≤ 5 ∧ a ≤ 3 ∧
  ∀ H' o qs, Same H H' → H' o = some (.lst (qs.map V.ref)) → TrAt H' qs ((Uw53.wordsOf a n).map zi) → Q (.ref o) H'
theorem scWol : FnScope ["length", "letter_count", "words", "place", "longer", "word", "letter"] ["length", "letter_count"] (defScope sWol) := ⟨rfl, rfl, rfl, by decide +kernel, rfl, by decide +kernel, by decide +kernel⟩
theorem ok_wol {f : Addr} {fd : FuncData} {k : Nat} (F : Fun K "words_of_length" "words_of_length" sWol f fd) (mr : mg "range" = none) : FnOk P w K mg base CX0 (k + 1) f fd ["length", "letter_count"] spWol := by
  refine F.ok scWol (fun vs H Q E h => ?_) (fun cdv A outer s H vs Q E hr h => ?_)
  · obtain ⟨n, a, rfl, _⟩ := h
    rfl
  · obtain ⟨n, a, rfl, hn, ha, q⟩ := h
    refine ⟨_, pss_cons (ps_set (i := 2) scWol.nd rfl (.inl rfl) (pe_lst (pa_cons (pe_lst pa_nil) pa_nil)))
      (pss_cons (ps_for PassesOwn.never rfl (pi_range1 rfl mr (pa_cons (pv 0) pa_nil)) (pg_name (i := 3) scWol.nd rfl (.inl rfl))
        (pss_cons (ps_set (i := 4) scWol.nd rfl (.inl rfl) (pe_lst pa_nil))
        (pss_cons (ps_for PassesOwn.never rfl (pi_list (pv 2)) (pg_name (i := 5) scWol.nd rfl (.inr rfl))
          (pss_one (ps_expr (pe_bm PySem.F.plainAttrs_list PySem.F.slot_list_extend PySem.F.type_list_extend mt_extend (pv 4) (pa_cons (pe_lc (own := [("letter", 6)]) (g := gName 6) (tt := tYes) rfl scWol.nd (pi_range1 rfl mr (pa_cons (pv 1) pa_nil)) (blkOk_by (N := ["length", "letter_count", "words", "place", "longer", "word", "letter"]) (sc := defScope sWol) (by decide +kernel)) (fun _ _ _ _ _ => pg_name (i := 6) scWol.nd rfl (Or.inl rfl)) (fun _ _ _ _ _ => pts_nil)
            (fun _ _ _ _ _ => pe_op op_cat (pv 5) (pe_lst (pa_cons (pv 6) pa_nil)))) pa_nil)))))
        (pss_one (ps_set (i := 2) scWol.nd rfl (.inl rfl) (pv 4))))))
      (pss_one (ps_ret (pv 2)))), ?_⟩
    refine ⟨Nat.zero_le _, fun e ne => ⟨(by show 1 ≤ sizeLine; decide), fun o no => ?_⟩⟩
    have eo : o ≠ e := fun z => by
      rw [z, upd_same] at no
      cases no
    have s0 := (same_upd (o := .lst []) ne).trans (same_upd (o := .lst [V.ref e]) no)
    refine ⟨_, rfl, n, rfl, by omega, by omega, ?_⟩
    rw [Int.toNat_natCast]
    refine for_range (lo := 0) (n := n) (fun i σ H3 => ∃ (o : Addr) (v3 v4 v5 : Option V), σ = [some (.int n), some (.int a), some (.ref o), v3, v4, v5, none] ∧ ∃ qs : List Addr, Same H H3 ∧ H3 o = some (.lst (qs.map V.ref)) ∧ TrAt H3 qs ((wl a i).map zi))
      ⟨o, none, none, none, rfl, [e], s0, upd_same, rfl, fun i p r h1 h2 => ?_⟩ ?_ ?_
    · cases i with
      | zero =>
        have e1 : e = p := Option.some.inj h1
        have e2 : ([] : List Int) = r := Option.some.inj h2
        subst e1 e2
        rw [upd_ne (Ne.symm eo), upd_same]; rfl
      | succ i => cases h1
    · rintro i σ H3 hi ⟨o, v3, v4, v5, rfl, qs, sm, h3, hQ⟩
      refine ⟨Nat.zero_le _, fun l nl => ?_⟩
      have sl := same_upd (o := .lst []) nl
      have lq : qs.length = (wl a i).length := by have := hQ.1; rw [List.length_map] at this; exact this
      have bnd : (wl a i).length ≤ 243 := by rw [wl_len]; exact pow_le ha (by omega)
      refine ⟨_, rfl, o, rfl, ⟨_, SqL.of (sl _ _ h3)⟩, for_list (K := K) (a := o) (xs := qs.map V.ref) (fun j σ H4 => ∃ (v5 : Option V), σ = [some (.int n), some (.int a), some (.ref o), some (.int (0 + (i : Nat))), some (.ref l), v5, none] ∧ ∃ rs : List Addr, l ∉ rs ∧ Same H3 H4 ∧ H4 l = some (.lst (rs.map V.ref)) ∧ TrAt H4 rs ((((wl a i).take j).flatMap fun w => (List.range a).map fun x => w ++ [x]).map zi))
        ⟨_, rfl, [], List.not_mem_nil, sl, upd_same, rfl, fun i p r h => by cases h⟩ (fun j σ H4 _ ⟨_, _, _, _, s4, _⟩ => SqL.of (s4 _ _ h3)) ?_ ?_⟩
      · rintro j x σ H4 hx ⟨v5, rfl, rs, nrs, s4, h4, hR⟩
        obtain ⟨p, gp, rfl⟩ := ref_at hx
        obtain ⟨v, gv, hv⟩ := (hQ.same s4).word gp
        have lv := (wl_word a i v (List.mem_of_getElem? gv)).1
        have jl : j < (wl a i).length := (List.getElem?_eq_some_iff.mp gv).1
        refine ⟨_, rfl, .inl ⟨rfl, _, SqL.of h4⟩, _, rfl, a, rfl, by omega, by omega, fun D nD => ?_⟩
        rw [Int.toNat_natCast]
        have lD : l ≠ D := ne_of_none h4 nD
        refine lc_range (lo := 0) (n := a) (fun m H5 => ∃ zs : List Addr, D ∉ zs ∧ (∀ z, z ∈ zs → H4 z = none) ∧ Same H4 H5 ∧ H5 D = some (.lst (zs.map V.ref)) ∧ TrAt H5 zs ((((List.range a).map fun x => v ++ [x]).take m).map zi))
          ⟨[], List.not_mem_nil, fun z h => absurd h List.not_mem_nil, same_upd nD, upd_same, rfl, fun i p r h => by cases h⟩ ?_ ?_
        · rintro m H5 hm ⟨zs, nz, fz, s5, h5, hZ⟩
          refine ⟨rfl, lc_yes ?_⟩
          refine ⟨_, rfl, _, rfl, by show 1 ≤ sizeLine; decide, fun t nt => ?_⟩
          have st := same_upd (o := .lst [V.int (0 + (m : Nat))]) nt
          refine ⟨p, t, _, _, rfl, rfl, st _ _ (s5 _ _ hv), upd_same, ?_, fun c nc => ?_⟩
          · rw [zvl]
            have := small1000 (n := v.length + 1) (by omega)
            show v.length + 1 ≤ sizeLine
            omega
          have ey : (zi v).map V.int ++ [V.int (0 + (m : Nat))] = (zi (v ++ [m])).map V.int := by
            unfold zi
            rw [List.map_append, List.map_append, Int.zero_add]
            rfl
          rw [ey]
          have sc := same_upd (o := .lst ((zi (v ++ [m])).map V.int)) nc
          have s6 := s5.trans (st.trans sc)
          have cD : D ≠ c := ne_of_none (st _ _ h5) nc
          have zl : zs.length ≤ m := by
            have := hZ.1
            rw [List.length_map, List.length_take] at this
            omega
          refine ⟨zs.map V.ref, (st.trans sc) _ _ h5, by rw [List.length_map]; exact small1000 (by omega), zs ++ [c], ?_, ?_, same_new s6 nD, ?_, ?_⟩
          · intro h
            rcases List.mem_append.mp h with h | h
            · exact nz h
            · exact cD (List.mem_singleton.mp h)
          · intro z hz
            rcases List.mem_append.mp hz with h | h
            · exact fz z h
            · rw [List.mem_singleton.mp h]
              exact (s5.trans st).free nc
          · rw [upd_same, List.map_append]
            rfl
          · rw [take_more (x := v ++ [m]) (by rw [List.getElem?_map, List.getElem?_range hm]; rfl), List.map_append]
            exact ((hZ.same (st.trans sc)).upd nz).snoc (by rw [upd_ne (Ne.symm cD), upd_same])
        · rintro H5 ⟨zs, nz, fz, s5, h5, hZ⟩
          rw [List.take_of_length_le (by rw [List.length_map, List.length_range]; exact Nat.le_refl _)] at hZ
          have lz : zs.length = a := by
            have := hZ.1
            rw [List.length_map, List.length_map, List.length_range] at this
            exact this
          have lr : rs.length = j * a := by
            have := hR.1
            rw [List.length_map, List.length_flatMap] at this
            have e : (((wl a i).take j).map fun w => ((List.range a).map fun x => w ++ [x]).length) = ((wl a i).take j).map fun _ => a := List.map_congr_left fun w _ => by rw [List.length_map, List.length_range]
            rw [e, List.map_const', List.sum_replicate_nat, List.length_take, Nat.min_eq_left (by omega)] at this
            exact this
          have big : j * a ≤ 729 := Nat.le_trans (Nat.mul_le_mul (show j ≤ 243 by omega) ha) (by decide)
          refine ⟨l, D, _, _, rfl, rfl, s5 _ _ h4, h5, ?_, ?_⟩
          · rw [List.length_map, List.length_map, lr, lz]
            have := small1000 (n := j * a + a) (by omega)
            omega
          · refine ⟨_, rfl, rs ++ zs, ?_, same_new (s4.trans s5) nl, ?_, ?_⟩
            · intro h
              rcases List.mem_append.mp h with h | h
              · exact nrs h
              · have := fz l h
                rw [h4] at this
                cases this
            · rw [upd_same, List.map_append]
            · rw [take_more gv, List.flatMap_append, List.map_append]
              refine ((hR.same s5).upd nrs).append (TrAt.upd ?_ ?_)
              · rw [List.flatMap_cons, List.flatMap_nil, List.append_nil]
                exact hZ
              · intro h
                have := fz l h
                rw [h4] at this
                cases this
      · rintro σ H4 ⟨v5, rfl, rs, nrs, s4, h4, hR⟩
        rw [List.length_map, lq, List.take_length] at hR
        exact ⟨_, rfl, l, _, _, _, rfl, rs, sm.trans s4, h4, hR⟩
    · rintro σ H3 ⟨o, v3, v4, v5, rfl, qs, sm, h3, hQ⟩
      rw [wl_eq] at hQ
      exact ⟨_, rfl, q H3 o qs sm h3 hQ⟩
/-! ### first_occurrence -/
theorem came_none {ws : List (List Nat)} {u : List Nat} (h : ∀ k, k ≤ u.length → Uw53.ended ws (u.take k) = none) : Uw53.came ws u = none := by
  unfold Uw53.came
  refine List.findSome?_eq_none_iff.mpr fun k hk => ?_
  rw [h k (by have := List.mem_range.mp hk; omega)]
  rfl
theorem came_some {ws : List (List Nat)} {u : List Nat} {k i : Nat} (hk : k ≤ u.length) (h1 : Uw53.ended ws (u.take k) = some i) (h : ∀ j, j < k → Uw53.ended ws (u.take j) = none) : Uw53.came ws u = some (i, k) := by
  unfold Uw53.came
  refine List.findSome?_eq_some_iff.mpr ⟨List.range k, k, (List.range (u.length + 1)).drop (k + 1), ?_, by rw [h1]; rfl, fun j hj => by rw [h j (List.mem_range.mp hj)]; rfl⟩
  have e := (List.take_append_drop k (List.range (u.length + 1))).symm
  rw [List.take_range, Nat.min_eq_left (by omega), List.drop_eq_getElem_cons (by rw [List.length_range]; omega), List.getElem_range] at e
  exact e
def spFocc (K : PySem.W.Frag) : Sp := fun vs H Q _ => ∃ (a b : Addr) (ps : List Addr) (ws : List (List Nat)) (u : List Nat), vs = [.ref a, .ref b] ∧ SqL K H a (ps.map V.ref) ∧ RowsAt K H ps (ws.map zi) ∧ SqL K H b ((zi u).map V.int) ∧ (∀ w, w ∈ ws → w ≠ []) ∧ u.length ≤ 1000 ∧
  (Uw53.came ws u = none → ∀ H', Same H H' → Q .non H') ∧ ∀ i k, Uw53.came ws u = some (i, k) → ∀ H' p, Same H H' → H p = none → H' p = some (.tup [.int (i : Nat), .int (k : Nat)]) → Q (.ref p) H'
theorem scFocc : FnScope ["words", "sequence", "count", "number"] ["words", "sequence"] (defScope sFocc) := ⟨rfl, rfl, rfl, by decide +kernel, rfl, by decide +kernel, by decide +kernel⟩
theorem ok_focc {f fE fW : Addr} {fd fdE fdW : FuncData} {k : Nat} (F : Fun K "first_occurrence" "first_occurrence" sFocc f fd) (FE : Fun K "ends_with" "ends_with" sEnds fE fdE) (bE : Binds K fdE ["sequence", "part"] []) (gE : mg "ends_with" = some (.ref fE))
    (FW : Fun K "word_at_end" "word_at_end" sWend fW fdW) (bW : Binds K fdW ["words", "sequence"] []) (gW : mg "word_at_end" = some (.ref fW)) (ml : mg "len" = none) (me : mg "enumerate" = none) (mr : mg "range" = none) :
    FnOk P w K mg base CX0 (k + 3) f fd ["words", "sequence"] (spFocc K) := by
  have GW : FnOk P w K mg base CX0 (k + 2) fW fdW ["words", "sequence"] (spWend K) := ok_wend FW FE bE gE ml me
  refine F.ok scFocc (fun vs H Q E h => ?_) (fun cdv A outer s H vs Q E hr h => ?_)
  · obtain ⟨a, b, ps, ws, u, rfl, _⟩ := h
    rfl
  · obtain ⟨a, b, ps, ws, u, rfl, hA, hP, hB, wne, lu, q1, q2⟩ := h
    refine ⟨_, pss_cons (ps_for PassesOwn.never rfl (pi_range2 (by rfl) mr (pa_cons pe_int (pa_cons (pe_op op_add (pe_callB call_len_seq (by rfl) ml PySem.boot_len (pa_cons (pv 1) pa_nil)) pe_int) pa_nil)))
        (pg_name (i := 2) scFocc.nd rfl (.inl rfl))
        (pss_cons (ps_set (i := 3) scFocc.nd rfl (.inl rfl) (pe_call GW hr (by rfl) gW FW.kp bW .nil pass0 (pa_cons (pv 0) (pa_cons (pe_slice sl_list (pv 1) po_none (po_some (pv 2))) pa_nil))))
        (pss_one (ps_if (pt_cmpR op_notN (pv 3) pe_non (nomark _)) (pss_one (ps_ret (pe_tup (pa_cons (pv 3) (pa_cons (pv 2) pa_nil))))) pss_nil))))
      (pss_one (ps_ret pe_non)), ?_⟩
    have lb : ((zi u).map V.int).length = u.length := zvl u
    refine ⟨_, rfl, b, _, rfl, .inl hB, _, _, rfl, rfl, 1, _, rfl, ⟨by omega, by omega, by rw [lb]; omega, by rw [lb]; omega⟩, ?_⟩
    have en : ((((zi u).map V.int).length : Int) + 1 - 1).toNat = u.length := by rw [lb]; omega
    rw [en]
    refine for_range (lo := 1) (n := u.length) (fun i σ H3 => ∃ (v2 v3 : Option V), σ = [some (.ref a), some (.ref b), v2, v3] ∧ Same H H3 ∧ ∀ j, j < i + 1 → Uw53.ended ws (u.take j) = none)
      ⟨none, none, rfl, Same.refl H, fun j hj => ?_⟩ ?_ ?_
    · have : j = 0 := by omega
      rw [this, List.take_zero]
      exact Rw.ended_none.mpr fun i hi h => wne _ (Rw.W_mem hi) (List.suffix_nil.mp h)
    · rintro i σ H3 hi ⟨v2, v3, rfl, sm, no⟩
      have ej : (1 : Int) + (i : Nat) = ((i + 1 : Nat) : Int) := by omega
      rw [ej]
      refine ⟨_, rfl, _, rfl, _, rfl, _, rfl, b, _, rfl, sm.seq hB, fun c nc => ?_⟩
      rw [cut_head _ _ (by rw [lb]; omega), ← List.map_take, zi_take]
      have sc := same_upd (o := .lst ((zi (u.take (i + 1))).map V.int)) nc
      have s2 := sm.trans sc
      refine ⟨a, c, ps, ws, u.take (i + 1), rfl, s2.seq hA, hP.same s2, SqL.of upd_same, fun H4 s4 => ?_⟩
      have s5 := s2.trans s4
      cases hw : Uw53.ended ws (u.take (i + 1)) with
      | none =>
        refine ⟨_, rfl, rfl, _, rfl, ifF (by rfl) ⟨_, _, rfl, s5, fun j hj => ?_⟩⟩
        by_cases c : j < i + 1
        · exact no j c
        · have : j = i + 1 := by omega
          rw [this]
          exact hw
      | some x =>
        refine ⟨_, rfl, rfl, _, rfl, ifT (by rfl) ⟨_, rfl, _, rfl, by show 2 ≤ sizeLine; decide, fun t nt => ?_⟩⟩
        exact q2 x (i + 1) (came_some (by omega) hw no) _ t (s5.trans (same_upd nt)) (s5.free nt) upd_same
    · rintro σ H3 ⟨v2, v3, rfl, sm, no⟩
      exact q1 (came_none fun k hk => no k (by omega)) H3 sm
end
end Rt
/-! ### duel.py: chance_against, is_greater, best_reply -/
namespace Rt
open PySem PySem.Spec PyProof.Rows L2
open Rw (lp W low)
open Uw53 (Game Q)
abbrev sCha : Stmt := top 34
abbrev sGr : Stmt := top 35
abbrev sRep : Stmt := top 36
theorem cut24 {xs : List V} (h : 4 ≤ xs.length) : cutV xs (some 2) (some 4) = (xs.drop 2).take 2 := by
  unfold cutV
  have e2 : HT.sIx xs.length 0 (some (2 : Int)) = 2 := by
    rw [show (2 : Int) = ((2 : Nat) : Int) from rfl, HT.sIx_nat, Nat.min_eq_left (by omega)]
  have e4 : HT.sIx xs.length xs.length (some (4 : Int)) = 4 := by
    rw [show (4 : Int) = ((4 : Nat) : Int) from rfl, HT.sIx_nat, Nat.min_eq_left (by omega)]
  rw [e2, e4]
theorem outc_len (g : Game) (ws : List (List Nat)) (u : List Nat) : (outc g ws u).length = 2 + 2 * ws.length := outTo_len _ _ _ ws.length
section
variable {P : Program} {w : World} {K : PySem.W.Frag} {mg : Str → Option Value} {base : Heap}
def spCha (K : PySem.W.Frag) : Sp := fun vs H Q _ => ∃ (a b c : Addr) (g : Game) (v w : List Nat), vs = [.ref a, .ref b, .ref c] ∧ SqL K H a ((zi v).map V.int) ∧ SqL K H b ((zi w).map V.int) ∧ SqL K H c ((zi g.weights).map V.int) ∧ Rw.Sound g ∧ g.fine v = true ∧ g.fine w = true ∧ v.length = w.length ∧ v ≠ w ∧
  ∀ H' p, Same H H' → H p = none → H' p = some (.lst ((g.ahead v w).told.map V.int)) → Q (.ref p) H'
theorem scCha : FnScope ["word", "other", "weights"] ["word", "other", "weights"] (defScope sCha) := ⟨rfl, rfl, rfl, by decide +kernel, rfl, by decide +kernel, by decide +kernel⟩
theorem ok_cha {f : Addr} {fd : FuncData} {k : Nat} (F : Fun K "chance_against" "chance_against" sCha f fd) (D : DR K mg) : FnOk P w K mg base CX0 (k + 6) f fd ["word", "other", "weights"] (spCha K) := by
  obtain ⟨fO, fdO, FO, bO, gO⟩ := D.outc
  have GO : FnOk P w K mg base CX0 (k + 5) fO fdO ["words", "weights", "drawn"] (spOutc K) := ok_outc FO D
  refine F.ok scCha (fun vs H Q E h => ?_) (fun cdv A outer s H vs Q E hr h => ?_)
  · obtain ⟨a, b, c, g, v, w, rfl, _⟩ := h
    rfl
  · obtain ⟨a, b, c, g, v, w, rfl, hA, hB, hC, sd, hv, hw, hl, hne, q⟩ := h
    refine ⟨_, pss_one (ps_ret (pe_slice sl_list (pe_call GO hr (by rfl) gO FO.kp bO .nil pass0 (pa_cons (pe_lst (pa_cons (pv 0) (pa_cons (pv 1) pa_nil))) (pa_cons (pv 2) (pa_cons (pe_lst pa_nil) pa_nil)))) (po_some pe_int) (po_some pe_int))), ?_⟩
    obtain ⟨_, _, _, _, e3, _, _⟩ := ahead_two sd hv hw hl hne
    have hlen := outc_len g [v, w] []
    refine ⟨_, rfl, _, rfl, by show 2 ≤ sizeLine; decide, fun l nl => ⟨_, rfl, Nat.zero_le _, fun n nn => ?_⟩⟩
    have s2 := (same_upd (o := .lst [V.ref a, V.ref b]) nl).trans (same_upd (o := .lst []) nn)
    have el := (same_upd (o := .lst []) nn) l _ upd_same
    refine ⟨l, c, n, [a, b], g, [v, w], [], rfl, SqL.of el, ⟨rfl, fun i p r h1 h2 => ?_⟩, s2.seq hC, SqL.of upd_same, fit_two sd hv hw hl hne, fun H1 p s1 np ep => ?_⟩
    · match i, h1, h2 with
      | 0, h1, h2 =>
        have e1 : a = p := Option.some.inj h1
        have e2 : zi v = r := Option.some.inj h2
        subst e1 e2
        exact s2.seq hA
      | 1, h1, h2 =>
        have e1 : b = p := Option.some.inj h1
        have e2 : zi w = r := Option.some.inj h2
        subst e1 e2
        exact s2.seq hB
    · have s3 := s2.trans s1
      refine ⟨_, rfl, _, rfl, p, _, rfl, SqL.of ep, fun r nr => ?_⟩
      rw [cut24 (by rw [List.length_map, hlen]; show 4 ≤ 6; decide), ← List.map_drop, ← List.map_take, e3]
      exact q _ r (s3.trans (same_upd nr)) (s3.free nr) upd_same
/-! ### is_greater -/
def spGr (K : PySem.W.Frag) : Sp := fun vs H Q _ => ∃ (a b : Addr) (x y : Uw53.Q), vs = [.ref a, .ref b] ∧ SqL K H a (x.told.map V.int) ∧ SqL K H b (y.told.map V.int) ∧ Sm x.n ∧ Sm (x.d : Int) ∧ Sm y.n ∧ Sm (y.d : Int) ∧ Q (.bl (Uw53.less y x)) H
theorem scGr : FnScope ["one", "other"] ["one", "other"] (defScope sGr) := ⟨rfl, rfl, rfl, by decide +kernel, rfl, by decide +kernel, by decide +kernel⟩
theorem ok_gr {f : Addr} {fd : FuncData} {k : Nat} (F : Fun K "is_greater" "is_greater" sGr f fd) : FnOk P w K mg base CX0 (k + 1) f fd ["one", "other"] (spGr K) := by
  refine F.ok scGr (fun vs H Q E h => ?_) (fun cdv A outer s H vs Q E hr h => ?_)
  · obtain ⟨a, b, x, y, rfl, _⟩ := h
    rfl
  · obtain ⟨a, b, x, y, rfl, hA, hB, s1, s2, s3, s4, q⟩ := h
    refine ⟨_, pss_one (ps_ret (pe_cmpR op_gt (pe_op op_mulW (pe_ix ix_list (pv 0) pe_int (fun _ _ => rfl)) (pe_ix ix_list (pv 1) pe_int (fun _ _ => rfl))) (pe_op op_mulW (pe_ix ix_list (pv 1) pe_int (fun _ _ => rfl)) (pe_ix ix_list (pv 0) pe_int (fun _ _ => rfl))) (nomark _))), ?_⟩
    refine ⟨_, rfl, a, _, (0 : Nat), V.int x.n, rfl, rfl, hA, atI_nat rfl, _, rfl, b, _, (1 : Nat), V.int y.d, rfl, rfl, hB, atI_nat rfl, _, _, rfl, rfl, sm_mul s1 s4, ?_⟩
    refine ⟨_, rfl, b, _, (0 : Nat), V.int y.n, rfl, rfl, hB, atI_nat rfl, _, rfl, a, _, (1 : Nat), V.int x.d, rfl, rfl, hA, atI_nat rfl, _, _, rfl, rfl, sm_mul s3 s2, ?_⟩
    exact ⟨_, _, rfl, rfl, q⟩
/-! ### best_reply -/
def spRep (K : PySem.W.Frag) : Sp := fun vs H Q _ => ∃ (a c : Addr) (g : Game) (w : List Nat), vs = [.ref a, .ref c] ∧ SqL K H a ((zi w).map V.int) ∧ SqL K H c ((zi g.weights).map V.int) ∧ Rw.Sound g ∧ g.fine w = true ∧
  ∀ H' p, Same H H' → H p = none → H' p = some (.lst (((rpTo g w (Uw53.wordsOf g.weights.length w.length)).1.told ++ zi (rpTo g w (Uw53.wordsOf g.weights.length w.length)).2).map V.int)) → Q (.ref p) H'
theorem scRep : FnScope ["letters", "weights", "best", "reply", "word", "chance"] ["letters", "weights"] (defScope sRep) := ⟨rfl, rfl, rfl, by decide +kernel, rfl, by decide +kernel, by decide +kernel⟩
theorem ok_rep {f fX fC fG : Addr} {fd fdX fdC fdG : FuncData} {k : Nat} (F : Fun K "best_reply" "best_reply" sRep f fd) (D : DR K mg) (FX : Fun K "words_of_length" "words_of_length" sWol fX fdX) (bX : Binds K fdX ["length", "letter_count"] []) (gX : mg "words_of_length" = some (.ref fX))
    (FC : Fun K "chance_against" "chance_against" sCha fC fdC) (bC : Binds K fdC ["word", "other", "weights"] []) (gC : mg "chance_against" = some (.ref fC)) (FG : Fun K "is_greater" "is_greater" sGr fG fdG) (bG : Binds K fdG ["one", "other"] []) (gG : mg "is_greater" = some (.ref fG)) :
    FnOk P w K mg base CX0 (k + 7) f fd ["letters", "weights"] (spRep K) := by
  have GX : FnOk P w K mg base CX0 (k + 6) fX fdX ["length", "letter_count"] spWol := ok_wol (k := k + 5) FX D.range
  have GC : FnOk P w K mg base CX0 (k + 6) fC fdC ["word", "other", "weights"] (spCha K) := ok_cha FC D
  have GG : FnOk P w K mg base CX0 (k + 6) fG fdG ["one", "other"] (spGr K) := ok_gr (k := k + 5) FG
  have ml := D.len
  refine F.ok scRep (fun vs H Q E h => ?_) (fun cdv A outer s H vs Q E hr h => ?_)
  · obtain ⟨a, c, g, w, rfl, _⟩ := h
    rfl
  · obtain ⟨a, c, g, w, rfl, hA, hC, sd, hw, q⟩ := h
    refine ⟨_, pss_cons (ps_set (i := 2) scRep.nd rfl (.inl rfl) (pe_lst (pa_cons pe_int (pa_cons pe_int pa_nil))))
      (pss_cons (ps_set (i := 3) scRep.nd rfl (.inl rfl) (pe_lst pa_nil))
      (pss_cons (ps_for PassesOwn.never rfl (pi_list (pe_call GX hr (by rfl) gX FX.kp bX .nil pass0 (pa_cons (pe_callB call_len_seq (by rfl) ml PySem.boot_len (pa_cons (pv 0) pa_nil)) (pa_cons (pe_callB call_len_seq (by rfl) ml PySem.boot_len (pa_cons (pv 1) pa_nil)) pa_nil)))) (pg_name (i := 4) scRep.nd rfl (.inl rfl))
        (pss_one (ps_if (pt_cmpR (op_neD hr.units) (pv 4) (pv 0) (nomark _))
          (pss_cons (ps_set (i := 5) scRep.nd rfl (.inl rfl) (pe_call GC hr (by rfl) gC FC.kp bC .nil pass0 (pa_cons (pv 4) (pa_cons (pv 0) (pa_cons (pv 1) pa_nil)))))
          (pss_one (ps_if (pt_val (pe_call GG hr (by rfl) gG FG.kp bG .nil pass0 (pa_cons (pv 5) (pa_cons (pv 2) pa_nil))))
            (pss_cons (ps_set (i := 2) scRep.nd rfl (.inl rfl) (pv 5)) (pss_one (ps_set (i := 3) scRep.nd rfl (.inl rfl) (pv 4)))) pss_nil)))
          pss_nil)))
      (pss_one (ps_ret (pe_op op_cat (pv 2) (pv 3)))))), ?_⟩
    obtain ⟨w1, w5, wl⟩ := Rw.fine_iff.mp hw
    have w3 := sd.w3
    refine ⟨by show 2 ≤ sizeLine; decide, fun b0 nb => ⟨Nat.zero_le _, fun r0 nr => ?_⟩⟩
    have sb := same_upd (o := .lst [V.int 0, V.int 1]) nb
    have sr := same_upd (o := .lst []) nr
    have s0 := sb.trans sr
    refine ⟨_, rfl, a, _, rfl, .inl (s0.seq hA), _, rfl, c, _, rfl, .inl (s0.seq hC), w.length, g.weights.length, by rw [zvl, zvl]; rfl, w5, w3, fun H1 o qs s1 eo hQ => ?_⟩
    have s01 := s0.trans s1
    have lq : qs.length = (Uw53.wordsOf g.weights.length w.length).length := by have := hQ.1; rw [List.length_map] at this; exact this
    refine ⟨o, rfl, ⟨_, SqL.of eo⟩, for_list (K := K) (a := o) (xs := qs.map V.ref) (fun i σ H3 => ∃ (b r : Addr) (v4 v5 : Option V), σ = [some (.ref a), some (.ref c), some (.ref b), some (.ref r), v4, v5] ∧ Same H1 H3 ∧
        H3 b = some (.lst ((rpTo g w ((Uw53.wordsOf g.weights.length w.length).take i)).1.told.map V.int)) ∧ H3 r = some (.lst ((zi (rpTo g w ((Uw53.wordsOf g.weights.length w.length).take i)).2).map V.int)) ∧
        Sm (rpTo g w ((Uw53.wordsOf g.weights.length w.length).take i)).1.n ∧ Sm ((rpTo g w ((Uw53.wordsOf g.weights.length w.length).take i)).1.d : Int) ∧ (rpTo g w ((Uw53.wordsOf g.weights.length w.length).take i)).2.length ≤ 5)
      ⟨b0, r0, none, none, rfl, Same.refl H1, s1 _ _ (sr _ _ upd_same), s1 _ _ upd_same, sm_nat (n := 0) (by decide +kernel), sm_nat (n := 1) (by decide +kernel), Nat.zero_le _⟩ (fun i σ H3 _ ⟨_, _, _, _, _, s3, _⟩ => SqL.of (s3 _ _ eo)) ?_ ?_⟩
    · rintro i x σ H3 hx ⟨b, r, v4, v5, rfl, s3, eb, er, mn, md, rl⟩
      obtain ⟨p, gp, rfl⟩ := ref_at hx
      obtain ⟨v, gv, hv⟩ := (hQ.same s3).word gp
      obtain ⟨fv, lv⟩ := fine_of hw (List.mem_of_getElem? gv)
      have s13 := s01.trans s3
      have step : rpTo g w ((Uw53.wordsOf g.weights.length w.length).take (i + 1)) = rpStep g w (rpTo g w ((Uw53.wordsOf g.weights.length w.length).take i)) v := by
        rw [take_more gv]
        unfold rpTo
        rw [List.foldl_append]
        rfl
      rw [step]
      generalize rpTo g w ((Uw53.wordsOf g.weights.length w.length).take i) = B at *
      refine ⟨_, rfl, _, rfl, wD v, wD w, dp_w (SqL.of hv), dp_w (s13.seq hA), wD_shaped _, wD_shaped _, ?_⟩
      rw [wD_eqv]
      refine ⟨_, rfl, ite2 (fun d => ?_) (fun d => ?_)⟩
      · have ne : v ≠ w := fun e => by
          rw [e, beq_self_eq_true] at d
          cases d
        obtain ⟨_, _, _, _, _, cn, cd⟩ := ahead_two sd fv hw lv ne
        refine ⟨_, rfl, _, rfl, _, rfl, p, a, c, g, v, w, rfl, SqL.of hv, s13.seq hA, s13.seq hC, sd, fv, hw, lv, ne, fun H4 t s4 nt et => ?_⟩
        have e1 : rpStep g w B v = if Uw53.less B.1 (g.ahead v w) = true then (g.ahead v w, v) else B := if_neg ne
        refine ⟨_, rfl, _, rfl, t, b, g.ahead v w, B.1, rfl, SqL.of et, SqL.of (s4 _ _ eb), cn, cd, mn, md, _, rfl, ite2 (fun e => ?_) (fun e => ?_)⟩
        · rw [e1, if_pos e]
          exact ⟨_, rfl, _, rfl, t, p, _, _, rfl, s3.trans s4, et, s4 _ _ hv, cn, cd, by rw [lv]; exact w5⟩
        · rw [e1, if_neg e]
          exact ⟨b, r, _, _, rfl, s3.trans s4, s4 _ _ eb, s4 _ _ er, mn, md, rl⟩
      · have e : v = w := by
          apply Classical.byContradiction
          intro z
          exact d (by rw [beq_eq_false_iff_ne.mpr z]; rfl)
        have e1 : rpStep g w B v = B := if_pos e
        rw [e1]
        exact ⟨b, r, _, _, rfl, s3, eb, er, mn, md, rl⟩
    · rintro σ H3 ⟨b, r, v4, v5, rfl, s3, eb, er, mn, md, rl⟩
      rw [List.length_map, lq, List.take_length] at eb er rl
      refine ⟨_, rfl, _, rfl, b, r, _, _, rfl, rfl, eb, er, ?_, fun p np => ?_⟩
      · rw [List.length_map, zvl]
        have := small1000 (n := 2 + 5) (by decide)
        show 2 + _ ≤ sizeLine
        omega
      · rw [← List.map_append]
        exact q _ p (s01.trans (s3.trans (same_upd np))) ((s01.trans s3).free np) upd_same
end
end Rt
/-! ### duel.py: beaten_words -/
namespace Rt
open PySem PySem.Spec PyProof.Rows L2
open Rw (lp W low)
open Uw53 (Game)
abbrev sBtn : Stmt := top 37
abbrev sFr : Stmt := top 38
abbrev sShr : Stmt := top 39
theorem tr_set {H : Hp} {ps : List Addr} {rows : List (List Int)} (h : TrAt H ps rows) (nd : ps.Nodup) {i : Nat} {p : Addr} (gp : ps[i]? = some p) (r : List Int) : TrAt (upd H p (.lst (r.map V.int))) ps (rows.set i r) := by
  refine ⟨by rw [List.length_set]; exact h.1, fun j q z h1 h2 => ?_⟩
  have hi : i < ps.length := (List.getElem?_eq_some_iff.mp gp).1
  have hj : j < ps.length := (List.getElem?_eq_some_iff.mp h1).1
  rw [List.getElem?_set] at h2
  by_cases c : i = j
  · subst c
    have e : q = p := Option.some.inj (h1.symm.trans gp)
    rw [if_pos rfl, if_pos (by rw [← h.1]; exact hi)] at h2
    rw [e, upd_same, Option.some.inj h2]
  · rw [if_neg c] at h2
    have ne : q ≠ p := by
      intro e
      rw [e] at h1
      rw [List.getElem?_eq_getElem hi] at gp
      rw [List.getElem?_eq_getElem hj] at h1
      exact c ((List.getElem_inj nd).mp ((Option.some.inj gp).trans (Option.some.inj h1).symm))
    rw [upd_ne ne]
    exact h.2 j q z h1 h2
theorem zis_set (bt : List (List Nat)) (i : Nat) (r : List Nat) : (bt.map zi).set i (zi r) = (bt.set i r).map zi := List.map_set.symm
section
variable {P : Program} {w : World} {K : PySem.W.Frag} {mg : Str → Option Value} {base : Heap}
/-- what beats what, row by row -/
def btO (g : Game) (n : Nat) : List (List Nat) := (List.range (Uw53.wordsOf g.weights.length n).length).map fun i => (List.range (Uw53.wordsOf g.weights.length n).length).filter (Uw53.beat (g.table n) i)
def spBtn (K : PySem.W.Frag) : Sp := fun vs H Q _ => ∃ (a c : Addr) (ps : List Addr) (g : Game) (n : Nat), vs = [.ref a, .ref c] ∧ SqL K H a (ps.map V.ref) ∧ RowsAt K H ps ((Uw53.wordsOf g.weights.length n).map zi) ∧ SqL K H c ((zi g.weights).map V.int) ∧ Rw.Sound g ∧ 1 ≤ n ∧ n ≤ 3 ∧
  ∀ H' o rs, Same H H' → H' o = some (.lst (rs.map V.ref)) → TrAt H' rs ((btO g n).map zi) → Q (.ref o) H'
theorem scBtn : FnScope ["words", "weights", "beaten", "later", "earlier", "chance", "word"] ["words", "weights"] (defScope sBtn) := ⟨rfl, rfl, rfl, by decide +kernel, rfl, by decide +kernel, by decide +kernel⟩
theorem ok_btn {f fC fG : Addr} {fd fdC fdG : FuncData} {k : Nat} (F : Fun K "beaten_words" "beaten_words" sBtn f fd) (D : DR K mg)
    (FC : Fun K "chance_against" "chance_against" sCha fC fdC) (bC : Binds K fdC ["word", "other", "weights"] []) (gC : mg "chance_against" = some (.ref fC)) (FG : Fun K "is_greater" "is_greater" sGr fG fdG) (bG : Binds K fdG ["one", "other"] []) (gG : mg "is_greater" = some (.ref fG)) :
    FnOk P w K mg base CX0 (k + 7) f fd ["words", "weights"] (spBtn K) := by
  have GC : FnOk P w K mg base CX0 (k + 6) fC fdC ["word", "other", "weights"] (spCha K) := ok_cha FC D
  have GG : FnOk P w K mg base CX0 (k + 6) fG fdG ["one", "other"] (spGr K) := ok_gr (k := k + 5) FG
  have ml := D.len
  have mr := D.range
  refine F.ok scBtn (fun vs H Q E h => ?_) (fun cdv A outer s H vs Q E hr h => ?_)
  · obtain ⟨a, c, ps, g, n, rfl, _⟩ := h
    rfl
  · obtain ⟨a, c, ps, g, n, rfl, hA, hP, hC, sd, n1, n3, q⟩ := h
    refine ⟨_, pss_cons (ps_setLc (i := 2) (own := [("word", 6)]) (g := gName 6) (tt := tYes) rfl scBtn.nd rfl rfl (sw_true rfl rfl rfl (by decide +kernel)) (pi_list (pv 0)) (blkOk_by (N := ["words", "weights", "beaten", "later", "earlier", "chance", "word"]) (sc := defScope sBtn) (by decide +kernel)) (fun _ _ _ _ _ => pg_name (i := 6) scBtn.nd rfl (Or.inl rfl)) (fun _ _ _ _ _ => pts_nil) (fun _ _ _ _ _ => pe_lst pa_nil))
      (pss_cons (ps_for PassesOwn.never rfl (pi_range1 rfl mr (pa_cons (pe_callB call_len_seq (by rfl) ml PySem.boot_len (pa_cons (pv 0) pa_nil)) pa_nil)) (pg_name (i := 3) scBtn.nd rfl (.inl rfl))
        (pss_one (ps_for PassesOwn.never rfl (pi_range1 rfl mr (pa_cons (pv 3) pa_nil)) (pg_name (i := 4) scBtn.nd rfl (.inl rfl))
          (pss_cons (ps_set (i := 5) scBtn.nd rfl (.inl rfl) (pe_call GC hr (by rfl) gC FC.kp bC .nil pass0 (pa_cons (pe_ix ix_list (pv 0) (pv 4) (fun _ _ => rfl)) (pa_cons (pe_ix ix_list (pv 0) (pv 3) (fun _ _ => rfl)) (pa_cons (pv 1) pa_nil)))))
          (pss_one (ps_if (pt_val (pe_call GG hr (by rfl) gG FG.kp bG .nil pass0 (pa_cons (pv 5) (pa_cons (pe_lst (pa_cons pe_int (pa_cons pe_int pa_nil))) pa_nil))))
            (pss_one (ps_expr (pe_bm PySem.F.plainAttrs_list PySem.F.slot_list_append PySem.F.type_list_append mt_append (pe_ix ix_list (pv 2) (pv 4) (fun _ _ => rfl)) (pa_cons (pv 3) pa_nil))))
            (pss_one (ps_if (pt_val (pe_call GG hr (by rfl) gG FG.kp bG .nil pass0 (pa_cons (pe_lst (pa_cons pe_int (pa_cons pe_int pa_nil))) (pa_cons (pv 5) pa_nil))))
              (pss_one (ps_expr (pe_bm PySem.F.plainAttrs_list PySem.F.slot_list_append PySem.F.type_list_append mt_append (pe_ix ix_list (pv 2) (pv 3) (fun _ _ => rfl)) (pa_cons (pv 4) pa_nil)))) pss_nil))))))))
      (pss_one (ps_ret (pv 2)))), ?_⟩
    generalize hm : (Uw53.wordsOf g.weights.length n).length = m at *
    have mb : m ≤ 243 := by
      rw [← hm, ← wl_eq, wl_len]
      exact pow_le sd.w3 (by omega)
    have lps : (ps.map V.ref).length = m := by rw [List.length_map, hP.1, List.length_map, hm]
    have wz : ∀ i, i < m → ∃ p, ps[i]? = some p ∧ ∀ H5, Same H H5 → SqL K H5 p ((zi (W (Uw53.wordsOf g.weights.length n) i)).map V.int) := by
      intro i hi
      obtain ⟨p, gp, _⟩ := RowsAt.wordD (ws := Uw53.wordsOf g.weights.length n) hP (i := i) (by omega)
      refine ⟨p, gp, fun H5 s5 => ?_⟩
      obtain ⟨p2, gp2, h2⟩ := RowsAt.wordD (ws := Uw53.wordsOf g.weights.length n) (hP.same s5) (i := i) (by omega)
      rw [Option.some.inj (gp.symm.trans gp2)]
      exact h2
    -- beaten = [[] for word in words]
    refine ⟨_, rfl, a, rfl, ⟨_, hA⟩, fun D nD => ?_⟩
    refine lc_list (K := K) (a := a) (xs := ps.map V.ref) (fun j H4 => ∃ zs : List Addr, D ∉ zs ∧ zs.Nodup ∧ (∀ z, z ∈ zs → H z = none) ∧ Same H H4 ∧ H4 D = some (.lst (zs.map V.ref)) ∧ TrAt H4 zs ((((List.range m).map fun _ => []).take j).map zi))
      ⟨[], List.not_mem_nil, List.nodup_nil, fun z h => absurd h List.not_mem_nil, same_upd nD, upd_same, rfl, fun i p r h => by cases h⟩ (fun j H4 _ ⟨_, _, _, _, s4, _⟩ => s4.seq hA) ?_ ?_
    · rintro j x H4 hx ⟨zs, nz, nd, fz, s4, eD, hZ⟩
      have hj : j < m := by
        have := (List.getElem?_eq_some_iff.mp hx).1
        omega
      have zl : zs.length ≤ j := by
        have := hZ.1
        rw [List.length_map, List.length_take] at this
        omega
      refine ⟨rfl, lc_yes ?_⟩
      refine ⟨Nat.zero_le _, fun z nz4 => ?_⟩
      have sz := same_upd (o := .lst []) nz4
      have zD : D ≠ z := ne_of_none eD nz4
      have nzs : z ∉ zs := by
        intro h
        obtain ⟨i, hi, e⟩ := List.getElem_of_mem h
        have g1 : zs[i]? = some z := by rw [List.getElem?_eq_getElem hi, e]
        have hi2 : i < ((((List.range m).map fun _ => ([] : List Nat)).take j).map zi).length := by rw [← hZ.1]; exact hi
        have := hZ.2 i z _ g1 (List.getElem?_eq_getElem hi2)
        rw [nz4] at this
        cases this
      refine ⟨zs.map V.ref, sz _ _ eD, by rw [List.length_map]; exact small1000 (by omega), zs ++ [z], ?_, ?_, ?_, same_new (s4.trans sz) nD, ?_, ?_⟩
      · intro h
        rcases List.mem_append.mp h with h | h
        · exact nz h
        · exact zD (List.mem_singleton.mp h)
      · refine List.nodup_append.mpr ⟨nd, List.nodup_cons.mpr ⟨List.not_mem_nil, List.nodup_nil⟩, fun x hx y hy e => nzs ?_⟩
        rw [List.mem_singleton.mp hy] at e
        rw [← e]
        exact hx
      · intro y hy
        rcases List.mem_append.mp hy with h | h
        · exact fz y h
        · rw [List.mem_singleton.mp h]
          exact s4.free nz4
      · rw [upd_same, List.map_append]
        rfl
      · rw [take_more (x := []) (by rw [List.getElem?_map, List.getElem?_range hj]; rfl), List.map_append]
        exact ((hZ.same sz).upd nz).snoc (by rw [upd_ne (Ne.symm zD), upd_same]; rfl)
    · rintro H1 ⟨rs, nz, nd, fz, s1, eD, hZ⟩
      rw [lps, List.take_of_length_le (by rw [List.length_map, List.length_range]; exact Nat.le_refl _), ← bSt_zero (Uw53.beat (g.table n)) m] at hZ
      have lrs : rs.length = m := by
        have := hZ.1
        rw [List.length_map, bSt_len] at this
        exact this
      refine ⟨_, rfl, a, _, rfl, .inl (s1.seq hA), m, by rw [lps], by omega, by omega, ?_⟩
      rw [Int.toNat_natCast]
      refine for_range (lo := 0) (n := m) (fun L σ H3 => ∃ (v3 v4 v5 : Option V), σ = [some (.ref a), some (.ref c), some (.ref D), v3, v4, v5, none] ∧ Same H H3 ∧ H3 D = some (.lst (rs.map V.ref)) ∧ TrAt H3 rs ((bSt (Uw53.beat (g.table n)) m L 0).map zi))
        ⟨none, none, none, rfl, s1, eD, hZ⟩ ?_ ?_
      · rintro L σ H3 hL ⟨v3, v4, v5, rfl, s3, e3, h3⟩
        rw [Int.zero_add]
        refine ⟨_, rfl, L, rfl, by omega, by omega, ?_⟩
        rw [Int.toNat_natCast]
        refine for_range (lo := 0) (n := L) (fun e σ H4 => ∃ (v4 v5 : Option V), σ = [some (.ref a), some (.ref c), some (.ref D), some (.int L), v4, v5, none] ∧ Same H H4 ∧ H4 D = some (.lst (rs.map V.ref)) ∧ TrAt H4 rs ((bSt (Uw53.beat (g.table n)) m L e).map zi))
          ⟨_, _, rfl, s3, e3, h3⟩ ?_ ?_
        · rintro e σ H4 he ⟨v4, v5, rfl, s4, e4, h4⟩
          rw [Int.zero_add]
          obtain ⟨⟨f1, f2, fl, fne⟩, b1, b2⟩ := duel_b sd n1 (show n ≤ 5 by omega) (i := e) (j := L) (by omega) (by omega) (by omega)
          obtain ⟨_, _, _, _, _, cn, cd⟩ := ahead_two sd f1 f2 fl fne
          obtain ⟨pe, gpe, hpe⟩ := wz e (by omega)
          obtain ⟨pl, gpl, hpl⟩ := wz L hL
          refine ⟨_, rfl, _, rfl, a, _, _, V.ref pe, rfl, rfl, s4.seq hA, atI_nat (by rw [List.getElem?_map, gpe]; rfl), _, rfl, _, rfl, a, _, _, V.ref pl, rfl, rfl, s4.seq hA, atI_nat (by rw [List.getElem?_map, gpl]; rfl), _, rfl, pe, pl, c, g, _, _, rfl, hpe _ s4, hpl _ s4, s4.seq hC, sd, f1, f2, fl, fne, fun H5 t s5 nt et => ?_⟩
          have s45 := s4.trans s5
          have sm1 : Sm (1 : Int) := sm_nat (n := 1) (by decide +kernel)
          have sm2 : Sm (2 : Int) := sm_nat (n := 2) (by decide +kernel)
          -- the rows of e and L
          have ge : (bSt (Uw53.beat (g.table n)) m L e)[e]? = some (bRow (Uw53.beat (g.table n)) L e e) := bSt_at (by omega)
          have gL : (bSt (Uw53.beat (g.table n)) m L e)[L]? = some (bRow (Uw53.beat (g.table n)) L e L) := bSt_at hL
          have add : ∀ (i x : Nat) (H6 : Hp), i < m → Same H5 H6 → bSt (Uw53.beat (g.table n)) m L (e + 1) = (bSt (Uw53.beat (g.table n)) m L e).set i (bRow (Uw53.beat (g.table n)) L e i ++ [x]) →
              ∃ z, rs[i]? = some z ∧ H6 z = some (.lst ((zi (bRow (Uw53.beat (g.table n)) L e i)).map V.int)) ∧ Same H (upd H6 z (.lst ((zi (bRow (Uw53.beat (g.table n)) L e i)).map V.int ++ [V.int (x : Nat)]))) ∧ (upd H6 z (.lst ((zi (bRow (Uw53.beat (g.table n)) L e i)).map V.int ++ [V.int (x : Nat)]))) D = some (.lst (rs.map V.ref)) ∧ TrAt (upd H6 z (.lst ((zi (bRow (Uw53.beat (g.table n)) L e i)).map V.int ++ [V.int (x : Nat)]))) rs ((bSt (Uw53.beat (g.table n)) m L (e + 1)).map zi) := by
            intro i x H6 hi s6 hs
            have hi2 : i < rs.length := by omega
            have gz : rs[i]? = some rs[i] := List.getElem?_eq_getElem hi2
            have mz : rs[i] ∈ rs := List.getElem_mem hi2
            have ez : H4 rs[i] = some (.lst ((zi (bRow (Uw53.beat (g.table n)) L e i)).map V.int)) := h4.2 i _ _ gz (zis_get (bSt_at hi))
            have ezi : (zi (bRow (Uw53.beat (g.table n)) L e i)).map V.int ++ [V.int (x : Nat)] = (zi (bRow (Uw53.beat (g.table n)) L e i ++ [x])).map V.int := by
              rw [zi_app, List.map_append]
              rfl
            have zD : D ≠ rs[i] := fun z => nz (z ▸ mz)
            refine ⟨rs[i], gz, s6 _ _ (s5 _ _ ez), same_new (s45.trans s6) (fz _ mz), ?_, ?_⟩
            · rw [upd_ne zD]
              exact s6 _ _ (s5 _ _ e4)
            · rw [hs, ← zis_set, ezi]
              exact tr_set (h4.same (s5.trans s6)) nd gz _
          refine ⟨_, rfl, by show 2 ≤ sizeLine; decide, fun l nl => ?_⟩
          have sl := same_upd (o := .lst [V.int 1, V.int 2]) nl
          refine ⟨t, l, _, Uw53.half, rfl, SqL.of (sl _ _ et), SqL.of upd_same, cn, cd, sm1, sm2, _, rfl, ite2 (fun d => ?_) (fun d => ?_)⟩
          · have w1 : Uw53.beat (g.table n) e L = true := b1.trans d
            have w2 := beat_not_both sd n1 (show n ≤ 5 by omega) (i := e) (j := L) (by omega) (by omega) (by omega) w1
            obtain ⟨z, gz, ez, sz, eDz, hTz⟩ := add e L _ (by omega) sl (bSt_win hL he w1 w2)
            refine ⟨_, rfl, _, rfl, D, _, _, V.ref z, rfl, rfl, SqL.of (sl _ _ (s5 _ _ e4)), atI_nat (by rw [List.getElem?_map, gz]; rfl), .inl ⟨rfl, _, SqL.of ez⟩, _, rfl, z, _, _, rfl, rfl, ez, ?_, ?_⟩
            · rw [zvl]
              have := bRow_len (Uw53.beat (g.table n)) L e e (by omega)
              exact small1000 (by omega)
            · exact ⟨_, _, rfl, sz, eDz, hTz⟩
          · have w1 : Uw53.beat (g.table n) e L = false := b1.trans (Bool.eq_false_iff.mpr d)
            refine ⟨by show 2 ≤ sizeLine; decide, fun l2 nl2 => ?_⟩
            have sl2 := sl.trans (same_upd (o := .lst [V.int 1, V.int 2]) nl2)
            refine ⟨_, rfl, l2, t, Uw53.half, _, rfl, SqL.of upd_same, SqL.of (sl2 _ _ et), sm1, sm2, cn, cd, _, rfl, ite2 (fun d2 => ?_) (fun d2 => ?_)⟩
            · have w2 : Uw53.beat (g.table n) L e = true := b2.trans d2
              obtain ⟨z, gz, ez, sz, eDz, hTz⟩ := add L e _ hL sl2 (bSt_lose hL he w1 w2)
              refine ⟨_, rfl, _, rfl, D, _, _, V.ref z, rfl, rfl, SqL.of (sl2 _ _ (s5 _ _ e4)), atI_nat (by rw [List.getElem?_map, gz]; rfl), .inl ⟨rfl, _, SqL.of ez⟩, _, rfl, z, _, _, rfl, rfl, ez, ?_, ?_⟩
              · rw [zvl]
                have := bRow_len (Uw53.beat (g.table n)) L e L (by omega)
                exact small1000 (by omega)
              · exact ⟨_, _, rfl, sz, eDz, hTz⟩
            · have w2 : Uw53.beat (g.table n) L e = false := b2.trans (Bool.eq_false_iff.mpr d2)
              refine ⟨_, _, rfl, s45.trans sl2, sl2 _ _ (s5 _ _ e4), ?_⟩
              rw [bSt_tie he w1 w2]
              exact h4.same (s5.trans sl2)
        · rintro σ H4 ⟨v4, v5, rfl, s4, e4, h4⟩
          rw [bSt_next (beat_self g (by omega))] at h4
          exact ⟨_, _, _, rfl, s4, e4, h4⟩
      · rintro σ H3 ⟨v3, v4, v5, rfl, s3, e3, h3⟩
        rw [bSt_end] at h3
        refine ⟨_, rfl, q H3 D rs s3 e3 ?_⟩
        unfold btO
        rw [hm]
        exact h3
end
end Rt
/-! ### duel.py: first_ring, shortest_ring -/
namespace Rt
open PySem PySem.Spec PyProof.Rows L2
open Rw (W)
open Uw53 (Game)
theorem inV_zi (x : Nat) (l : List Nat) : inV (.int x) ((zi l).map V.int) = decide (x ∈ l) := by
  unfold inV zi
  rw [List.map_map, List.any_map]
  by_cases h : x ∈ l
  · rw [decide_eq_true h]
    exact List.any_eq_true.mpr ⟨x, h, by show ((x : Int) == (x : Int)) = true; exact beq_self_eq_true _⟩
  · rw [decide_eq_false h]
    refine List.any_eq_false.mpr fun y hy => ?_
    show ¬ ((y : Int) == (x : Int)) = true
    intro e
    have e2 : (y : Int) = (x : Int) := eq_of_beq e
    have : y = x := by omega
    exact h (this ▸ hy)
theorem flat_zi (l : List Nat) : ((zi l).map V.int).all flatV = true := by
  rw [List.all_map]
  exact List.all_eq_true.mpr fun _ _ => rfl
theorem head_at {p : List Nat} (h : p ≠ []) : p[0]? = some (p.headD 0) := by
  cases p with
  | nil => exact absurd rfl h
  | cons x r => rfl
theorem last_at {p : List Nat} (h : p ≠ []) : ∃ k, p.length = k + 1 ∧ p[k]? = some (p.getLastD 0) := by
  obtain ⟨r, x, rfl⟩ : ∃ r x, p = r ++ [x] := ⟨_, _, (List.dropLast_concat_getLast h).symm⟩
  refine ⟨r.length, by rw [List.length_append]; rfl, ?_⟩
  rw [List.getLastD_concat, List.getElem?_append_right (Nat.le_refl _), Nat.sub_self]
  rfl
theorem zv_at {l : List Nat} {i x : Nat} (h : l[i]? = some x) : ((zi l).map V.int)[i]? = some (V.int (x : Nat)) := by
  unfold zi
  rw [List.getElem?_map, List.getElem?_map, h]
  rfl
theorem find_at {a c : Type} {f : a → Option c} {l : List a} {i : Nat} {x : a} {r : c} (hx : l[i]? = some x) (hf : f x = some r) (hn : ∀ (j : Nat) (y : a), j < i → l[j]? = some y → f y = none) : l.findSome? f = some r := by
  obtain ⟨hi, e⟩ := List.getElem?_eq_some_iff.mp hx
  refine List.findSome?_eq_some_iff.mpr ⟨l.take i, x, l.drop (i + 1), ?_, hf, fun y hy => ?_⟩
  · have := (List.take_append_drop i l).symm
    rw [List.drop_eq_getElem_cons hi, e] at this
    exact this
  · obtain ⟨j, hj, e2⟩ := List.getElem_of_mem hy
    rw [List.length_take] at hj
    rw [List.getElem_take] at e2
    exact hn j y (by omega) (by rw [List.getElem?_eq_getElem (by omega), e2])
theorem find_no {a c : Type} {f : a → Option c} {l : List a} (hn : ∀ (j : Nat) (y : a), l[j]? = some y → f y = none) : l.findSome? f = none := by
  refine List.findSome?_eq_none_iff.mpr fun y hy => ?_
  obtain ⟨j, hj, e⟩ := List.getElem_of_mem hy
  exact hn j y (by rw [List.getElem?_eq_getElem hj, e])
section
variable {P : Program} {w : World} {K : PySem.W.Frag} {mg : Str → Option Value} {base : Heap}
/-- one further member -/
def frStep (bt : List (List Nat)) (d : Nat) (p : List Nat) (x : Nat) : Option (List Nat) := if p.headD 0 < x ∧ x ∉ p then frO bt d (p ++ [x]) else none
theorem frO_succ (bt : List (List Nat)) (d : Nat) (p : List Nat) : frO bt (d + 1) p = (rowB bt (p.getLastD 0)).findSome? (frStep bt d p) := rfl
def spFr (K : PySem.W.Frag) (d : Nat) : Sp := fun vs H Q _ => ∃ (a c : Addr) (rs : List Addr) (p : List Nat) (bt : List (List Nat)) (len : Nat), vs = [.ref a, .int len, .ref c] ∧ H a = some (.lst ((zi p).map V.int)) ∧ SqL K H c (rs.map V.ref) ∧ RowsAt K H rs (bt.map zi) ∧
  p ≠ [] ∧ (∀ x, x ∈ p → x < bt.length) ∧ len = p.length + d ∧ len ≤ 10 ∧ (∀ i x, x ∈ rowB bt i → x < bt.length) ∧ bt.length ≤ 500 ∧
  (frO bt d p = none → ∀ H', Same H H' → Q .non H') ∧ ∀ r, frO bt d p = some r → ∀ H' q, Same H H' → H' q = some (.lst ((zi r).map V.int)) → Q (.ref q) H'
theorem scFr : FnScope ["path", "length", "beaten", "number", "ring"] ["path", "length", "beaten"] (defScope sFr) := ⟨rfl, rfl, rfl, by decide +kernel, rfl, by decide +kernel, by decide +kernel⟩
theorem ok_fr {f : Addr} {fd : FuncData} (F : Fun K "first_ring" "first_ring" sFr f fd) (bF : Binds K fd ["path", "length", "beaten"] []) (gF : mg "first_ring" = some (.ref f)) (ml : mg "len" = none) : ∀ (d k : Nat), FnOk P w K mg base CX0 (k + d + 1) f fd ["path", "length", "beaten"] (spFr K d)
  | 0, k => by
    refine F.ok scFr (fun vs H Q E h => ?_) (fun cdv A outer s H vs Q E hr h => ?_)
    · obtain ⟨a, c, rs, p, bt, len, rfl, _⟩ := h
      rfl
    · obtain ⟨a, c, rs, p, bt, len, rfl, hA, hC, hR, pne, pm, hl, h10, hb, hm, q1, q2⟩ := h
      refine ⟨_, pss_cons (ps_if (pt_cmpR op_eq (pe_callB call_len_seq (by rfl) ml PySem.boot_len (pa_cons (pv 0) pa_nil)) (pv 1) (nomark _))
          (pss_one (ps_ret (pe_ifExp (pt_cmpR op_in_seq (pe_ix ix_list (pv 0) pe_int (fun _ _ => rfl)) (pe_ix ix_list (pv 2) (pe_ix ix_list (pv 0) (pe_un un_neg pe_int) (fun _ _ => rfl)) (fun _ _ => rfl)) (by rfl)) (pv 0) pe_non))) pss_nil)
        (pss_cons ps_never (pss_one (ps_ret pe_non))), ?_⟩
      obtain ⟨j, hj, gl⟩ := last_at pne
      have hlast := pm _ (last_mem pne 0)
      obtain ⟨z, gz, hz⟩ := RowsAt.wordD (ws := bt) hR (i := p.getLastD 0) hlast
      refine ⟨_, rfl, a, _, rfl, .inl (SqL.of hA), _, rfl, rfl, _, rfl, ifT (decide_eq_true (by rw [zvl, hl, Nat.add_zero])) ?_⟩
      refine ⟨_, rfl, a, _, (0 : Nat), _, rfl, rfl, SqL.of hA, atI_nat (zv_at (head_at pne)), _, rfl, _, rfl, _, rfl, a, _, _, _, rfl, rfl, SqL.of hA, atI_neg (by rw [zvl]; exact hj) (zv_at gl), c, _, _, V.ref z, rfl, rfl, hC, atI_nat (by rw [List.getElem?_map, gz]; rfl), z, _, rfl, .inl hz, rfl, flat_zi _, ?_⟩
      rw [inV_zi]
      have e0 : frO bt 0 p = if p.headD 0 ∈ rowB bt (p.getLastD 0) then some p else none := rfl
      refine ⟨_, rfl, ite2 (fun e => ?_) (fun e => ?_)⟩
      · have e1 : p.headD 0 ∈ rowB bt (p.getLastD 0) := of_decide_eq_true e
        rw [if_pos e1] at e0
        exact ⟨_, rfl, q2 p e0 H a (Same.refl H) hA⟩
      · have e1 : ¬ p.headD 0 ∈ rowB bt (p.getLastD 0) := fun z => e (decide_eq_true z)
        rw [if_neg e1] at e0
        exact q1 e0 H (Same.refl H)
  | d + 1, k => by
    have G : FnOk P w K mg base CX0 (k + d + 1) f fd ["path", "length", "beaten"] (spFr K d) := ok_fr F bF gF ml d k
    have goal : FnOk P w K mg base CX0 ((k + d + 1) + 1) f fd ["path", "length", "beaten"] (spFr K (d + 1)) := by
      refine F.ok scFr (fun vs H Q E h => ?_) (fun cdv A outer s H vs Q E hr h => ?_)
      · obtain ⟨a, c, rs, p, bt, len, rfl, _⟩ := h
        rfl
      · obtain ⟨a, c, rs, p, bt, len, rfl, hA, hC, hR, pne, pm, hl, h10, hb, hm, q1, q2⟩ := h
        refine ⟨_, pss_cons (ps_if (pt_cmpR op_eq (pe_callB call_len_seq (by rfl) ml PySem.boot_len (pa_cons (pv 0) pa_nil)) (pv 1) (nomark _)) pss_never pss_nil)
          (pss_cons (ps_for PassesOwn.never rfl (pi_list (pe_ix ix_list (pv 2) (pe_ix ix_list (pv 0) (pe_un un_neg pe_int) (fun _ _ => rfl)) (fun _ _ => rfl))) (pg_name (i := 3) scFr.nd rfl (.inl rfl))
            (pss_one (ps_if (PW.pt (pw_and (pt_cmpR op_gt (pv 3) (pe_ix ix_list (pv 0) pe_int (fun _ _ => rfl)) (nomark _)) (pw_and1 (pt_cmpR op_notIn_seq (pv 3) (pv 0) (by rfl)))))
              (pss_cons (ps_set (i := 4) scFr.nd rfl (.inl rfl) (pe_call G hr (by rfl) gF F.kp bF .nil pass0 (pa_cons (pe_op op_cat (pv 0) (pe_lst (pa_cons (pv 3) pa_nil))) (pa_cons (pv 1) (pa_cons (pv 2) pa_nil)))))
              (pss_one (ps_if (pt_cmpR op_notN (pv 4) pe_non (nomark _)) (pss_one (ps_ret (pv 4))) pss_nil))) pss_nil)))
          (pss_one (ps_ret pe_non))), ?_⟩
        obtain ⟨j, hj, gl⟩ := last_at pne
        have hlast := pm _ (last_mem pne 0)
        obtain ⟨z, gz, hz⟩ := RowsAt.wordD (ws := bt) hR (i := p.getLastD 0) hlast
        refine ⟨_, rfl, a, _, rfl, .inl (SqL.of hA), _, rfl, rfl, _, rfl, ifF (decide_eq_false (by
          rw [zvl, hl]
          intro e
          have := V.int.inj e
          omega)) ?_⟩
        refine ⟨_, rfl, _, rfl, _, rfl, a, _, _, _, rfl, rfl, SqL.of hA, atI_neg (by rw [zvl]; exact hj) (zv_at gl), c, _, _, V.ref z, rfl, rfl, hC, atI_nat (by rw [List.getElem?_map, gz]; rfl), z, rfl, ⟨_, hz⟩, for_list (K := K) (a := z) (xs := (zi (rowB bt (p.getLastD 0))).map V.int) (fun i σ H3 => ∃ (v3 v4 : Option V), σ = [some (.ref a), some (.int len), some (.ref c), v3, v4] ∧ Same H H3 ∧ ∀ (j x : Nat), j < i → (rowB bt (p.getLastD 0))[j]? = some x → frStep bt d p x = none)
          ⟨none, none, rfl, Same.refl H, fun j x h => absurd h (Nat.not_lt_zero j)⟩ (fun i σ H3 _ ⟨_, _, _, s3, _⟩ => s3.seq hz) ?_ ?_⟩
        · rintro i x σ H3 hx ⟨v3, v4, rfl, s3, no⟩
          obtain ⟨zx, gx, rfl⟩ := iv_at hx
          obtain ⟨y, gy, rfl⟩ := zi_get gx
          have hyb := hb _ y (List.mem_of_getElem? gy)
          have next : frStep bt d p y = none → ∀ (j x : Nat), j < i + 1 → (rowB bt (p.getLastD 0))[j]? = some x → frStep bt d p x = none := by
            intro h j x hj hx2
            by_cases c : j < i
            · exact no j x c hx2
            · have : j = i := by omega
              rw [this] at hx2
              rw [Option.some.inj (hx2.symm.trans gy)]
              exact h
          refine ⟨_, rfl, _, rfl, a, _, (0 : Nat), _, rfl, rfl, SqL.of (s3 _ _ hA), atI_nat (zv_at (head_at pne)), _, _, rfl, rfl, _, rfl, ite2 (fun e => ?_) (fun e => ?_)⟩
          · have e1 : ((p.headD 0 : Nat) : Int) < (y : Int) := of_decide_eq_true e
            refine ⟨_, rfl, _, rfl, a, _, rfl, .inl (SqL.of (s3 _ _ hA)), rfl, flat_zi _, ?_⟩
            rw [inV_zi]
            refine ⟨_, rfl, ite2 (fun e2 => ?_) (fun e2 => ?_)⟩
            · have e3 : y ∉ p := by
                intro h
                rw [decide_eq_true h] at e2
                cases e2
              have st : frStep bt d p y = frO bt d (p ++ [y]) := if_pos ⟨by omega, e3⟩
              refine ⟨_, rfl, _, rfl, by show 1 ≤ sizeLine; decide, fun t nt => ?_⟩
              have stt := same_upd (o := .lst [V.int (y : Nat)]) nt
              refine ⟨a, t, _, _, rfl, rfl, stt _ _ (s3 _ _ hA), upd_same, ?_, fun u nu => ?_⟩
              · rw [zvl]
                have := small1000 (n := p.length + 1) (by omega)
                show p.length + 1 ≤ sizeLine
                omega
              have ey : (zi p).map V.int ++ [V.int (y : Nat)] = (zi (p ++ [y])).map V.int := by
                rw [zi_app, List.map_append]
                rfl
              rw [ey]
              have su := same_upd (o := .lst ((zi (p ++ [y])).map V.int)) nu
              have s4 := s3.trans (stt.trans su)
              refine ⟨_, rfl, _, rfl, u, c, rs, p ++ [y], bt, len, rfl, upd_same, s4.seq hC, hR.same s4, by simp, fun x hx => ?_, by rw [List.length_append]; show len = p.length + 1 + d; omega, h10, hb, hm, fun h H5 s5 => ?_, fun r h H5 u s5 e5 => ?_⟩
              · rcases List.mem_append.mp hx with hx | hx
                · exact pm x hx
                · rw [List.mem_singleton.mp hx]; exact hyb
              · refine ⟨_, rfl, rfl, _, rfl, ifF (by rfl) ⟨_, _, rfl, s4.trans s5, next (st.trans h)⟩⟩
              · refine ⟨_, rfl, rfl, _, rfl, ifT (by rfl) ⟨_, rfl, q2 r ?_ H5 u (s4.trans s5) e5⟩⟩
                rw [frO_succ]
                exact find_at gy (st.trans h) no
            · have e3 : ¬ y ∉ p := by
                intro h
                exact e2 (by rw [decide_eq_false h]; rfl)
              exact ⟨_, _, rfl, s3, next (if_neg fun h => e3 h.2)⟩
          · have e1 : ¬ ((p.headD 0 : Nat) : Int) < (y : Int) := fun z => e (decide_eq_true z)
            exact ⟨_, _, rfl, s3, next (if_neg fun h => e1 (by omega))⟩
        · rintro σ H3 ⟨v3, v4, rfl, s3, no⟩
          refine q1 ?_ H3 s3
          rw [frO_succ]
          refine find_no fun j y hy => no j y ?_ hy
          rw [zvl]
          exact (List.getElem?_eq_some_iff.mp hy).1
    exact goal
end
end Rt
/-! ### duel.py: shortest_ring -/
namespace Rt
open PySem PySem.Spec PyProof.Rows L2
open Rw (W)
open Uw53 (Game)
theorem fn_any {P : Program} {w : World} {K : PySem.W.Frag} {mg : Str → Option Value} {base : Heap} {CX : CXT} {k : Nat} {f : Addr} {fd : FuncData} {ps : List Str} {sp : Nat → Sp} {n : Nat} (F : ∀ i, i ≤ n → FnOk P w K mg base CX k f fd ps (sp i)) :
    FnOk P w K mg base CX k f fd ps (fun vs H Q E => ∃ i, i ≤ n ∧ sp i vs H Q E) :=
  ⟨fun vs H Q E ⟨i, hi, q⟩ => (F i hi).len vs H Q E q, fun A outer s H args us vs Q E hr he hb hv ⟨i, hi, hs⟩ => (F i hi).run A outer s H args us vs Q E hr he hb hv hs⟩
section
variable {P : Program} {w : World} {K : PySem.W.Frag} {mg : Str → Option Value} {base : Heap}
def spShr (K : PySem.W.Frag) : Sp := fun vs H Q _ => ∃ (c : Addr) (g : Game) (n : Nat), vs = [.int n, .ref c] ∧ SqL K H c ((zi g.weights).map V.int) ∧ Rw.Sound g ∧ 1 ≤ n ∧ n ≤ 3 ∧
  (g.ring n = none → ∀ H', Same H H' → Q .non H') ∧ ∀ r, g.ring n = some r → ∀ H' o qs, Same H H' → H' o = some (.lst (qs.map V.ref)) → TrAt H' qs (r.map zi) → Q (.ref o) H'
theorem scShr : FnScope ["length", "weights", "words", "beaten", "size", "number", "ring", "member"] ["length", "weights"] (defScope sShr) := ⟨rfl, rfl, rfl, by decide +kernel, rfl, by decide +kernel, by decide +kernel⟩
theorem bt_len (g : Game) (n : Nat) : (btO g n).length = (Uw53.wordsOf g.weights.length n).length := by
  unfold btO
  rw [List.length_map, List.length_range]
theorem bt_low (g : Game) (n : Nat) : ∀ i x, x ∈ rowB (btO g n) i → x < (Uw53.wordsOf g.weights.length n).length := by
  intro i x hx
  unfold rowB btO at hx
  rw [List.getD_eq_getElem?_getD, List.getElem?_map] at hx
  cases e : (List.range (Uw53.wordsOf g.weights.length n).length)[i]? with
  | none => rw [e] at hx; cases hx
  | some j =>
    rw [e] at hx
    exact List.mem_range.mp (List.mem_filter.mp hx).1
theorem sh_none {bt : List (List Nat)} {m : Nat} (h : ∀ k, k < 2 → ∀ i, i < m → frO bt (2 + k) [i] = none) : shO bt m = none := by
  unfold shO
  refine List.findSome?_eq_none_iff.mpr fun k hk => List.findSome?_eq_none_iff.mpr fun i hi => ?_
  have hi := List.mem_range.mp hi
  rcases List.mem_cons.mp hk with e | hk
  · rw [e]; exact h 0 (by decide) i hi
  · rw [List.mem_singleton.mp hk]; exact h 1 (by decide) i hi
theorem sh_some {bt : List (List Nat)} {m s i : Nat} {r : List Nat} (hs : s < 2) (hi : i < m) (h1 : ∀ k, k < s → ∀ i, i < m → frO bt (2 + k) [i] = none) (h2 : ∀ j, j < i → frO bt (2 + s) [j] = none) (h : frO bt (2 + s) [i] = some r) : shO bt m = some r := by
  have inner : ((List.range m).findSome? fun i => frO bt (2 + s) [i]) = some r := find_at (List.getElem?_range hi) h fun j y hj hy => by
    rw [List.getElem?_range (by omega)] at hy
    rw [← Option.some.inj hy]
    exact h2 j hj
  have none0 : 0 < s → ((List.range m).findSome? fun i => frO bt (3 - 1) [i]) = none := fun hs => List.findSome?_eq_none_iff.mpr fun i hi => h1 0 hs i (List.mem_range.mp hi)
  unfold shO
  rw [List.findSome?_cons, List.findSome?_cons]
  match s, hs, inner, none0 with
  | 0, _, inner, _ =>
    have e : ((List.range m).findSome? fun i => frO bt (3 - 1) [i]) = some r := inner
    rw [e]
  | 1, _, inner, none0 =>
    rw [none0 (by decide)]
    have e : ((List.range m).findSome? fun i => frO bt (4 - 1) [i]) = some r := inner
    rw [e]
theorem ok_shr {f fX fC fG fB fR : Addr} {fd fdX fdC fdG fdB fdR : FuncData} {k : Nat} (F : Fun K "shortest_ring" "shortest_ring" sShr f fd) (D : DR K mg) (FX : Fun K "words_of_length" "words_of_length" sWol fX fdX) (bX : Binds K fdX ["length", "letter_count"] []) (gX : mg "words_of_length" = some (.ref fX))
    (FC : Fun K "chance_against" "chance_against" sCha fC fdC) (bC : Binds K fdC ["word", "other", "weights"] []) (gC : mg "chance_against" = some (.ref fC)) (FG : Fun K "is_greater" "is_greater" sGr fG fdG) (bG : Binds K fdG ["one", "other"] []) (gG : mg "is_greater" = some (.ref fG))
    (FB : Fun K "beaten_words" "beaten_words" sBtn fB fdB) (bB : Binds K fdB ["words", "weights"] []) (gB : mg "beaten_words" = some (.ref fB)) (FR : Fun K "first_ring" "first_ring" sFr fR fdR) (bR : Binds K fdR ["path", "length", "beaten"] []) (gR : mg "first_ring" = some (.ref fR))
    (c1 : Num mg "SHORTEST_RING" 3) (c2 : Num mg "LONGEST_RING" 4) :
    FnOk P w K mg base CX0 (k + 8) f fd ["length", "weights"] (spShr K) := by
  have GX : FnOk P w K mg base CX0 (k + 7) fX fdX ["length", "letter_count"] spWol := ok_wol (k := k + 6) FX D.range
  have GB : FnOk P w K mg base CX0 (k + 7) fB fdB ["words", "weights"] (spBtn K) := ok_btn FB D FC bC gC FG bG gG
  have GR : FnOk P w K mg base CX0 (k + 7) fR fdR ["path", "length", "beaten"] (fun vs H Q E => ∃ d, d ≤ 3 ∧ spFr K d vs H Q E) := fn_any fun d hd => (ok_fr FR bR gR D.len d k).mono (by omega)
  obtain ⟨t1, c1⟩ := c1
  obtain ⟨t2, c2⟩ := c2
  have ml := D.len
  have mr := D.range
  refine F.ok scShr (fun vs H Q E h => ?_) (fun cdv A outer s H vs Q E hr h => ?_)
  · obtain ⟨c, g, n, rfl, _⟩ := h
    rfl
  · obtain ⟨c, g, n, rfl, hC, sd, n1, n3, q1, q2⟩ := h
    refine ⟨_, pss_cons (ps_set (i := 2) scShr.nd rfl (.inr rfl) (pe_call GX hr (by rfl) gX FX.kp bX .nil pass0 (pa_cons (pv 0) (pa_cons (pe_callB call_len_seq (by rfl) ml PySem.boot_len (pa_cons (pv 1) pa_nil)) pa_nil))))
      (pss_cons (ps_set (i := 3) scShr.nd rfl (.inl rfl) (pe_call GB hr (by rfl) gB FB.kp bB .nil pass0 (pa_cons (pv 2) (pa_cons (pv 1) pa_nil))))
      (pss_cons (ps_for PassesOwn.never rfl (pi_range2 (by rfl) mr (pa_cons (pe_glob (v := .int 3) rfl c1 ⟨_, rfl⟩) (pa_cons (pe_op op_add (pe_glob (v := .int 4) rfl c2 ⟨_, rfl⟩) pe_int) pa_nil))) (pg_name (i := 4) scShr.nd rfl (.inl rfl))
        (pss_one (ps_for PassesOwn.never rfl (pi_range1 rfl mr (pa_cons (pe_callB call_len_seq (by rfl) ml PySem.boot_len (pa_cons (pv 2) pa_nil)) pa_nil)) (pg_name (i := 5) scShr.nd rfl (.inl rfl))
          (pss_cons (ps_set (i := 6) scShr.nd rfl (.inl rfl) (pe_call GR hr (by rfl) gR FR.kp bR .nil pass0 (pa_cons (pe_lst (pa_cons (pv 5) pa_nil)) (pa_cons (pv 4) (pa_cons (pv 3) pa_nil)))))
          (pss_one (ps_if (pt_cmpR op_notN (pv 6) pe_non (nomark _)) (pss_one (ps_ret (pe_lc (own := [("member", 7)]) (g := gName 7) (tt := tYes) rfl scShr.nd (pi_list (pv 6)) (blkOk_by (N := ["length", "weights", "words", "beaten", "size", "number", "ring", "member"]) (sc := defScope sShr) (by decide +kernel)) (fun _ _ _ _ _ => pg_name (i := 7) scShr.nd rfl (Or.inl rfl)) (fun _ _ _ _ _ => pts_nil)
            (fun _ _ _ _ _ => pe_ix (r := rIxL K) ix_list (pv 2) (pv 7) (fun _ _ => rfl))))) pss_nil))))))
      (pss_one (ps_ret pe_non)))), ?_⟩
    have rok := ring_ok g n
    have eb : (List.range (Uw53.wordsOf g.weights.length n).length).map (fun i => (List.range (Uw53.wordsOf g.weights.length n).length).filter (Uw53.beat (g.table n) i)) = btO g n := rfl
    rw [eb] at rok
    have bl := bt_len g n
    have bw := bt_low g n
    have mb : (Uw53.wordsOf g.weights.length n).length ≤ 243 := by
      rw [← wl_eq, wl_len]
      exact pow_le sd.w3 (by omega)
    refine ⟨_, rfl, _, rfl, c, _, rfl, .inl hC, n, g.weights.length, by rw [zvl]; rfl, by omega, sd.w3, fun H1 o qs s1 eo hQ => ?_⟩
    refine ⟨_, rfl, _, rfl, o, c, qs, g, n, rfl, SqL.of eo, hQ.rows, s1.seq hC, sd, n1, n3, fun H2 b rs s2 eb2 hR => ?_⟩
    have lqs : (qs.map V.ref).length = (Uw53.wordsOf g.weights.length n).length := by rw [List.length_map, hQ.1, List.length_map]
    have s12 := s1.trans s2
    have eo2 := s2 _ _ eo
    refine ⟨_, _, rfl, rfl, 3, _, rfl, ⟨by decide, by decide, by decide, by decide⟩, ?_⟩
    generalize hm : (Uw53.wordsOf g.weights.length n).length = m at *
    refine for_range (lo := 3) (n := 2) (fun s σ H3 => ∃ (v4 v5 v6 : Option V), σ = [some (.int n), some (.ref c), some (.ref o), some (.ref b), v4, v5, v6, none] ∧ Same H2 H3 ∧ ∀ k, k < s → ∀ i, i < m → frO (btO g n) (2 + k) [i] = none)
      ⟨none, none, none, rfl, Same.refl H2, fun k h => absurd h (Nat.not_lt_zero k)⟩ ?_ ?_
    · rintro s σ H3 hs ⟨v4, v5, v6, rfl, s3, no⟩
      have hs2 : s < 2 := hs
      refine ⟨_, rfl, o, _, rfl, .inl (SqL.of (s3 _ _ eo2)), m, by rw [lqs], by omega, by omega, ?_⟩
      rw [Int.toNat_natCast]
      have e3 : (3 : Int) + (s : Nat) = ((3 + s : Nat) : Int) := by omega
      rw [e3]
      refine for_range (lo := 0) (n := m) (fun i σ H4 => ∃ (v5 v6 : Option V), σ = [some (.int n), some (.ref c), some (.ref o), some (.ref b), some (.int (3 + s : Nat)), v5, v6, none] ∧ Same H2 H4 ∧ ∀ j, j < i → frO (btO g n) (2 + s) [j] = none)
        ⟨_, _, rfl, s3, fun j h => absurd h (Nat.not_lt_zero j)⟩ ?_ ?_
      · rintro i σ H4 hi ⟨v5, v6, rfl, s4, noi⟩
        rw [Int.zero_add]
        refine ⟨_, rfl, by show 1 ≤ sizeLine; decide, fun l nl => ?_⟩
        have sl := same_upd (o := .lst [V.int (i : Nat)]) nl
        have s5 := s4.trans sl
        refine ⟨_, rfl, _, rfl, 2 + s, by omega, l, b, rs, [i], btO g n, 3 + s, rfl, upd_same, SqL.of (s5 _ _ eb2), (hR.same s5).rows, by simp, fun x hx => by rw [List.mem_singleton.mp hx, bl]; exact hi, by show 3 + s = 1 + (2 + s); omega, by omega, fun j x hx => by rw [bl]; exact bw j x hx, by omega, fun h H5 s6 => ?_, fun r h H5 u s6 e6 => ?_⟩
        · refine ⟨_, rfl, rfl, _, rfl, ifF (by rfl) ⟨_, _, rfl, s5.trans s6, fun j hj => ?_⟩⟩
          by_cases c : j < i
          · exact noi j c
          · have : j = i := by omega
            rw [this]
            exact h
        · have hring : g.ring n = some (r.map fun i => W (Uw53.wordsOf g.weights.length n) i) := by
            rw [rok, sh_some hs2 hi no noi h]
            rfl
          obtain ⟨rm, rl⟩ := fr_mem (m := m) bw (2 + s) [i] r (fun x hx => by rw [List.mem_singleton.mp hx]; exact hi) h
          have rl5 : r.length ≤ 10 := by rw [rl]; show 1 + (2 + s) ≤ 10; omega
          have s56 := s5.trans s6
          refine ⟨_, rfl, rfl, _, rfl, ifT (by rfl) ⟨_, rfl, u, rfl, ⟨_, SqL.of e6⟩, fun E nE => ?_⟩⟩
          refine lc_list (K := K) (a := u) (xs := (zi r).map V.int) (fun j H6 => ∃ zs : List Addr, E ∉ zs ∧ Same H5 H6 ∧ H6 E = some (.lst (zs.map V.ref)) ∧ TrAt H6 zs (((r.map fun i => W (Uw53.wordsOf g.weights.length n) i).take j).map zi))
            ⟨[], List.not_mem_nil, same_upd nE, upd_same, rfl, fun i p r h => by cases h⟩ (fun j H6 _ ⟨_, _, s7, _⟩ => s7.seq (SqL.of e6)) ?_ ?_
          · rintro j x H6 hx ⟨zs, nz, s7, eE, hZ⟩
            obtain ⟨zx, gx, rfl⟩ := iv_at hx
            obtain ⟨y, gy, rfl⟩ := zi_get gx
            have hy := rm y (List.mem_of_getElem? gy)
            have hyq : y < qs.length := by rw [List.length_map] at lqs; omega
            have gq : qs[y]? = some qs[y] := List.getElem?_eq_getElem hyq
            have hyw : (Uw53.wordsOf g.weights.length n)[y]? = some (W (Uw53.wordsOf g.weights.length n) y) := by
              unfold W
              rw [List.getD_eq_getElem?_getD, List.getElem?_eq_getElem (by omega)]
              rfl
            have s17 := s2.trans (s56.trans s7)
            have eq7 : H6 qs[y] = some (.lst ((zi (W (Uw53.wordsOf g.weights.length n) y)).map V.int)) := s17 _ _ (hQ.2 y _ _ gq (zis_get hyw))
            have ne : qs[y] ≠ E := by
              intro e
              have := (s2.trans s56) _ _ (hQ.2 y _ _ gq (zis_get hyw))
              rw [e, nE] at this
              cases this
            have zl : zs.length ≤ j := by
              have := hZ.1
              rw [List.length_map, List.length_take] at this
              omega
            have jl : j < r.length := (List.getElem?_eq_some_iff.mp gy).1
            refine ⟨rfl, lc_yes ?_⟩
            refine ⟨_, rfl, _, rfl, o, _, _, V.ref qs[y], rfl, rfl, SqL.of ((s56.trans s7) _ _ eo2), atI_nat (by rw [List.getElem?_map, gq]; rfl), zs.map V.ref, eE, by rw [List.length_map]; exact small1000 (by omega), zs ++ [qs[y]], ?_, same_new s7 nE, ?_, ?_⟩
            · intro h
              rcases List.mem_append.mp h with h | h
              · exact nz h
              · exact ne (List.mem_singleton.mp h).symm
            · rw [upd_same, List.map_append]
              rfl
            · rw [take_more (x := W (Uw53.wordsOf g.weights.length n) y) (by rw [List.getElem?_map, gy]; rfl), List.map_append]
              exact (hZ.upd nz).snoc (by rw [upd_ne ne]; exact eq7)
          · rintro H6 ⟨zs, nz, s7, eE, hZ⟩
            rw [zvl, List.take_of_length_le (by rw [List.length_map]; exact Nat.le_refl _)] at hZ
            exact q2 _ hring H6 E zs (s12.trans (s56.trans s7)) eE hZ
      · rintro σ H4 ⟨v5, v6, rfl, s4, noi⟩
        refine ⟨_, _, _, rfl, s4, fun k hk i hi => ?_⟩
        by_cases c : k < s
        · exact no k c i hi
        · have : k = s := by omega
          rw [this]
          exact noi i hi
    · rintro σ H3 ⟨v4, v5, v6, rfl, s3, no⟩
      exact q1 (by rw [rok, sh_none no]; rfl) H3 (s12.trans s3)
end
end Rt
/-! ### session.py: the object, begin, word -/
namespace Rt
open PySem PySem.Spec PyProof.Rows L2
open Uw53 (Game)
abbrev sInit : Stmt := inClass (top 51) 0
abbrev sBegin : Stmt := inClass (top 51) 1
abbrev sWord : Stmt := inClass (top 51) 2
theorem nwv : ¬ (("weights" : Str) = "words") := by decide +kernel
theorem nvw : ¬ (("words" : Str) = "weights") := by decide +kernel
/-- the attributes of a session -/
def sF (wl l : Addr) : List (Str × V) := [("weights", .ref wl), ("words", .ref l)]
theorem lk_here {k : Str} {v : V} {r : List (Str × V)} : List.lookup k ((k, v) :: r) = some v := by
  have e : (k == k) = true := beq_self_eq_true k
  simp only [List.lookup, e]
theorem lk_past {k g : Str} {v : V} {r : List (Str × V)} (h : (k == g) = false) : List.lookup k ((g, v) :: r) = List.lookup k r := by
  simp only [List.lookup, h]
theorem put_here {f : Str} {v x : V} {r : List (Str × V)} : putF f v ((f, x) :: r) = (f, v) :: r := if_pos rfl
theorem put_past {f g : Str} {v x : V} {r : List (Str × V)} (h : ¬ g = f) : putF f v ((g, x) :: r) = (g, x) :: putF f v r := if_neg h
theorem sF_w (wl l : Addr) : (sF wl l).lookup ("weights" : Str) = some (.ref wl) := lk_here
theorem sF_v (wl l : Addr) : (sF wl l).lookup ("words" : Str) = some (.ref l) := (lk_past (by decide +kernel)).trans lk_here
theorem sF_new (wl l : Addr) : putF "words" (.ref l) (putF "weights" (.ref wl) []) = sF wl l := (put_past (by decide +kernel)).trans rfl
theorem sF_putw (wl l m : Addr) : putF "weights" (.ref m) (sF wl l) = sF m l := put_here
theorem sF_putv (wl l m : Addr) : putF "words" (.ref m) (sF wl l) = sF wl m := (put_past (by decide +kernel)).trans (congrArg _ put_here)
/-- a session at p, its words in the list at l -/
def SessAt (C : Addr) (H : Hp) (p l : Addr) (g : Game) : Prop := ∃ (dx wl : Addr) (ps : List Addr), H p = some (.ins C dx (sF wl l)) ∧ H wl = some (.lst ((zi g.weights).map V.int)) ∧ H l = some (.lst (ps.map V.ref)) ∧ TrAt H ps (g.words.map zi) ∧ wl ≠ l ∧ l ∉ ps
theorem SessAt.same {C : Addr} {H H' : Hp} {p l : Addr} {g : Game} (h : SessAt C H p l g) (s : Same H H') : SessAt C H' p l g := by
  obtain ⟨dx, wl, ps, h1, h2, h3, h4, h5, h6⟩ := h
  exact ⟨dx, wl, ps, s _ _ h1, s _ _ h2, s _ _ h3, h4.same s, h5, h6⟩
/-- the same, and an object that is none of the session's own -/
def SessO (C zo : Addr) (H : Hp) (p l : Addr) (g : Game) : Prop := ∃ (dx wl : Addr) (ps : List Addr), H p = some (.ins C dx (sF wl l)) ∧ H wl = some (.lst ((zi g.weights).map V.int)) ∧ H l = some (.lst (ps.map V.ref)) ∧ TrAt H ps (g.words.map zi) ∧ wl ≠ l ∧ l ∉ ps ∧ (∃ ob, H zo = some ob) ∧ zo ≠ p ∧ zo ≠ l ∧ zo ≠ wl ∧ zo ∉ ps
theorem SessO.same {C zo : Addr} {H H' : Hp} {p l : Addr} {g : Game} (h : SessO C zo H p l g) (s : Same H H') : SessO C zo H' p l g := by
  obtain ⟨dx, wl, ps, h1, h2, h3, h4, h5, h6, ⟨ob, h7⟩, h8⟩ := h
  exact ⟨dx, wl, ps, s _ _ h1, s _ _ h2, s _ _ h3, h4.same s, h5, h6, ⟨ob, s _ _ h7⟩, h8⟩
/-- the other object may change -/
theorem SessO.upd {C zo : Addr} {H : Hp} {p l : Addr} {g : Game} {ob : HO} (h : SessO C zo H p l g) : SessO C zo (L2.upd H zo ob) p l g := by
  obtain ⟨dx, wl, ps, h1, h2, h3, h4, h5, h6, ⟨ob', h7⟩, h8, h9, h10, h11⟩ := h
  exact ⟨dx, wl, ps, by rw [upd_ne (Ne.symm h8)]; exact h1, by rw [upd_ne (Ne.symm h10)]; exact h2, by rw [upd_ne (Ne.symm h9)]; exact h3, h4.upd h11, h5, h6, ⟨_, upd_same⟩, h8, h9, h10, h11⟩
/-- a new object is none of the session's own -/
theorem SessAt.with {C zo : Addr} {H : Hp} {p l : Addr} {g : Game} {ob : HO} (h : SessAt C H p l g) (nz : H zo = none) : SessO C zo (L2.upd H zo ob) p l g := by
  obtain ⟨dx, wl, ps, h1, h2, h3, h4, h5, h6⟩ := h
  have s := same_upd (o := ob) nz
  have ne : ∀ b o, H b = some o → zo ≠ b := fun b o e z => by
    rw [← z, nz] at e
    cases e
  refine ⟨dx, wl, ps, s _ _ h1, s _ _ h2, s _ _ h3, h4.same s, h5, h6, ⟨_, upd_same⟩, ne _ _ h1, ne _ _ h3, ne _ _ h2, fun h => ?_⟩
  obtain ⟨i, hi, e⟩ := List.getElem_of_mem h
  have g1 : ps[i]? = some zo := by rw [List.getElem?_eq_getElem hi, e]
  have hi2 : i < (g.words.map zi).length := by rw [← h4.1]; exact hi
  exact ne _ _ (h4.2 i zo _ g1 (List.getElem?_eq_getElem hi2)) rfl
/-- all but the session's own two objects stands as it was -/
def Keep (H H' : Hp) (p l : Addr) : Prop := ∀ b o, H b = some o → b ≠ p → b ≠ l → H' b = some o
theorem Keep.of {H H' : Hp} {p l : Addr} (s : Same H H') : Keep H H' p l := fun b o h _ _ => s b o h
/-- what a method leaves: the specification's state, and a new list of the specification's answer -/
def Done (C zo : Addr) (H : Hp) (p l : Addr) (Q : VK) (r : Game × Uw53.Ans) : Prop :=
  ∀ (H' : Hp) (l' q : Addr), SessO C zo H' p l' r.1 → (l' = l ∨ H l' = none) → Keep H H' p l → H q = none → H' q = some (.lst ((Uw53Neutral.out r.2).map V.int)) → l' ≠ q → Q (.ref q) H'
/-- what the top has written of the class and the numbers -/
structure Txt (K : PySem.W.Frag) (mg : Str → Option Value) (C : Addr) : Prop where
  cl : Cls K C
  nW : NoAttr K C "weights"
  nV : NoAttr K C "words"
  d : DR K mg
  areW : Def K mg "are_weights" sAreW ["numbers"]
  areL : Def K mg "are_letters" sAreL ["numbers", "weights"]
  isW : Def K mg "is_word" sIsW ["numbers", "weights"]
  cont : Def K mg "is_contained" sCont ["part", "sequence"]
  ent : Def K mg "entangled_word" sEnt ["words", "letters"]
  focc : Def K mg "first_occurrence" sFocc ["words", "sequence"]
  wol : Def K mg "words_of_length" sWol ["length", "letter_count"]
  oll : Def K mg "one_letter_later" sOll ["chances", "moves", "weights"]
  stand : Def K mg "standing" sStand ["words", "weights", "count"]
  cha : Def K mg "chance_against" sCha ["word", "other", "weights"]
  gr : Def K mg "is_greater" sGr ["one", "other"]
  rep : Def K mg "best_reply" sRep ["letters", "weights"]
  btn : Def K mg "beaten_words" sBtn ["words", "weights"]
  fr : Def K mg "first_ring" sFr ["path", "length", "beaten"]
  shr : Def K mg "shortest_ring" sShr ["length", "weights"]
  c1 : Num mg "FEWEST_LETTERS" 2
  c2 : Num mg "MOST_LETTERS" 3
  c3 : Num mg "LEAST_WEIGHT" 1
  c4 : Num mg "GREATEST_WEIGHT" 10
  c5 : Num mg "SHORTEST_WORD" 1
  c6 : Num mg "LONGEST_WORD" 5
  mw : Num mg "MOST_WORDS" 4
  mb : Num mg "MOST_LETTERS_BY" 30
  ma : Num mg "MOST_LETTERS_AFTER" 20
  r1 : Num mg "SHORTEST_IN_RING" 1
  r3 : Num mg "LONGEST_IN_RING" 3
  g3 : Num mg "SHORTEST_RING" 3
  g4 : Num mg "LONGEST_RING" 4
  e1 : Num mg "OUTSIDE_LIMITS" (-1)
  e5 : Num mg "RACE_IS_FULL" (-5)
  e6 : Num mg "WORD_IN_WORD" (-6)
  e7 : Num mg "WORD_HAS_OCCURRED" (-7)
  e11 : Num mg "NOTHING_THERE" (-11)
section
variable {P : Program} {w : World} {K : PySem.W.Frag} {mg : Str → Option Value} {base : Heap} {C : Addr}
/-! ### __init__ -/
def spInit (C : Addr) : Sp := fun vs H Q _ => ∃ (p dx : Addr), vs = [.ref p] ∧ H p = some (.ins C dx []) ∧ ∀ (H' : Hp) (l : Addr), SessAt C H' p l Uw53.init → H l = none → (∀ b o, H b = some o → b ≠ p → H' b = some o) → Q .non H'
theorem scInit : FnScope ["self"] ["self"] (defScope sInit) := ⟨rfl, rfl, rfl, by decide +kernel, rfl, by decide +kernel, by decide +kernel⟩
theorem ok_init {f : Addr} {fd : FuncData} {k : Nat} (F : Fun K "__init__" "Session.__init__" sInit f fd) (T : Txt K mg C) : FnOk P w K mg base CX0 (k + 1) f fd ["self"] (spInit C) := by
  refine F.ok scInit (fun vs H Q E h => ?_) (fun cdv A outer s H vs Q E hr h => ?_)
  · obtain ⟨p, dx, rfl, _⟩ := h
    rfl
  · obtain ⟨p, dx, rfl, hp, k⟩ := h
    refine ⟨_, pss_cons (ps_fld (pv 0) (pe_lst (pa_cons pe_int (pa_cons pe_int pa_nil))) rfl) (pss_one (ps_fld (pv 0) (pe_lst pa_nil) rfl)), ?_⟩
    refine ⟨by show 2 ≤ sizeLine; decide, fun wl nw => ?_⟩
    have pw : p ≠ wl := ne_of_none hp nw
    refine ⟨_, rfl, p, C, dx, [], rfl, (by rw [upd_ne pw]; exact hp), T.cl, T.nW, (by show 0 < 1000; decide), Nat.zero_le _, fun l nl => ?_⟩
    have pl : p ≠ l := fun z => by
      rw [← z, upd_same] at nl
      cases nl
    have wll : wl ≠ l := fun z => by
      rw [← z, upd_ne (Ne.symm pw), upd_same] at nl
      cases nl
    have nl0 : H l = none := by
      rw [upd_ne (Ne.symm pl), upd_ne (Ne.symm wll)] at nl
      exact nl
    refine ⟨_, rfl, p, C, dx, _, rfl, (by rw [upd_ne pl, upd_same]), T.cl, T.nV, (by show 1 < 1000; decide), ?_⟩
    refine k _ l ⟨dx, wl, [], Eq.trans upd_same (congrArg (fun q => some (HO.ins C dx q)) (sF_new wl l)), ?_, ?_, ⟨rfl, fun i p r h => by cases h⟩, wll, List.not_mem_nil⟩ nl0 fun b o e nb => ?_
    · rw [upd_ne (Ne.symm pw), upd_ne wll, upd_ne (Ne.symm pw), upd_same]
      rfl
    · rw [upd_ne (Ne.symm pl), upd_same]
      rfl
    · rw [upd_ne nb, upd_ne (ne_of_none e nl0), upd_ne nb, upd_ne (ne_of_none e nw)]
      exact e
/-! ### begin -/
theorem begin_step (g : Game) (u : List Nat) : Uw53.step g (.begins u) = if areW u = true then (⟨u, []⟩, Uw53.ok (u.sum : Nat)) else (g, Uw53.ok (-1)) := by
  have ht : Uw53.total u = u.sum := by
    have key : ∀ (l : List Nat) (a : Nat), l.foldl (fun a b => a + b) a = a + l.sum := by
      intro l
      induction l with
      | nil => intro a; rfl
      | cons x l ih => intro a; rw [List.foldl_cons, ih, List.sum_cons]; omega
    show u.foldl (fun a b => a + b) 0 = _
    rw [key]; omega
  show (if u.length < 2 ∨ 3 < u.length ∨ u.any (fun x => decide (x < 1) || decide (10 < x)) = true then (g, Uw53.ok (-1)) else (⟨u, []⟩, Uw53.ok (Uw53.total u : Nat))) = _
  rw [ht]
  have e : (u.all fun x => decide (1 ≤ x) && decide (x ≤ 10)) = !(u.any fun x => decide (x < 1) || decide (10 < x)) := by
    rw [List.all_eq_not_any_not]
    congr 2
    funext x
    have e1 : decide (1 ≤ x) = !decide (x < 1) := by
      by_cases h : x < 1
      · rw [decide_eq_true h, decide_eq_false (by omega)]; rfl
      · rw [decide_eq_false h, decide_eq_true (by omega)]; rfl
    have e2 : decide (x ≤ 10) = !decide (10 < x) := by
      by_cases h : 10 < x
      · rw [decide_eq_true h, decide_eq_false (by omega)]; rfl
      · rw [decide_eq_false h, decide_eq_true (by omega)]; rfl
    rw [e1, e2, Bool.not_and, Bool.not_not, Bool.not_not]
  unfold areW
  rw [e]
  by_cases h1 : u.length < 2
  · rw [if_pos (Or.inl h1), decide_eq_false (by omega), Bool.false_and, if_neg Bool.false_ne_true]
  · by_cases h2 : 3 < u.length
    · rw [if_pos (Or.inr (Or.inl h2)), decide_eq_false (show ¬ u.length ≤ 3 by omega), Bool.false_and, Bool.and_false, if_neg Bool.false_ne_true]
    · rw [decide_eq_true (by omega), decide_eq_true (by omega), Bool.true_and, Bool.true_and]
      cases h3 : u.any (fun x => decide (x < 1) || decide (10 < x)) with
      | true => rw [if_pos (Or.inr (Or.inr rfl))]; rfl
      | false => rw [if_neg (by rintro (h | h | h) <;> first | omega | cases h)]; rfl
def spBegin (K : PySem.W.Frag) (C : Addr) : Sp := fun vs H Q _ => ∃ (p a l zo : Addr) (u : List Nat) (g : Game), vs = [.ref p, .ref a] ∧ SessO C zo H p l g ∧ SqL K H a ((zi u).map V.int) ∧ Done C zo H p l Q (Uw53.step g (.begins u))
theorem scBegin : FnScope ["self", "weights"] ["self", "weights"] (defScope sBegin) := ⟨rfl, rfl, rfl, by decide +kernel, rfl, by decide +kernel, by decide +kernel⟩
theorem ok_begin {f : Addr} {fd : FuncData} {k : Nat} (F : Fun K "begin" "Session.begin" sBegin f fd) (T : Txt K mg C) :
    FnOk P w K mg base CX0 (k + 2) f fd ["self", "weights"] (spBegin K C) := by
  obtain ⟨fW, fdW, FW, bW, gW⟩ := T.areW
  have GW : FnOk P w K mg base CX0 (k + 1) fW fdW ["numbers"] (spAreW K) := ok_areW FW T.c1 T.c2 T.c3 T.c4 T.d.len T.d.all
  obtain ⟨t1, e1⟩ := T.e1
  refine F.ok scBegin (fun vs H Q E h => ?_) (fun cdv A outer s H vs Q E hr h => ?_)
  · obtain ⟨p, a, l, zo, u, g, rfl, _⟩ := h
    rfl
  · obtain ⟨p, a, l, zo, u, g, rfl, hS, hA, q⟩ := h
    refine ⟨_, pss_cons (ps_if (pt_not (pt_val (pe_call GW hr (by rfl) gW FW.kp bW .nil pass0 (pa_cons (pv 1) pa_nil)))) (pss_one (ps_ret (pe_lst (pa_cons (pe_glob (v := .int (-1)) rfl e1 ⟨_, rfl⟩) pa_nil)))) pss_nil)
      (pss_cons (ps_fld (pv 0) (pe_callTy call_list_of (by rfl) T.d.list (by decide +kernel) (pa_cons (pv 1) pa_nil)) rfl)
      (pss_cons (ps_fld (pv 0) (pe_lst pa_nil) rfl)
      (pss_one (ps_ret (pe_lst (pa_cons (pe_callB (cr_sum rfl) (by rfl) T.d.sum (by decide +kernel) (pa_cons (pv 1) pa_nil)) pa_nil)))))), ?_⟩
    rw [begin_step] at q
    refine ⟨_, rfl, a, u, rfl, hA, fun H1 s1 => ⟨_, rfl, ?_⟩⟩
    cases hw : areW u with
    | false =>
      refine iteT ⟨by show 1 ≤ sizeLine; decide, fun r nr => ?_⟩
      rw [hw, if_neg Bool.false_ne_true] at q
      have s2 := s1.trans (same_upd (o := .lst [V.int (-1)]) nr)
      obtain ⟨dx, wl, ps, h1, h2, h3, h4, h5, h6, ⟨ob, h7⟩, z1, z2, z3, z4⟩ := id hS
      refine q _ l r (hS.same s2) (Or.inl rfl) (Keep.of s2) (s1.free nr) upd_same ?_
      exact ne_of_none (s1 _ _ h3) nr
    | true =>
      refine iteF ?_
      rw [hw, if_pos rfl] at q
      obtain ⟨dx, wl, ps, h1, h2, h3, h4, h5, h6, ⟨ob, h7⟩, z1, z2, z3, z4⟩ := id hS
      -- self.weights = list(weights)
      refine ⟨_, rfl, a, _, rfl, .inl (s1.seq hA), fun m nm => ?_⟩
      have pm : p ≠ m := ne_of_none (s1 _ _ h1) nm
      refine ⟨_, rfl, p, C, dx, _, rfl, (by rw [upd_ne pm]; exact s1 _ _ h1), T.cl, T.nW, (by show 2 < 1000; decide), ?_⟩
      -- self.words = []
      refine ⟨Nat.zero_le _, fun n nn => ?_⟩
      have pn : p ≠ n := fun z => by
        rw [← z, upd_same] at nn
        cases nn
      have mn : m ≠ n := fun z => by
        rw [← z, upd_ne (Ne.symm pm), upd_same] at nn
        cases nn
      have nn1 : H1 n = none := by
        rw [upd_ne (Ne.symm pn), upd_ne (Ne.symm mn)] at nn
        exact nn
      refine ⟨_, rfl, p, C, dx, _, rfl, (by rw [upd_ne pn, upd_same]), T.cl, T.nV, (by show 2 < 1000; decide), ?_⟩
      -- return [sum(weights)]
      have sA : ∀ b o, H1 b = some o → b ≠ p → (upd (upd (upd (upd H1 m (.lst ((zi u).map V.int))) p (.ins C dx (putF "weights" (.ref m) (sF wl l)))) n (.lst [])) p (.ins C dx (putF "words" (.ref n) (putF "weights" (.ref m) (sF wl l))))) b = some o := fun b o e nb => by
        rw [upd_ne nb, upd_ne (ne_of_none e nn1), upd_ne nb, upd_ne (ne_of_none e nm)]
        exact e
      have sqA : SqL K (upd (upd (upd (upd H1 m (.lst ((zi u).map V.int))) p (.ins C dx (putF "weights" (.ref m) (sF wl l)))) n (.lst [])) p (.ins C dx (putF "words" (.ref n) (putF "weights" (.ref m) (sF wl l))))) a ((zi u).map V.int) := by
        rcases s1.seq hA with (h | ⟨o, h⟩) | h
        · exact .inl (.inl (sA _ _ h (fun z => by rw [z, s1 _ _ h1] at h; cases h)))
        · exact .inl (.inr ⟨o, sA _ _ h (fun z => by rw [z, s1 _ _ h1] at h; cases h)⟩)
        · exact .inr h
      refine ⟨_, rfl, a, zi u, rfl, sqA, by show 1 ≤ sizeLine; decide, fun r nr => ?_⟩
      rw [zi_sum]
      have nr1 : H1 r = none := by
        cases e : H1 r with
        | none => rfl
        | some o =>
          by_cases c : r = p
          · rw [c, upd_same] at nr
            cases nr
          · rw [sA _ _ e c] at nr
            cases nr
      have pr : p ≠ r := fun z => by
        rw [← z, upd_same] at nr
        cases nr
      have nrn : n ≠ r := fun z => by
        rw [← z, upd_ne (Ne.symm pn), upd_same] at nr
        cases nr
      have mr : m ≠ r := fun z => by
        rw [← z, upd_ne (Ne.symm pm), upd_ne mn, upd_ne (Ne.symm pm), upd_same] at nr
        cases nr
      refine q _ n r ⟨dx, m, [], ?_, ?_, ?_, ⟨rfl, fun i p r h => by cases h⟩, mn, List.not_mem_nil, ⟨ob, (upd_ne (ne_of_none (s1 _ _ h7) nr1)).trans (sA _ _ (s1 _ _ h7) z1)⟩, z1, ne_of_none (s1 _ _ h7) nn1, ne_of_none (s1 _ _ h7) nm, List.not_mem_nil⟩ (Or.inr (s1.free nn1)) (fun b o e nb _ => ?_) (s1.free nr1) ?_ nrn
      · rw [upd_ne pr, upd_same, sF_putw, sF_putv]
      · rw [upd_ne mr, upd_ne (Ne.symm pm), upd_ne mn, upd_ne (Ne.symm pm), upd_same]
      · rw [upd_ne nrn, upd_ne (Ne.symm pn), upd_same]
        rfl
      · rw [upd_ne (ne_of_none (s1 _ _ e) nr1)]
        exact sA _ _ (s1 _ _ e) nb
      · rw [upd_same]
        rfl
end
end Rt
/-! ### session.py: word -/
namespace Rt
open PySem PySem.Spec PyProof.Rows L2
open Uw53 (Game)
theorem isW_fine (g : Game) (u : List Nat) : isW g.weights.length u = g.fine u := rfl
theorem word_step (g : Game) (u : List Nat) : Uw53.step g (.word u) = if isW g.weights.length u = false then (g, Uw53.ok (-1)) else match clash g.words u with
    | some i => (g, ⟨-6, [(i : Int)]⟩)
    | none => if 4 ≤ g.words.length then (g, Uw53.ok (-5)) else ({ g with words := g.words ++ [u] }, Uw53.ok (g.words.length : Nat)) := rfl
section
variable {P : Program} {w : World} {K : PySem.W.Frag} {mg : Str → Option Value} {base : Heap} {C : Addr}
def spWord (K : PySem.W.Frag) (C : Addr) : Sp := fun vs H Q _ => ∃ (p a l zo : Addr) (u : List Nat) (g : Game), vs = [.ref p, .ref a] ∧ SessO C zo H p l g ∧ SqL K H a ((zi u).map V.int) ∧ u.length ≤ 1000 ∧ g.words.length ≤ 4 ∧ (∀ v, v ∈ g.words → v.length ≤ 1000) ∧ Done C zo H p l Q (Uw53.step g (.word u))
theorem scWord : FnScope ["self", "letters", "entangled"] ["self", "letters"] (defScope sWord) := ⟨rfl, rfl, rfl, by decide +kernel, rfl, by decide +kernel, by decide +kernel⟩
theorem ok_word {f : Addr} {fd : FuncData} {k : Nat} (F : Fun K "word" "Session.word" sWord f fd) (T : Txt K mg C) :
    FnOk P w K mg base CX0 (k + 4) f fd ["self", "letters"] (spWord K C) := by
  obtain ⟨fE, fdE, FE, bE, gE⟩ := T.d.ends
  obtain ⟨fI, fdI, FI, bI, gI⟩ := T.isW
  obtain ⟨fL, fdL, FL, bL, gL⟩ := T.areL
  obtain ⟨fT, fdT, FT, bT, gT⟩ := T.ent
  obtain ⟨fC, fdC, FC, bC, gC⟩ := T.cont
  have GI : FnOk P w K mg base CX0 (k + 3) fI fdI ["numbers", "weights"] (spIsW K) := ok_isW (k := k + 1) FI FL bL gL T.c5 T.c6 T.d.len T.d.all
  have GT : FnOk P w K mg base CX0 (k + 3) fT fdT ["words", "letters"] (spEnt K) := ok_ent FT FC bC gC FE bE gE T.d.len T.d.enum T.d.range
  obtain ⟨t1, e1⟩ := T.e1
  obtain ⟨t5, e5⟩ := T.e5
  obtain ⟨t6, e6⟩ := T.e6
  obtain ⟨tm, em⟩ := T.mw
  refine F.ok scWord (fun vs H Q E h => ?_) (fun cdv A outer s H vs Q E hr h => ?_)
  · obtain ⟨p, a, l, zo, u, g, rfl, _⟩ := h
    rfl
  · obtain ⟨p, a, l, zo, u, g, rfl, hS, hA, hu, hw4, hwl, q⟩ := h
    refine ⟨_, pss_cons (ps_if (pt_not (pt_val (pe_call GI hr (by rfl) gI FI.kp bI .nil pass0 (pa_cons (pv 1) (pa_cons (pe_fld (pv 0) rfl) pa_nil))))) (pss_one (ps_ret (pe_lst (pa_cons (pe_glob (v := .int (-1)) rfl e1 ⟨_, rfl⟩) pa_nil)))) pss_nil)
      (pss_cons (ps_set (i := 2) scWord.nd rfl (.inl rfl) (pe_call GT hr (by rfl) gT FT.kp bT .nil pass0 (pa_cons (pe_fld (pv 0) rfl) (pa_cons (pv 1) pa_nil))))
      (pss_cons (ps_if (pt_cmpR op_notN (pv 2) pe_non (nomark _)) (pss_one (ps_ret (pe_lst (pa_cons (pe_glob (v := .int (-6)) rfl e6 ⟨_, rfl⟩) (pa_cons (pv 2) pa_nil))))) pss_nil)
      (pss_cons (ps_if (pt_cmpR op_eq (pe_callB call_len_seq (by rfl) T.d.len PySem.boot_len (pa_cons (pe_fld (pv 0) rfl) pa_nil)) (pe_glob (v := .int 4) rfl em ⟨_, rfl⟩) (nomark _)) (pss_one (ps_ret (pe_lst (pa_cons (pe_glob (v := .int (-5)) rfl e5 ⟨_, rfl⟩) pa_nil)))) pss_nil)
      (pss_cons (ps_expr (pe_bm PySem.F.plainAttrs_list PySem.F.slot_list_append PySem.F.type_list_append mt_append (pe_fld (pv 0) rfl) (pa_cons (pe_callTy call_list_of (by rfl) T.d.list (by decide +kernel) (pa_cons (pv 1) pa_nil)) pa_nil)))
      (pss_one (ps_ret (pe_lst (pa_cons (pe_op op_sub (pe_callB call_len_seq (by rfl) T.d.len PySem.boot_len (pa_cons (pe_fld (pv 0) rfl) pa_nil)) pe_int) pa_nil)))))))), ?_⟩
    rw [word_step] at q
    obtain ⟨dx, wl, ps, h1, h2, h3, h4, h5, h6, ⟨ob, h7⟩, z1, z2, z3, z4⟩ := id hS
    have lz : ((zi g.weights).map V.int).length = g.weights.length := by rw [List.length_map, zi_len]
    refine ⟨_, rfl, _, rfl, p, C, dx, _, _, rfl, h1, T.cl, T.nW, sF_w _ _, a, wl, u, _, rfl, hA, SqL.of h2, fun H1 s1 => ⟨_, rfl, ?_⟩⟩
    rw [lz]
    cases hw : isW g.weights.length u with
    | false =>
      refine iteT ⟨by show 1 ≤ sizeLine; decide, fun r nr => ?_⟩
      rw [if_pos hw] at q
      have s2 := s1.trans (same_upd (o := .lst [V.int (-1)]) nr)
      exact q _ l r (hS.same s2) (Or.inl rfl) (Keep.of s2) (s1.free nr) upd_same (ne_of_none (s1 _ _ h3) nr)
    | true =>
      refine iteF ?_
      rw [if_neg (by rw [hw]; exact fun h => Bool.noConfusion h)] at q
      -- entangled = entangled_word(self.words, letters)
      refine ⟨_, rfl, p, C, dx, _, _, rfl, s1 _ _ h1, T.cl, T.nV, sF_v _ _, _, rfl, l, a, ps, g.words, u, rfl, SqL.of (s1 _ _ h3), (h4.same s1).rows, s1.seq hA, hu, hwl, fun H2 s2' => ?_⟩
      have s2 := s1.trans s2'
      cases hc : clash g.words u with
      | some i =>
        rw [hc] at q
        refine ⟨_, rfl, rfl, _, rfl, ifT (by rfl) ⟨_, rfl, by show 2 ≤ sizeLine; decide, fun r nr => ?_⟩⟩
        have s3 := s2.trans (same_upd (o := .lst [V.int (-6), V.int (i : Nat)]) nr)
        exact q _ l r (hS.same s3) (Or.inl rfl) (Keep.of s3) (s2.free nr) upd_same (ne_of_none (s2 _ _ h3) nr)
      | none =>
        rw [hc] at q
        refine ⟨_, rfl, rfl, _, rfl, ifF (by rfl) ?_⟩
        have lp : (ps.map V.ref).length = g.words.length := by rw [List.length_map, h4.1, List.length_map]
        -- if len(self.words) == MOST_WORDS
        refine ⟨_, rfl, p, C, dx, _, _, rfl, s2 _ _ h1, T.cl, T.nV, sF_v _ _, l, _, rfl, .inl (SqL.of (s2 _ _ h3)), rfl, _, rfl, ite2 (fun e => ?_) (fun e => ?_)⟩
        · have e1 : (((ps.map V.ref).length : Nat) : Int) = 4 := V.int.inj (of_decide_eq_true e)
          rw [lp] at e1
          have e2 : 4 ≤ g.words.length := by omega
          have q2 : Done C zo H p l Q (g, Uw53.ok (-5)) := by
            have : (if 4 ≤ g.words.length then (g, Uw53.ok (-5)) else ({ g with words := g.words ++ [u] }, Uw53.ok (g.words.length : Nat))) = (g, Uw53.ok (-5)) := if_pos e2
            rw [← this]
            exact q
          refine ⟨by show 1 ≤ sizeLine; decide, fun r nr => ?_⟩
          have s3 := s2.trans (same_upd (o := .lst [V.int (-5)]) nr)
          exact q2 _ l r (hS.same s3) (Or.inl rfl) (Keep.of s3) (s2.free nr) upd_same (ne_of_none (s2 _ _ h3) nr)
        · have e1 : ¬ (((ps.map V.ref).length : Nat) : Int) = 4 := fun z => e (decide_eq_true (congrArg V.int z))
          rw [lp] at e1
          have e2 : ¬ 4 ≤ g.words.length := by omega
          have q2 : Done C zo H p l Q ({ g with words := g.words ++ [u] }, Uw53.ok (g.words.length : Nat)) := by
            have : (if 4 ≤ g.words.length then (g, Uw53.ok (-5)) else ({ g with words := g.words ++ [u] }, Uw53.ok (g.words.length : Nat))) = ({ g with words := g.words ++ [u] }, Uw53.ok (g.words.length : Nat)) := if_neg e2
            rw [← this]
            exact q
          -- self.words.append(list(letters))
          refine ⟨_, rfl, p, C, dx, _, _, rfl, s2 _ _ h1, T.cl, T.nV, sF_v _ _, .inl ⟨rfl, _, SqL.of (s2 _ _ h3)⟩, _, rfl, a, _, rfl, .inl (s2.seq hA), fun m nm => ?_⟩
          have lm : l ≠ m := ne_of_none (s2 _ _ h3) nm
          have pm : p ≠ m := ne_of_none (s2 _ _ h1) nm
          have pl : p ≠ l := ne_of h1 h3 (by intro z; cases z)
          refine ⟨l, _, _, rfl, rfl, by rw [upd_ne lm]; exact s2 _ _ h3, by rw [lp]; exact small1000 (by omega), ?_⟩
          have s3 := s2.trans (same_upd (o := .lst ((zi u).map V.int)) nm)
          -- return [len(self.words) - 1]
          refine ⟨_, rfl, p, C, dx, _, _, rfl, by rw [upd_ne pl]; exact s3 _ _ h1, T.cl, T.nV, sF_v _ _, l, _, rfl, .inl (SqL.of upd_same), _, _, rfl, rfl, by show 1 ≤ sizeLine; decide, fun r nr => ?_⟩
          have el : (((ps.map V.ref ++ [V.ref m]).length : Nat) : Int) - 1 = ((g.words.length : Nat) : Int) := by rw [List.length_append, lp, List.length_singleton]; omega
          have lr : l ≠ r := fun z => by
            rw [← z, upd_same] at nr
            cases nr
          have nr3 : (upd H2 m (.lst ((zi u).map V.int))) r = none := by
            rw [upd_ne (Ne.symm lr)] at nr
            exact nr
          have big : ∀ b o, H b = some o → b ≠ l → (upd (upd (upd H2 m (.lst ((zi u).map V.int))) l (.lst (ps.map V.ref ++ [V.ref m]))) r (.lst [V.int ((((ps.map V.ref ++ [V.ref m]).length : Nat) : Int) - 1)])) b = some o := fun b o e nb => by
            rw [upd_ne (ne_of_none (s3 _ _ e) nr3), upd_ne nb]
            exact s3 _ _ e
          refine q2 _ l r ⟨dx, wl, ps ++ [m], big _ _ h1 pl, big _ _ h2 h5, ?_, ?_, h5, ?_, ⟨ob, big _ _ h7 z2⟩, z1, z2, z3, fun h => (List.mem_append.mp h).elim z4 fun h => ne_of_none (s2 _ _ h7) nm (List.mem_singleton.mp h)⟩ (Or.inl rfl) (fun b o e _ nb => big b o e nb) (s3.free nr3) ?_ lr
          · rw [upd_ne lr, upd_same, List.map_append]
            rfl
          · rw [List.map_append]
            refine TrAt.snoc (r := zi u) ⟨h4.1, fun i pp rr g1 g2 => big _ _ (h4.2 i pp rr g1 g2) fun z => h6 (z ▸ List.mem_of_getElem? g1)⟩ ?_
            rw [upd_ne (fun z => by rw [← z, upd_same] at nr3; cases nr3), upd_ne (Ne.symm lm), upd_same]
          · intro h
            rcases List.mem_append.mp h with h | h
            · exact h6 h
            · exact lm (List.mem_singleton.mp h)
          · rw [upd_same]
            show some (HO.lst [V.int ((((ps.map V.ref ++ [V.ref m]).length : Nat) : Int) - 1)]) = _
            rw [el]
            rfl
end
end Rt
/-! ### session.py: wait, first, by, after, reply, ring -/
namespace Rt
open PySem PySem.Spec PyProof.Rows L2
open Uw53 (Game)
abbrev sWait : Stmt := inClass (top 51) 3
abbrev sFirst : Stmt := inClass (top 51) 4
abbrev sBy : Stmt := inClass (top 51) 5
abbrev sAfter : Stmt := inClass (top 51) 6
abbrev sReply : Stmt := inClass (top 51) 7
abbrev sRing : Stmt := inClass (top 51) 8
theorem done_keep {C zo : Addr} {H H' : Hp} {p l r : Addr} {Q : VK} {g : Game} {a : Uw53.Ans} (hS : SessO C zo H p l g) (q : Done C zo H p l Q (g, a)) (s : Same H H') (nr : H r = none) (er : H' r = some (.lst ((Uw53Neutral.out a).map V.int))) : Q (.ref r) H' := by
  obtain ⟨dx, wl, ps, h1, h2, h3, h4, h5, h6⟩ := id hS
  exact q _ l r (hS.same s) (Or.inl rfl) (Keep.of s) nr er (ne_of_none h3 nr)
/-- every word has a sound number of letters -/
theorem Sound.words {g : Game} (h : Rw.Sound g) : g.words.length ≤ 4 ∧ ∀ v, v ∈ g.words → v.length ≤ 1000 := ⟨h.n4, fun v hv => by have := (Rw.fine_iff.mp (h.fine v hv)).2.1; omega⟩
theorem wait_step (g : Game) (u : List Nat) : Uw53.step g (.wait u) = if isW g.weights.length u = false then (g, Uw53.ok (-1)) else (g, ⟨0, (g.pays u u).told⟩) := rfl
theorem reply_step (g : Game) (u : List Nat) : Uw53.step g (.reply u) = if isW g.weights.length u = false then (g, Uw53.ok (-1)) else (g, match g.reply u with
    | some x => ⟨0, x.2.told ++ Uw53.ints x.1⟩
    | none => Uw53.ok (-11)) := rfl
theorem race_none (g : Game) : g.race [] [] = none := rfl
theorem first_step (g : Game) : Uw53.step g .first = (g, match g.race g.words [] with
    | some r => ⟨(g.words.length : Nat), r.told⟩
    | none => Uw53.ok (-11)) := rfl
theorem by_step (g : Game) (n : Nat) : Uw53.step g (.by_ n) = if 30 < n then (g, Uw53.ok (-1)) else if g.words = [] then (g, Uw53.ok (-11)) else (g, ⟨(g.words.length : Nat), (Uw53.frac (g.open_ g.words n : Int) (g.all ^ n)).told ++ (g.far g.words n).done.flatMap fun (k : Nat) => (Uw53.frac (k : Int) (g.all ^ n)).told⟩) := rfl
theorem after_step (g : Game) (u : List Nat) : Uw53.step g (.after u) = if 20 < u.length ∨ lets g.weights.length u = false then (g, Uw53.ok (-1)) else if g.words = [] then (g, Uw53.ok (-11)) else match Uw53.came g.words u with
    | some x => (g, ⟨-7, Uw53.ints [x.1, x.2]⟩)
    | none => (g, match g.race g.words u with
      | some r => ⟨(g.words.length : Nat), r.told⟩
      | none => Uw53.ok (-11)) := rfl
theorem ring_step (g : Game) (n : Nat) : Uw53.step g (.ring n) = if n < 1 ∨ 3 < n then (g, Uw53.ok (-1)) else (g, match g.ring n with
    | some r => ⟨(r.length : Nat), Uw53.ints (r.flatMap fun w => w)⟩
    | none => Uw53.ok (-11)) := rfl
theorem clean_came {ws : List (List Nat)} {u : List Nat} (h : Uw53.came ws u = none) : Rw.Clean ws u := by
  intro i hi hf
  obtain ⟨s, t, e⟩ := hf
  unfold Uw53.came at h
  have h1 := List.findSome?_eq_none_iff.mp h (s ++ Rw.W ws i).length (List.mem_range.mpr (by rw [← e, List.length_append (bs := t)]; omega))
  have h2 : u.take (s ++ Rw.W ws i).length = s ++ Rw.W ws i := by rw [← e]; exact List.take_left' rfl
  rw [h2] at h1
  cases c : Uw53.ended ws (s ++ Rw.W ws i) with
  | some x => rw [c] at h1; cases h1
  | none => exact Rw.ended_none.mp c i hi (List.suffix_append _ _)
theorem outc_race {g : Game} {ws : List (List Nat)} {u : List Nat} (fit : Fit g ws u) : ∃ r, g.race ws u = some r ∧ r.told = outc g ws u := by
  obtain ⟨_, _, _, _, _, _, _, _, r, h1, _, h3⟩ := outc_ok fit.pos fit.ne fit.t30 fit.free fit.lets fit.some_ (fit_states fit) fit.clean
  exact ⟨r, h1, h3⟩
section
variable {P : Program} {w : World} {K : PySem.W.Frag} {mg : Str → Option Value} {base : Heap} {C : Addr}
/-! ### wait -/
def spWait (K : PySem.W.Frag) (C : Addr) : Sp := fun vs H Q _ => ∃ (p a l zo : Addr) (u : List Nat) (g : Game), vs = [.ref p, .ref a] ∧ SessO C zo H p l g ∧ SqL K H a ((zi u).map V.int) ∧ Rw.Sound g ∧ Done C zo H p l Q (Uw53.step g (.wait u))
theorem scWait : FnScope ["self", "letters"] ["self", "letters"] (defScope sWait) := ⟨rfl, rfl, rfl, by decide +kernel, rfl, by decide +kernel, by decide +kernel⟩
theorem ok_wait {f : Addr} {fd : FuncData} {k : Nat} (F : Fun K "wait" "Session.wait" sWait f fd) (T : Txt K mg C) : FnOk P w K mg base CX0 (k + 6) f fd ["self", "letters"] (spWait K C) := by
  obtain ⟨fI, fdI, FI, bI, gI⟩ := T.isW
  obtain ⟨fL, fdL, FL, bL, gL⟩ := T.areL
  obtain ⟨fO, fdO, FO, bO, gO⟩ := T.d.outc
  have GI : FnOk P w K mg base CX0 (k + 5) fI fdI ["numbers", "weights"] (spIsW K) := ok_isW (k := k + 3) FI FL bL gL T.c5 T.c6 T.d.len T.d.all
  have GO : FnOk P w K mg base CX0 (k + 5) fO fdO ["words", "weights", "drawn"] (spOutc K) := ok_outc FO T.d
  obtain ⟨t1, e1⟩ := T.e1
  refine F.ok scWait (fun vs H Q E h => ?_) (fun cdv A outer s H vs Q E hr h => ?_)
  · obtain ⟨p, a, l, zo, u, g, rfl, _⟩ := h
    rfl
  · obtain ⟨p, a, l, zo, u, g, rfl, hS, hA, sd, q⟩ := h
    refine ⟨_, pss_cons (ps_if (pt_not (pt_val (pe_call GI hr (by rfl) gI FI.kp bI .nil pass0 (pa_cons (pv 1) (pa_cons (pe_fld (pv 0) rfl) pa_nil))))) (pss_one (ps_ret (pe_lst (pa_cons (pe_glob (v := .int (-1)) rfl e1 ⟨_, rfl⟩) pa_nil)))) pss_nil)
      (pss_one (ps_ret (pe_op op_cat (pe_lst (pa_cons pe_int pa_nil)) (pe_slice sl_list (pe_call GO hr (by rfl) gO FO.kp bO .nil pass0 (pa_cons (pe_lst (pa_cons (pv 1) pa_nil)) (pa_cons (pe_fld (pv 0) rfl) (pa_cons (pe_lst pa_nil) pa_nil)))) po_none (po_some pe_int))))), ?_⟩
    rw [wait_step] at q
    obtain ⟨dx, wl, ps, h1, h2, h3, h4, h5, h6⟩ := id hS
    refine ⟨_, rfl, _, rfl, p, C, dx, _, _, rfl, h1, T.cl, T.nW, sF_w _ _, a, wl, u, _, rfl, hA, SqL.of h2, fun H1 s1 => ⟨_, rfl, ?_⟩⟩
    rw [zvl]
    cases hw : isW g.weights.length u with
    | false =>
      refine iteT ⟨by show 1 ≤ sizeLine; decide, fun r nr => ?_⟩
      rw [if_pos hw] at q
      exact done_keep hS q (s1.trans (same_upd nr)) (s1.free nr) upd_same
    | true =>
      refine iteF ?_
      rw [if_neg (by rw [hw]; exact fun h => Bool.noConfusion h)] at q
      refine ⟨by show 1 ≤ sizeLine; decide, fun z nz => ⟨_, rfl, by show 1 ≤ sizeLine; decide, fun b nb => ?_⟩⟩
      have sz := same_upd (o := .lst [V.int 0]) nz
      have sb := same_upd (o := .lst [V.ref a]) nb
      have s2 := s1.trans (sz.trans sb)
      refine ⟨_, rfl, p, C, dx, _, _, rfl, s2 _ _ h1, T.cl, T.nW, sF_w _ _, Nat.zero_le _, fun n nn => ?_⟩
      have sn := same_upd (o := .lst []) nn
      have s3 := s2.trans sn
      refine ⟨b, wl, n, [a], g, [u], [], rfl, SqL.of (sn _ _ upd_same), ⟨rfl, fun i p r g1 g2 => ?_⟩, SqL.of (s3 _ _ h2), SqL.of upd_same, fit_one sd hw, fun H2 t s4 nt et => ?_⟩
      · match i, g1, g2 with
        | 0, g1, g2 =>
          have e1 : a = p := Option.some.inj g1
          have e2 : zi u = r := Option.some.inj g2
          subst e1 e2
          exact s3.seq hA
      · have ol := outc_len g [u] []
        refine ⟨_, rfl, t, _, rfl, SqL.of et, fun y ny => ?_⟩
        have e2 : cutV ((outc g [u] []).map V.int) none (some (2 : Int)) = ((g.pays u u).told).map V.int := by
          rw [show (2 : Int) = ((2 : Nat) : Int) from rfl, cut_head _ _ (by rw [List.length_map, ol]; show 2 ≤ 4; decide), ← List.map_take, outc_one sd hw]
        rw [e2]
        have sy := same_upd (o := .lst ((g.pays u u).told.map V.int)) ny
        have s34 := sb.trans (sn.trans s4)
        refine ⟨z, y, _, _, rfl, rfl, sy _ _ (s34 _ _ upd_same), upd_same, ?_, fun r nr => ?_⟩
        · show 1 + 2 ≤ sizeLine
          decide
        · exact done_keep hS q (s3.trans (s4.trans (sy.trans (same_upd nr)))) ((s3.trans (s4.trans sy)).free nr) upd_same
/-! ### first -/
def spFirst (K : PySem.W.Frag) (C : Addr) : Sp := fun vs H Q _ => ∃ (p l zo : Addr) (g : Game), vs = [.ref p] ∧ SessO C zo H p l g ∧ Rw.Sound g ∧ Done C zo H p l Q (Uw53.step g .first)
theorem scFirst : FnScope ["self"] ["self"] (defScope sFirst) := ⟨rfl, rfl, rfl, by decide +kernel, rfl, by decide +kernel, by decide +kernel⟩
theorem words_nil {g : Game} {ps : List Addr} {H : Hp} (h : TrAt H ps (g.words.map zi)) : (ps.map V.ref).length = g.words.length := by rw [List.length_map, h.1, List.length_map]
theorem ok_first {f : Addr} {fd : FuncData} {k : Nat} (F : Fun K "first" "Session.first" sFirst f fd) (T : Txt K mg C) : FnOk P w K mg base CX0 (k + 6) f fd ["self"] (spFirst K C) := by
  obtain ⟨fO, fdO, FO, bO, gO⟩ := T.d.outc
  have GO : FnOk P w K mg base CX0 (k + 5) fO fdO ["words", "weights", "drawn"] (spOutc K) := ok_outc FO T.d
  have ml := T.d.len
  obtain ⟨t1, e1⟩ := T.e11
  refine F.ok scFirst (fun vs H Q E h => ?_) (fun cdv A outer s H vs Q E hr h => ?_)
  · obtain ⟨p, l, zo, g, rfl, _⟩ := h
    rfl
  · obtain ⟨p, l, zo, g, rfl, hS, sd, q⟩ := h
    refine ⟨_, pss_cons (ps_if (pt_cmpR op_eq (pe_callB call_len_seq (by rfl) ml PySem.boot_len (pa_cons (pe_fld (pv 0) rfl) pa_nil)) pe_int (nomark _)) (pss_one (ps_ret (pe_lst (pa_cons (pe_glob (v := .int (-11)) rfl e1 ⟨_, rfl⟩) pa_nil)))) pss_nil)
      (pss_one (ps_ret (pe_op op_cat (pe_lst (pa_cons (pe_callB call_len_seq (by rfl) ml PySem.boot_len (pa_cons (pe_fld (pv 0) rfl) pa_nil)) pa_nil)) (pe_call GO hr (by rfl) gO FO.kp bO .nil pass0 (pa_cons (pe_fld (pv 0) rfl) (pa_cons (pe_fld (pv 0) rfl) (pa_cons (pe_lst pa_nil) pa_nil))))))), ?_⟩
    rw [first_step] at q
    obtain ⟨dx, wl, ps, h1, h2, h3, h4, h5, h6⟩ := id hS
    have lw := words_nil h4
    refine ⟨_, rfl, p, C, dx, _, _, rfl, h1, T.cl, T.nV, sF_v _ _, l, _, rfl, .inl (SqL.of h3), rfl, _, rfl, ite2 (fun e => ?_) (fun e => ?_)⟩
    · have e2 : (((ps.map V.ref).length : Nat) : Int) = 0 := V.int.inj (of_decide_eq_true e)
      rw [lw] at e2
      have e3 : g.words = [] := List.length_eq_zero_iff.mp (by omega)
      rw [e3, race_none] at q
      refine ⟨by show 1 ≤ sizeLine; decide, fun r nr => ?_⟩
      exact done_keep hS q (same_upd nr) nr upd_same
    · have e2 : ¬ (((ps.map V.ref).length : Nat) : Int) = 0 := fun z => e (decide_eq_true (congrArg V.int z))
      rw [lw] at e2
      have e3 : g.words ≠ [] := fun z => e2 (by rw [z]; rfl)
      have fit := fit_words sd e3 (u := []) (Rw.clean_nil sd.free)
      obtain ⟨rc, r1, r2⟩ := outc_race fit
      rw [r1] at q
      refine ⟨_, rfl, p, C, dx, _, _, rfl, h1, T.cl, T.nV, sF_v _ _, l, _, rfl, .inl (SqL.of h3), by show 1 ≤ sizeLine; decide, fun z nz => ?_⟩
      have sz := same_upd (o := .lst [V.int (((ps.map V.ref).length : Nat) : Int)]) nz
      refine ⟨_, rfl, p, C, dx, _, _, rfl, sz _ _ h1, T.cl, T.nV, sF_v _ _, _, rfl, p, C, dx, _, _, rfl, sz _ _ h1, T.cl, T.nW, sF_w _ _, Nat.zero_le _, fun n nn => ?_⟩
      have sn := same_upd (o := .lst []) nn
      have s2 := sz.trans sn
      refine ⟨l, wl, n, ps, g, g.words, [], rfl, SqL.of (s2 _ _ h3), (h4.same s2).rows, SqL.of (s2 _ _ h2), SqL.of upd_same, fit, fun H2 t s3 nt et => ?_⟩
      have ol := outc_len g g.words []
      have n4 := sd.n4
      refine ⟨z, t, _, _, rfl, rfl, (sn.trans s3) _ _ upd_same, et, ?_, fun r nr => ?_⟩
      · show 1 + ((outc g g.words []).map V.int).length ≤ sizeLine
        rw [List.length_map, ol]
        have := small1000 (n := 1 + (2 + 2 * g.words.length)) (by omega)
        omega
      · refine done_keep hS q (s2.trans (s3.trans (same_upd nr))) ((s2.trans s3).free nr) ?_
        rw [upd_same, lw]
        show _ = some (HO.lst (((g.words.length : Nat) :: rc.told : List Int).map V.int))
        rw [r2]
        rfl
/-! ### by -/
def spBy (K : PySem.W.Frag) (C : Addr) : Sp := fun vs H Q _ => ∃ (p l zo : Addr) (n : Nat) (g : Game), vs = [.ref p, .int n] ∧ SessO C zo H p l g ∧ Rw.Sound g ∧ Done C zo H p l Q (Uw53.step g (.by_ n))
theorem scBy : FnScope ["self", "count"] ["self", "count"] (defScope sBy) := ⟨rfl, rfl, rfl, by decide +kernel, rfl, by decide +kernel, by decide +kernel⟩
theorem ok_by {f : Addr} {fd : FuncData} {k : Nat} (F : Fun K "by" "Session.by" sBy f fd) (T : Txt K mg C) : FnOk P w K mg base CX0 (k + 6) f fd ["self", "count"] (spBy K C) := by
  obtain ⟨fO, fdO, FO, bO, gO⟩ := T.stand
  obtain ⟨fJ, fdJ, FJ, bJ, gJ⟩ := T.oll
  have GO : FnOk P w K mg base CX0 (k + 5) fO fdO ["words", "weights", "count"] (spStand K) := ok_stand FO T.d FJ bJ gJ
  have ml := T.d.len
  obtain ⟨t1, e1⟩ := T.e1
  obtain ⟨t11, e11⟩ := T.e11
  obtain ⟨tb, eb⟩ := T.mb
  refine F.ok scBy (fun vs H Q E h => ?_) (fun cdv A outer s H vs Q E hr h => ?_)
  · obtain ⟨p, l, zo, n, g, rfl, _⟩ := h
    rfl
  · obtain ⟨p, l, zo, n, g, rfl, hS, sd, q⟩ := h
    refine ⟨_, pss_cons (ps_if (pt_cmpR op_gt (pv 1) (pe_glob (v := .int 30) rfl eb ⟨_, rfl⟩) (nomark _)) (pss_one (ps_ret (pe_lst (pa_cons (pe_glob (v := .int (-1)) rfl e1 ⟨_, rfl⟩) pa_nil)))) pss_nil)
      (pss_cons (ps_if (pt_cmpR op_eq (pe_callB call_len_seq (by rfl) ml PySem.boot_len (pa_cons (pe_fld (pv 0) rfl) pa_nil)) pe_int (nomark _)) (pss_one (ps_ret (pe_lst (pa_cons (pe_glob (v := .int (-11)) rfl e11 ⟨_, rfl⟩) pa_nil)))) pss_nil)
      (pss_one (ps_ret (pe_op op_cat (pe_lst (pa_cons (pe_callB call_len_seq (by rfl) ml PySem.boot_len (pa_cons (pe_fld (pv 0) rfl) pa_nil)) pa_nil)) (pe_call GO hr (by rfl) gO FO.kp bO .nil pass0 (pa_cons (pe_fld (pv 0) rfl) (pa_cons (pe_fld (pv 0) rfl) (pa_cons (pv 1) pa_nil)))))))), ?_⟩
    rw [by_step] at q
    obtain ⟨dx, wl, ps, h1, h2, h3, h4, h5, h6⟩ := id hS
    have lw := words_nil h4
    refine ⟨_, rfl, _, _, rfl, rfl, _, rfl, ite2 (fun c => ?_) (fun c => ?_)⟩
    · have c1 : (30 : Int) < n := of_decide_eq_true c
      rw [if_pos (show 30 < n by omega)] at q
      refine ⟨by show 1 ≤ sizeLine; decide, fun r nr => ?_⟩
      exact done_keep hS q (same_upd nr) nr upd_same
    · have c1 : ¬ (30 : Int) < n := fun z => c (decide_eq_true z)
      rw [if_neg (show ¬ 30 < n by omega)] at q
      refine ⟨_, rfl, p, C, dx, _, _, rfl, h1, T.cl, T.nV, sF_v _ _, l, _, rfl, .inl (SqL.of h3), rfl, _, rfl, ite2 (fun e => ?_) (fun e => ?_)⟩
      · have e2 : (((ps.map V.ref).length : Nat) : Int) = 0 := V.int.inj (of_decide_eq_true e)
        rw [lw] at e2
        have e3 : g.words = [] := List.length_eq_zero_iff.mp (by omega)
        rw [if_pos e3] at q
        refine ⟨by show 1 ≤ sizeLine; decide, fun r nr => ?_⟩
        exact done_keep hS q (same_upd nr) nr upd_same
      · have e2 : ¬ (((ps.map V.ref).length : Nat) : Int) = 0 := fun z => e (decide_eq_true (congrArg V.int z))
        rw [lw] at e2
        have e3 : g.words ≠ [] := fun z => e2 (by rw [z]; rfl)
        have fit := fit_words sd e3 (u := []) (Rw.clean_nil sd.free)
        rw [if_neg e3, ← std_ok (all_pos fit) sd.free n] at q
        refine ⟨_, rfl, p, C, dx, _, _, rfl, h1, T.cl, T.nV, sF_v _ _, l, _, rfl, .inl (SqL.of h3), by show 1 ≤ sizeLine; decide, fun z nz => ?_⟩
        have sz := same_upd (o := .lst [V.int (((ps.map V.ref).length : Nat) : Int)]) nz
        refine ⟨_, rfl, p, C, dx, _, _, rfl, sz _ _ h1, T.cl, T.nV, sF_v _ _, _, rfl, p, C, dx, _, _, rfl, sz _ _ h1, T.cl, T.nW, sF_w _ _, _, rfl, l, wl, ps, g, g.words, n, rfl, SqL.of (sz _ _ h3), (h4.same sz).rows, SqL.of (sz _ _ h2), fit, by omega, fun H2 t s3 nt et => ?_⟩
        have n4 := sd.n4
        have ol : (stdL g.weights g.words n).length ≤ 2 + 2 * g.words.length := by
          have h7 := stdTo_len (stOf g.words).length (chTo g.weights (stOf g.words) g.words n) g.words.length
          have cl := chTo_len (w := g.weights) (ws := g.words) (stOf_pos g.words) n
          have e7 : stdTo (stOf g.words).length (chTo g.weights (stOf g.words) g.words n) g.words.length = stdL g.weights g.words n := by
            have ed : ((chTo g.weights (stOf g.words) g.words n).drop (stOf g.words).length).take g.words.length = (chTo g.weights (stOf g.words) g.words n).drop (stOf g.words).length := List.take_of_length_le (by rw [List.length_drop, cl]; omega)
            unfold stdTo stdL
            rw [ed]
          rw [← e7]
          exact h7
        refine ⟨z, t, _, _, rfl, rfl, s3 _ _ upd_same, et, ?_, fun r nr => ?_⟩
        · show 1 + ((stdL g.weights g.words n).map V.int).length ≤ sizeLine
          rw [List.length_map]
          have := small1000 (n := 1 + (stdL g.weights g.words n).length) (by omega)
          omega
        · refine done_keep hS q (sz.trans (s3.trans (same_upd nr))) ((sz.trans s3).free nr) ?_
          rw [upd_same, lw]
          rfl
end
end Rt
/-! ### session.py: after, reply, ring -/
namespace Rt
open PySem PySem.Spec PyProof.Rows L2
open Uw53 (Game)
section
variable {P : Program} {w : World} {K : PySem.W.Frag} {mg : Str → Option Value} {base : Heap} {C : Addr}
/-! ### after -/
def spAfter (K : PySem.W.Frag) (C : Addr) : Sp := fun vs H Q _ => ∃ (p a l zo : Addr) (u : List Nat) (g : Game), vs = [.ref p, .ref a] ∧ SessO C zo H p l g ∧ SqL K H a ((zi u).map V.int) ∧ Rw.Sound g ∧ Done C zo H p l Q (Uw53.step g (.after u))
theorem scAfter : FnScope ["self", "letters", "occurrence"] ["self", "letters"] (defScope sAfter) := ⟨rfl, rfl, rfl, by decide +kernel, rfl, by decide +kernel, by decide +kernel⟩
theorem ok_after {f : Addr} {fd : FuncData} {k : Nat} (F : Fun K "after" "Session.after" sAfter f fd) (T : Txt K mg C) : FnOk P w K mg base CX0 (k + 6) f fd ["self", "letters"] (spAfter K C) := by
  obtain ⟨fE, fdE, FE, bE, gE⟩ := T.d.ends
  obtain ⟨fW, fdW, FW, bW, gW⟩ := T.d.wend
  obtain ⟨fL, fdL, FL, bL, gL⟩ := T.areL
  obtain ⟨fF, fdF, FF, bF, gF⟩ := T.focc
  obtain ⟨fO, fdO, FO, bO, gO⟩ := T.d.outc
  have GL : FnOk P w K mg base CX0 (k + 5) fL fdL ["numbers", "weights"] (spAreL K) := ok_areL (k := k + 4) FL T.d.len T.d.all
  have GF : FnOk P w K mg base CX0 (k + 5) fF fdF ["words", "sequence"] (spFocc K) := ok_focc (k := k + 2) FF FE bE gE FW bW gW T.d.len T.d.enum T.d.range
  have GO : FnOk P w K mg base CX0 (k + 5) fO fdO ["words", "weights", "drawn"] (spOutc K) := ok_outc FO T.d
  have ml := T.d.len
  obtain ⟨t1, e1⟩ := T.e1
  obtain ⟨t7, e7⟩ := T.e7
  obtain ⟨t11, e11⟩ := T.e11
  obtain ⟨tb, eb⟩ := T.ma
  refine F.ok scAfter (fun vs H Q E h => ?_) (fun cdv A outer s H vs Q E hr h => ?_)
  · obtain ⟨p, a, l, zo, u, g, rfl, _⟩ := h
    rfl
  · obtain ⟨p, a, l, zo, u, g, rfl, hS, hA, sd, q⟩ := h
    refine ⟨_, pss_cons (ps_if (PW.pt (pw_or (pt_cmpR op_gt (pe_callB call_len_seq (by rfl) ml PySem.boot_len (pa_cons (pv 1) pa_nil)) (pe_glob (v := .int 20) rfl eb ⟨_, rfl⟩) (nomark _)) (pw_or1 (pt_not (pt_val (pe_call GL hr (by rfl) gL FL.kp bL .nil pass0 (pa_cons (pv 1) (pa_cons (pe_fld (pv 0) rfl) pa_nil))))))))
        (pss_one (ps_ret (pe_lst (pa_cons (pe_glob (v := .int (-1)) rfl e1 ⟨_, rfl⟩) pa_nil)))) pss_nil)
      (pss_cons (ps_if (pt_cmpR op_eq (pe_callB call_len_seq (by rfl) ml PySem.boot_len (pa_cons (pe_fld (pv 0) rfl) pa_nil)) pe_int (nomark _)) (pss_one (ps_ret (pe_lst (pa_cons (pe_glob (v := .int (-11)) rfl e11 ⟨_, rfl⟩) pa_nil)))) pss_nil)
      (pss_cons (ps_set (i := 2) scAfter.nd rfl (.inl rfl) (pe_call GF hr (by rfl) gF FF.kp bF .nil pass0 (pa_cons (pe_fld (pv 0) rfl) (pa_cons (pv 1) pa_nil))))
      (pss_cons (ps_if (pt_cmpR op_notN (pv 2) pe_non (nomark _)) (pss_one (ps_ret (pe_op op_cat (pe_lst (pa_cons (pe_glob (v := .int (-7)) rfl e7 ⟨_, rfl⟩) pa_nil)) (pe_callTy call_list_of (by rfl) T.d.list (by decide +kernel) (pa_cons (pv 2) pa_nil))))) pss_nil)
      (pss_one (ps_ret (pe_op op_cat (pe_lst (pa_cons (pe_callB call_len_seq (by rfl) ml PySem.boot_len (pa_cons (pe_fld (pv 0) rfl) pa_nil)) pa_nil)) (pe_call GO hr (by rfl) gO FO.kp bO .nil pass0 (pa_cons (pe_fld (pv 0) rfl) (pa_cons (pe_fld (pv 0) rfl) (pa_cons (pv 1) pa_nil)))))))))), ?_⟩
    rw [after_step] at q
    obtain ⟨dx, wl, ps, h1, h2, h3, h4, h5, h6⟩ := id hS
    have lw := words_nil h4
    have lu := zvl u
    refine ⟨_, rfl, a, _, rfl, .inl hA, _, _, rfl, rfl, _, rfl, ite2 (fun c => ?_) (fun c => ?_)⟩
    · have c1 : (20 : Int) < (((zi u).map V.int).length : Nat) := of_decide_eq_true c
      rw [lu] at c1
      rw [if_pos (Or.inl (by omega))] at q
      exact iteT ⟨by show 1 ≤ sizeLine; decide, fun r nr => done_keep hS q (same_upd nr) nr upd_same⟩
    · have c1 : ¬ (20 : Int) < (((zi u).map V.int).length : Nat) := fun z => c (decide_eq_true z)
      rw [lu] at c1
      refine ⟨_, rfl, _, rfl, p, C, dx, _, _, rfl, h1, T.cl, T.nW, sF_w _ _, a, wl, u, _, rfl, hA, SqL.of h2, by omega, fun H1 s1 => ⟨_, rfl, ?_⟩⟩
      rw [zvl]
      cases hw : lets g.weights.length u with
      | false =>
        rw [if_pos (Or.inr hw)] at q
        exact iteT ⟨by show 1 ≤ sizeLine; decide, fun r nr => done_keep hS q (s1.trans (same_upd nr)) (s1.free nr) upd_same⟩
      | true =>
        refine iteF ?_
        rw [if_neg (by rw [hw]; rintro (z | z); · omega
                       · exact Bool.noConfusion z)] at q
        refine ⟨_, rfl, p, C, dx, _, _, rfl, s1 _ _ h1, T.cl, T.nV, sF_v _ _, l, _, rfl, .inl (SqL.of (s1 _ _ h3)), rfl, _, rfl, ite2 (fun e => ?_) (fun e => ?_)⟩
        · have e2 : (((ps.map V.ref).length : Nat) : Int) = 0 := V.int.inj (of_decide_eq_true e)
          rw [lw] at e2
          have e3 : g.words = [] := List.length_eq_zero_iff.mp (by omega)
          rw [if_pos e3] at q
          exact ⟨by show 1 ≤ sizeLine; decide, fun r nr => done_keep hS q (s1.trans (same_upd nr)) (s1.free nr) upd_same⟩
        · have e2 : ¬ (((ps.map V.ref).length : Nat) : Int) = 0 := fun z => e (decide_eq_true (congrArg V.int z))
          rw [lw] at e2
          have e3 : g.words ≠ [] := fun z => e2 (by rw [z]; rfl)
          rw [if_neg e3] at q
          -- occurrence = first_occurrence(self.words, letters)
          refine ⟨_, rfl, p, C, dx, _, _, rfl, s1 _ _ h1, T.cl, T.nV, sF_v _ _, _, rfl, l, a, ps, g.words, u, rfl, SqL.of (s1 _ _ h3), (h4.same s1).rows, s1.seq hA, fun v hv z => ?_, by omega, fun hc H2 s2' => ?_, fun i j hc H2 t s2' nt et => ?_⟩
          · have := (Rw.fine_iff.mp (sd.fine v hv)).1
            rw [z] at this
            exact absurd this (by decide)
          · have s2 := s1.trans s2'
            refine ⟨_, rfl, rfl, _, rfl, ifF (by rfl) ?_⟩
            have fit := fit_words sd e3 (clean_came hc)
            obtain ⟨rc, r1, r2⟩ := outc_race fit
            rw [hc] at q
            have q2 : Done C zo H p l Q (g, ⟨(g.words.length : Nat), rc.told⟩) := by
              have e : (g, match g.race g.words u with
                | some r => (⟨(g.words.length : Nat), r.told⟩ : Uw53.Ans)
                | none => Uw53.ok (-11)) = (g, ⟨(g.words.length : Nat), rc.told⟩) := by rw [r1]
              rw [← e]
              exact q
            refine ⟨_, rfl, p, C, dx, _, _, rfl, s2 _ _ h1, T.cl, T.nV, sF_v _ _, l, _, rfl, .inl (SqL.of (s2 _ _ h3)), by show 1 ≤ sizeLine; decide, fun z nz => ?_⟩
            have sz := same_upd (o := .lst [V.int (((ps.map V.ref).length : Nat) : Int)]) nz
            have s3 := s2.trans sz
            refine ⟨_, rfl, p, C, dx, _, _, rfl, s3 _ _ h1, T.cl, T.nV, sF_v _ _, _, rfl, p, C, dx, _, _, rfl, s3 _ _ h1, T.cl, T.nW, sF_w _ _, _, rfl, l, wl, a, ps, g, g.words, u, rfl, SqL.of (s3 _ _ h3), (h4.same s3).rows, SqL.of (s3 _ _ h2), s3.seq hA, fit, fun H4 t s4 nt et => ?_⟩
            have ol := outc_len g g.words u
            have n4 := sd.n4
            refine ⟨z, t, _, _, rfl, rfl, s4 _ _ upd_same, et, ?_, fun r nr => ?_⟩
            · show 1 + ((outc g g.words u).map V.int).length ≤ sizeLine
              rw [List.length_map, ol]
              have := small1000 (n := 1 + (2 + 2 * g.words.length)) (by omega)
              omega
            · refine done_keep hS q2 (s3.trans (s4.trans (same_upd nr))) ((s3.trans s4).free nr) ?_
              rw [upd_same, lw]
              show _ = some (HO.lst (((g.words.length : Nat) :: rc.told : List Int).map V.int))
              rw [r2]
              rfl
          · have s2 := s1.trans s2'
            refine ⟨_, rfl, rfl, _, rfl, ifT (by rfl) ?_⟩
            rw [hc] at q
            refine ⟨by show 1 ≤ sizeLine; decide, fun z nz => ?_⟩
            have sz := same_upd (o := .lst [V.int (-7)]) nz
            refine ⟨_, rfl, t, _, rfl, .inr (SqT.of (sz _ _ et)), fun y ny => ?_⟩
            have sy := same_upd (o := .lst [V.int (i : Nat), V.int (j : Nat)]) ny
            refine ⟨z, y, _, _, rfl, rfl, sy _ _ upd_same, upd_same, by show 1 + 2 ≤ sizeLine; decide, fun r nr => ?_⟩
            exact done_keep hS q (s2.trans (sz.trans (sy.trans (same_upd nr)))) ((s2.trans (sz.trans sy)).free nr) upd_same
/-! ### reply -/
def spReply (K : PySem.W.Frag) (C : Addr) : Sp := fun vs H Q _ => ∃ (p a l zo : Addr) (u : List Nat) (g : Game), vs = [.ref p, .ref a] ∧ SessO C zo H p l g ∧ SqL K H a ((zi u).map V.int) ∧ Rw.Sound g ∧ Done C zo H p l Q (Uw53.step g (.reply u))
theorem scReply : FnScope ["self", "letters"] ["self", "letters"] (defScope sReply) := ⟨rfl, rfl, rfl, by decide +kernel, rfl, by decide +kernel, by decide +kernel⟩
theorem rp_len {g : Game} {w : List Nat} : ∀ (l : List (List Nat)) (b : Uw53.Q × List Nat), b.2.length ≤ w.length → (∀ v, v ∈ l → v.length = w.length) → (l.foldl (rpStep g w) b).2.length ≤ w.length
  | [], _, h, _ => h
  | v :: l, b, h, hl => by
    rw [List.foldl_cons]
    refine rp_len l _ ?_ fun u hu => hl u (List.mem_cons_of_mem _ hu)
    unfold rpStep
    split
    · exact h
    · split
      · exact Nat.le_of_eq (hl v (List.mem_cons_self ..))
      · exact h
theorem ok_reply {f : Addr} {fd : FuncData} {k : Nat} (F : Fun K "reply" "Session.reply" sReply f fd) (T : Txt K mg C) : FnOk P w K mg base CX0 (k + 8) f fd ["self", "letters"] (spReply K C) := by
  obtain ⟨fI, fdI, FI, bI, gI⟩ := T.isW
  obtain ⟨fL, fdL, FL, bL, gL⟩ := T.areL
  obtain ⟨fX, fdX, FX, bX, gX⟩ := T.wol
  obtain ⟨fC, fdC, FC, bC, gC⟩ := T.cha
  obtain ⟨fG, fdG, FG, bG, gG⟩ := T.gr
  obtain ⟨fR, fdR, FR, bR, gR⟩ := T.rep
  have GI : FnOk P w K mg base CX0 (k + 7) fI fdI ["numbers", "weights"] (spIsW K) := ok_isW (k := k + 5) FI FL bL gL T.c5 T.c6 T.d.len T.d.all
  have GR : FnOk P w K mg base CX0 (k + 7) fR fdR ["letters", "weights"] (spRep K) := ok_rep FR T.d FX bX gX FC bC gC FG bG gG
  obtain ⟨t1, e1⟩ := T.e1
  refine F.ok scReply (fun vs H Q E h => ?_) (fun cdv A outer s H vs Q E hr h => ?_)
  · obtain ⟨p, a, l, zo, u, g, rfl, _⟩ := h
    rfl
  · obtain ⟨p, a, l, zo, u, g, rfl, hS, hA, sd, q⟩ := h
    refine ⟨_, pss_cons (ps_if (pt_not (pt_val (pe_call GI hr (by rfl) gI FI.kp bI .nil pass0 (pa_cons (pv 1) (pa_cons (pe_fld (pv 0) rfl) pa_nil))))) (pss_one (ps_ret (pe_lst (pa_cons (pe_glob (v := .int (-1)) rfl e1 ⟨_, rfl⟩) pa_nil)))) pss_nil)
      (pss_one (ps_ret (pe_op op_cat (pe_lst (pa_cons pe_int pa_nil)) (pe_call GR hr (by rfl) gR FR.kp bR .nil pass0 (pa_cons (pv 1) (pa_cons (pe_fld (pv 0) rfl) pa_nil)))))), ?_⟩
    rw [reply_step] at q
    obtain ⟨dx, wl, ps, h1, h2, h3, h4, h5, h6⟩ := id hS
    refine ⟨_, rfl, _, rfl, p, C, dx, _, _, rfl, h1, T.cl, T.nW, sF_w _ _, a, wl, u, _, rfl, hA, SqL.of h2, fun H1 s1 => ⟨_, rfl, ?_⟩⟩
    rw [zvl]
    cases hw : isW g.weights.length u with
    | false =>
      refine iteT ⟨by show 1 ≤ sizeLine; decide, fun r nr => ?_⟩
      rw [if_pos hw] at q
      exact done_keep hS q (s1.trans (same_upd nr)) (s1.free nr) upd_same
    | true =>
      refine iteF ?_
      rw [if_neg (by rw [hw]; exact fun h => Bool.noConfusion h), reply_ok sd hw] at q
      refine ⟨by show 1 ≤ sizeLine; decide, fun z nz => ?_⟩
      have sz := same_upd (o := .lst [V.int 0]) nz
      have s2 := s1.trans sz
      refine ⟨_, rfl, _, rfl, p, C, dx, _, _, rfl, s2 _ _ h1, T.cl, T.nW, sF_w _ _, a, wl, g, u, rfl, s2.seq hA, SqL.of (s2 _ _ h2), sd, hw, fun H3 t s3 nt et => ?_⟩
      obtain ⟨_, w5, _⟩ := Rw.fine_iff.mp (show g.fine u = true from hw)
      have rl : (rpTo g u (Uw53.wordsOf g.weights.length u.length)).2.length ≤ u.length := rp_len _ _ (Nat.zero_le _) fun v hv => ((mem_wordsOf _ _ v).mp hv).1
      refine ⟨z, t, _, _, rfl, rfl, s3 _ _ upd_same, et, ?_, fun r nr => ?_⟩
      · rw [List.length_map, List.length_append, zi_len]
        have := small1000 (n := 1 + (2 + (rpTo g u (Uw53.wordsOf g.weights.length u.length)).2.length)) (by omega)
        show 1 + (2 + (rpTo g u (Uw53.wordsOf g.weights.length u.length)).2.length) ≤ sizeLine
        omega
      · exact done_keep hS q (s2.trans (s3.trans (same_upd nr))) ((s2.trans s3).free nr) upd_same
/-! ### ring -/
def spRing (C : Addr) : Sp := fun vs H Q _ => ∃ (p l zo : Addr) (n : Nat) (g : Game), vs = [.ref p, .int n] ∧ SessO C zo H p l g ∧ Rw.Sound g ∧ Done C zo H p l Q (Uw53.step g (.ring n))
theorem scRing : FnScope ["self", "length", "words", "answer", "word"] ["self", "length"] (defScope sRing) := ⟨rfl, rfl, rfl, by decide +kernel, rfl, by decide +kernel, by decide +kernel⟩
theorem ring_small {g : Game} {n : Nat} {r : List (List Nat)} (h : g.ring n = some r) : r.length ≤ 4 ∧ ∀ w, w ∈ r → w.length = n := by
  rw [ring_ok] at h
  cases c : shO ((List.range (Uw53.wordsOf g.weights.length n).length).map fun i => (List.range (Uw53.wordsOf g.weights.length n).length).filter (Uw53.beat (g.table n) i)) (Uw53.wordsOf g.weights.length n).length with
  | none => rw [c] at h; cases h
  | some x =>
    rw [c] at h
    have e := Option.some.inj h
    unfold shO at c
    obtain ⟨k, hk, h2⟩ := List.exists_of_findSome?_eq_some c
    obtain ⟨i, hi, h3⟩ := List.exists_of_findSome?_eq_some h2
    obtain ⟨m1, m2⟩ := fr_mem (m := (Uw53.wordsOf g.weights.length n).length) (bt_low g n) (k - 1) [i] x (fun y hy => by rw [List.mem_singleton.mp hy]; exact List.mem_range.mp hi) h3
    have k4 : k ≤ 4 := by
      rcases List.mem_cons.mp hk with e | hk
      · omega
      · have := List.mem_singleton.mp hk
        omega
    have k1 : 1 ≤ k := by
      rcases List.mem_cons.mp hk with e | hk
      · omega
      · have := List.mem_singleton.mp hk
        omega
    refine ⟨?_, fun w hw => ?_⟩
    · rw [← e, List.length_map, m2]
      show 1 + (k - 1) ≤ 4
      omega
    · rw [← e] at hw
      obtain ⟨y, hy, rfl⟩ := List.mem_map.mp hw
      exact ((mem_wordsOf _ _ _).mp (Rw.W_mem (m1 y hy))).1
theorem ok_ring {f : Addr} {fd : FuncData} {k : Nat} (F : Fun K "ring" "Session.ring" sRing f fd) (T : Txt K mg C) : FnOk P w K mg base CX0 (k + 9) f fd ["self", "length"] (spRing C) := by
  obtain ⟨fX, fdX, FX, bX, gX⟩ := T.wol
  obtain ⟨fC, fdC, FC, bC, gC⟩ := T.cha
  obtain ⟨fG, fdG, FG, bG, gG⟩ := T.gr
  obtain ⟨fB, fdB, FB, bB, gB⟩ := T.btn
  obtain ⟨fR, fdR, FR, bR, gR⟩ := T.fr
  obtain ⟨fS, fdS, FS, bS, gS⟩ := T.shr
  have GS : FnOk P w K mg base CX0 (k + 8) fS fdS ["length", "weights"] (spShr K) := ok_shr FS T.d FX bX gX FC bC gC FG bG gG FB bB gB FR bR gR T.g3 T.g4
  have ml := T.d.len
  obtain ⟨t1, e1⟩ := T.e1
  obtain ⟨t11, e11⟩ := T.e11
  obtain ⟨ta, ea⟩ := T.r1
  obtain ⟨tb, eb⟩ := T.r3
  refine F.ok scRing (fun vs H Q E h => ?_) (fun cdv A outer s H vs Q E hr h => ?_)
  · obtain ⟨p, l, zo, n, g, rfl, _⟩ := h
    rfl
  · obtain ⟨p, l, zo, n, g, rfl, hS, sd, q⟩ := h
    refine ⟨_, pss_cons (ps_if (PW.pt (pw_or (pt_cmpR op_lt (pv 1) (pe_glob (v := .int 1) rfl ea ⟨_, rfl⟩) (nomark _)) (pw_or1 (pt_cmpR op_gt (pv 1) (pe_glob (v := .int 3) rfl eb ⟨_, rfl⟩) (nomark _)))))
        (pss_one (ps_ret (pe_lst (pa_cons (pe_glob (v := .int (-1)) rfl e1 ⟨_, rfl⟩) pa_nil)))) pss_nil)
      (pss_cons (ps_set (i := 2) scRing.nd rfl (.inl rfl) (pe_call GS hr (by rfl) gS FS.kp bS .nil pass0 (pa_cons (pv 1) (pa_cons (pe_fld (pv 0) rfl) pa_nil))))
      (pss_cons (ps_if (pt_cmpR op_isN (pv 2) pe_non (nomark _)) (pss_one (ps_ret (pe_lst (pa_cons (pe_glob (v := .int (-11)) rfl e11 ⟨_, rfl⟩) pa_nil)))) pss_nil)
      (pss_cons (ps_set (i := 3) scRing.nd rfl (.inl rfl) (pe_lst (pa_cons (pe_callB call_len_seq (by rfl) ml PySem.boot_len (pa_cons (pv 2) pa_nil)) pa_nil)))
      (pss_cons (ps_for PassesOwn.never rfl (pi_list (pv 2)) (pg_name (i := 4) scRing.nd rfl (.inl rfl))
        (pss_one (ps_expr (pe_bm PySem.F.plainAttrs_list PySem.F.slot_list_extend PySem.F.type_list_extend mt_extend (pv 3) (pa_cons (pv 4) pa_nil)))))
      (pss_one (ps_ret (pv 3))))))), ?_⟩
    rw [ring_step] at q
    obtain ⟨dx, wl, ps, h1, h2, h3, h4, h5, h6⟩ := id hS
    have bad : (n < 1 ∨ 3 < n) → ∀ r, H r = none → Q (.ref r) (upd H r (.lst [.int (-1)])) := by
      intro c r nr
      rw [if_pos c] at q
      exact done_keep hS q (same_upd nr) nr upd_same
    refine ⟨_, rfl, _, _, rfl, rfl, _, rfl, ite2 (fun c => ?_) (fun c => ?_)⟩
    · have c1 : (n : Int) < 1 := of_decide_eq_true c
      exact iteT ⟨by show 1 ≤ sizeLine; decide, fun r nr => bad (Or.inl (by omega)) r nr⟩
    · have c1 : ¬ (n : Int) < 1 := fun z => c (decide_eq_true z)
      refine ⟨_, rfl, _, _, rfl, rfl, _, rfl, ite2 (fun d => ?_) (fun d => ?_)⟩
      · have d1 : (3 : Int) < n := of_decide_eq_true d
        exact ⟨by show 1 ≤ sizeLine; decide, fun r nr => bad (Or.inr (by omega)) r nr⟩
      · have d1 : ¬ (3 : Int) < n := fun z => d (decide_eq_true z)
        rw [if_neg (show ¬ (n < 1 ∨ 3 < n) by omega)] at q
        refine ⟨_, rfl, _, rfl, p, C, dx, _, _, rfl, h1, T.cl, T.nW, sF_w _ _, wl, g, n, rfl, SqL.of h2, sd, by omega, by omega, fun hc H1 s1 => ?_, fun r hc H1 o qs s1 eo hQ => ?_⟩
        · rw [hc] at q
          refine ⟨_, rfl, rfl, _, rfl, ifT (decide_eq_true rfl) ⟨by show 1 ≤ sizeLine; decide, fun r nr => ?_⟩⟩
          exact done_keep hS q (s1.trans (same_upd nr)) (s1.free nr) upd_same
        · rw [hc] at q
          obtain ⟨r4, rw3⟩ := ring_small hc
          have lq : (qs.map V.ref).length = r.length := by rw [List.length_map, hQ.1, List.length_map]
          refine ⟨_, rfl, rfl, _, rfl, ifF (decide_eq_false (by intro h; cases h)) ⟨_, rfl, o, _, rfl, .inl (SqL.of eo), by show 1 ≤ sizeLine; decide, fun t nt => ?_⟩⟩
          rw [lq]
          have st := same_upd (o := .lst [V.int ((r.length : Nat) : Int)]) nt
          have flen : ∀ i, ((r.take i).flatMap fun w => w).length ≤ 12 := by
            intro i
            have h7 : ∀ l : List (List Nat), (∀ w, w ∈ l → w.length = n) → (l.flatMap fun w => w).length = l.length * n := by
              intro l
              induction l with
              | nil => intro _; exact (Nat.zero_mul n).symm
              | cons x l ih =>
                intro hl
                rw [List.flatMap_cons, List.length_append, ih fun w hw => hl w (List.mem_cons_of_mem _ hw), hl x (List.mem_cons_self ..), List.length_cons, Nat.succ_mul]
                omega
            rw [h7 _ fun w hw => rw3 w (List.mem_of_mem_take hw)]
            have : (r.take i).length ≤ 4 := by rw [List.length_take]; omega
            exact Nat.le_trans (Nat.mul_le_mul this (show n ≤ 3 by omega)) (by decide)
          refine ⟨_, rfl, o, rfl, ⟨_, SqL.of (st _ _ eo)⟩, for_list (K := K) (a := o) (xs := qs.map V.ref) (fun i σ H3 => ∃ (v4 : Option V), σ = [some (.ref p), some (.int n), some (.ref o), some (.ref t), v4] ∧ Same H1 H3 ∧ H3 t = some (.lst ((((r.length : Nat) : Int) :: zi ((r.take i).flatMap fun w => w)).map V.int)))
            ⟨none, rfl, st, upd_same⟩ (fun i σ H3 _ ⟨_, _, s3, _⟩ => SqL.of (s3 _ _ eo)) ?_ ?_⟩
          · rintro i x σ H3 hx ⟨v4, rfl, s3, e3⟩
            obtain ⟨z, gz, rfl⟩ := ref_at hx
            obtain ⟨v, gv, hv⟩ := (hQ.same s3).word gz
            have lv := rw3 v (List.mem_of_getElem? gv)
            refine ⟨_, rfl, .inl ⟨rfl, _, SqL.of e3⟩, _, rfl, t, z, _, _, rfl, rfl, e3, hv, ?_, ?_⟩
            · have f7 := flen i
              rw [zvl, List.length_map, List.length_cons, zi_len]
              have := small1000 (n := ((r.take i).flatMap fun w => w).length + 1 + v.length) (by omega)
              omega
            · refine ⟨_, rfl, same_new s3 nt, ?_⟩
              rw [upd_same, take_more gv, List.flatMap_append, zi_app, List.flatMap_cons, List.flatMap_nil, List.append_nil, ← List.map_append]
              rfl
          · rintro σ H3 ⟨v4, rfl, s3, e3⟩
            rw [lq, List.take_length] at e3
            exact ⟨_, rfl, done_keep hS q (s1.trans s3) (s1.free nt) e3⟩
end
end Rt
/-! ### drawing.py: calls_apart -/
namespace Rt
open PySem PySem.Spec PyProof.Rows L2
open Uw53 (Game Call)
abbrev sApart : Stmt := top 62
abbrev sAnsw : Stmt := top 63
abbrev sAns : Stmt := top 64
/-- a call's number; what is handed in with it -/
def num : Call → Nat
  | .begins _ => 0
  | .word _ => 1
  | .wait _ => 2
  | .first => 3
  | .by_ _ => 4
  | .after _ => 5
  | .reply _ => 6
  | .ring _ => 7
def arg : Call → List Nat
  | .begins l => l
  | .word l => l
  | .wait l => l
  | .first => []
  | .by_ n => [n]
  | .after l => l
  | .reply l => l
  | .ring n => [n]
theorem enc_kind (c : Call) : (inV (.int (num c : Nat)) [.int 0, .int 1, .int 2, .int 5, .int 6] = true ∧ Rw.enc c = (num c : Int) :: ((arg c).length : Int) :: zi (arg c)) ∨
    (inV (.int (num c : Nat)) [.int 0, .int 1, .int 2, .int 5, .int 6] = false ∧ inV (.int (num c : Nat)) [.int 4, .int 7] = true ∧ Rw.enc c = (num c : Int) :: zi (arg c) ∧ (arg c).length = 1) ∨
    (inV (.int (num c : Nat)) [.int 0, .int 1, .int 2, .int 5, .int 6] = false ∧ inV (.int (num c : Nat)) [.int 4, .int 7] = false ∧ num c = 3 ∧ Rw.enc c = (num c : Int) :: zi (arg c) ∧ (arg c).length = 0) := by
  cases c
  · exact Or.inl ⟨rfl, rfl⟩
  · exact Or.inl ⟨rfl, rfl⟩
  · exact Or.inl ⟨rfl, rfl⟩
  · exact Or.inr (Or.inr ⟨rfl, rfl, rfl, rfl, rfl⟩)
  · exact Or.inr (Or.inl ⟨rfl, rfl, rfl, rfl⟩)
  · exact Or.inl ⟨rfl, rfl⟩
  · exact Or.inl ⟨rfl, rfl⟩
  · exact Or.inr (Or.inl ⟨rfl, rfl, rfl, rfl⟩)
theorem arg_len {c : Call} (h : Rw.InB c) : (arg c).length ≤ 24 := by
  cases c
  · exact Nat.le_trans h.1 (by decide)
  · exact Nat.le_trans h.1 (by decide)
  · exact Nat.le_trans h.1 (by decide)
  · exact Nat.zero_le _
  · show 1 ≤ 24; decide
  · exact h.1
  · exact Nat.le_trans h.1 (by decide)
  · show 1 ≤ 24; decide
/-- where the i-th call begins -/
def plc (cs : List Call) (i : Nat) : Nat := ((cs.take i).flatMap Rw.enc).length
theorem plc_drop {cs : List Call} {i : Nat} {c : Call} (h : cs[i]? = some c) : (cs.flatMap Rw.enc).drop (plc cs i) = Rw.enc c ++ (cs.drop (i + 1)).flatMap Rw.enc := by
  obtain ⟨hi, e⟩ := List.getElem?_eq_some_iff.mp h
  have e1 : cs.flatMap Rw.enc = (cs.take i).flatMap Rw.enc ++ (cs.drop i).flatMap Rw.enc := by rw [← List.flatMap_append, List.take_append_drop]
  unfold plc
  rw [e1, List.drop_left, List.drop_eq_getElem_cons hi, List.flatMap_cons, e]
theorem plc_succ {cs : List Call} {i : Nat} {c : Call} (h : cs[i]? = some c) : plc cs (i + 1) = plc cs i + (Rw.enc c).length := by
  unfold plc
  rw [take_more h, List.flatMap_append, List.length_append, List.flatMap_cons, List.flatMap_nil, List.append_nil]
theorem plc_le (cs : List Call) (i : Nat) : plc cs i ≤ (cs.flatMap Rw.enc).length := by
  have e1 : cs.flatMap Rw.enc = (cs.take i).flatMap Rw.enc ++ (cs.drop i).flatMap Rw.enc := by rw [← List.flatMap_append, List.take_append_drop]
  rw [e1, List.length_append]
  exact Nat.le_add_right _ _
theorem enc_pos (c : Call) : 0 < (Rw.enc c).length := by cases c <;> exact Nat.succ_pos _
theorem plc_at {cs : List Call} {i : Nat} {c : Call} (h : cs[i]? = some c) {j : Nat} {z : Int} (hz : (Rw.enc c)[j]? = some z) : (cs.flatMap Rw.enc)[plc cs i + j]? = some z := by
  rw [← List.getElem?_drop, plc_drop h, List.getElem?_append_left (List.getElem?_eq_some_iff.mp hz).1]
  exact hz
theorem cut_se (xs : List V) {s e : Nat} (h1 : s ≤ e) (h2 : e ≤ xs.length) : cutV xs (some (s : Int)) (some (e : Int)) = (xs.drop s).take (e - s) := by
  unfold cutV
  rw [HT.sIx_nat, HT.sIx_nat, Nat.min_eq_left h2, Nat.min_eq_left (Nat.le_trans h1 h2)]
theorem plc_arg {cs : List Call} {i k : Nat} {c : Call} (h : cs[i]? = some c) (hk : (Rw.enc c).drop k = zi (arg c)) (hl : k ≤ (Rw.enc c).length) : (((cs.flatMap Rw.enc).map V.int).drop (plc cs i + k)).take (arg c).length = (zi (arg c)).map V.int := by
  rw [← List.map_drop, ← List.drop_drop, plc_drop h, List.drop_append_of_le_length hl, hk, ← List.map_take, List.take_left' (zi_len _)]
/-- a call taken apart: a pair of its number and the list that is handed in with it; o is another object, in H0 the list was not there -/
def CallAt (H0 H : Hp) (o t : Addr) (c : Call) : Prop := ∃ q, t ≠ o ∧ q ≠ o ∧ H0 q = none ∧ H t = some (.tup [.int (num c : Nat), .ref q]) ∧ H q = some (.lst ((zi (arg c)).map V.int))
def CallsAt (H0 H : Hp) (o : Addr) (ts : List Addr) (cs : List Call) : Prop := ts.length = cs.length ∧ ∀ (i : Nat) (t : Addr) (c : Call), ts[i]? = some t → cs[i]? = some c → CallAt H0 H o t c
theorem CallAt.same {H0 H H' : Hp} {o t : Addr} {c : Call} (h : CallAt H0 H o t c) (s : Same H H') : CallAt H0 H' o t c := by
  obtain ⟨q, h1, h2, h0, h3, h4⟩ := h
  exact ⟨q, h1, h2, h0, s _ _ h3, s _ _ h4⟩
theorem CallAt.up {H0 H : Hp} {o t : Addr} {c : Call} {ob : HO} (h : CallAt H0 H o t c) : CallAt H0 (upd H o ob) o t c := by
  obtain ⟨q, h1, h2, h0, h3, h4⟩ := h
  exact ⟨q, h1, h2, h0, by rw [upd_ne h1]; exact h3, by rw [upd_ne h2]; exact h4⟩
theorem CallsAt.same {H0 H H' : Hp} {o : Addr} {ts : List Addr} {cs : List Call} (h : CallsAt H0 H o ts cs) (s : Same H H') : CallsAt H0 H' o ts cs := ⟨h.1, fun i t c h1 h2 => (h.2 i t c h1 h2).same s⟩
theorem CallsAt.up {H0 H : Hp} {o : Addr} {ts : List Addr} {cs : List Call} {ob : HO} (h : CallsAt H0 H o ts cs) : CallsAt H0 (upd H o ob) o ts cs := ⟨h.1, fun i t c h1 h2 => (h.2 i t c h1 h2).up⟩
theorem CallsAt.snoc {H0 H : Hp} {o : Addr} {ts : List Addr} {cs : List Call} (h : CallsAt H0 H o ts cs) {t : Addr} {c : Call} (hc : CallAt H0 H o t c) : CallsAt H0 H o (ts ++ [t]) (cs ++ [c]) := by
  refine ⟨by rw [List.length_append, List.length_append, h.1]; rfl, fun i q z h1 h2 => ?_⟩
  by_cases d : i < ts.length
  · rw [List.getElem?_append_left d] at h1
    rw [List.getElem?_append_left (by rw [← h.1]; exact d)] at h2
    exact h.2 i q z h1 h2
  · rw [List.getElem?_append_right (by omega)] at h1
    rw [List.getElem?_append_right (by rw [← h.1]; omega), ← h.1] at h2
    cases e : i - ts.length with
    | zero =>
      rw [e] at h1 h2
      have e1 : t = q := Option.some.inj h1
      have e2 : c = z := Option.some.inj h2
      subst e1 e2
      exact hc
    | succ j =>
      rw [e] at h1
      cases h1
/-- the numbers of the calls -/
structure TxN (mg : Str → Option Value) : Prop where
  n0 : Num mg "BEGIN" 0
  n1 : Num mg "WORD" 1
  n2 : Num mg "WAIT" 2
  n3 : Num mg "FIRST" 3
  n4 : Num mg "BY" 4
  n5 : Num mg "AFTER" 5
  n6 : Num mg "REPLY" 6
  n7 : Num mg "RING" 7
section
variable {P : Program} {w : World} {K : PySem.W.Frag} {mg : Str → Option Value} {base : Heap}
def spApart (K : PySem.W.Frag) : Sp := fun vs H Q _ => ∃ (a : Addr) (cs : List Call), vs = [.ref a] ∧ SqL K H a ((cs.flatMap Rw.enc).map V.int) ∧ cs.length ≤ 40 ∧ (∀ c, c ∈ cs → Rw.InB c) ∧
  ∀ H' o ts, Same H H' → H o = none → H' o = some (.lst (ts.map V.ref)) → CallsAt H H' o ts cs → Q (.ref o) H'
theorem scApart : FnScope ["calls", "apart", "place", "number", "start", "end"] ["calls"] (defScope sApart) := ⟨rfl, rfl, rfl, by decide +kernel, rfl, by decide +kernel, by decide +kernel⟩
def muAp (n : Nat) : L2.St → Hp → Nat := fun σ _ => match σ with
  | [_, _, some (.int y), _, _, _] => n - y.toNat
  | _ => 0
theorem ok_apart {f : Addr} {fd : FuncData} {k : Nat} (F : Fun K "calls_apart" "calls_apart" sApart f fd) (ml : mg "len" = none) (N : TxN mg) : FnOk P w K mg base CX0 (k + 1) f fd ["calls"] (spApart K) := by
  obtain ⟨t0, c0⟩ := N.n0
  obtain ⟨t1, c1⟩ := N.n1
  obtain ⟨t2, c2⟩ := N.n2
  obtain ⟨t3, c3⟩ := N.n3
  obtain ⟨t4, c4⟩ := N.n4
  obtain ⟨t5, c5⟩ := N.n5
  obtain ⟨t6, c6⟩ := N.n6
  obtain ⟨t7, c7⟩ := N.n7
  refine F.ok scApart (fun vs H Q E h => ?_) (fun cdv A outer s H vs Q E hr h => ?_)
  · obtain ⟨a, cs, rfl, _⟩ := h
    rfl
  · obtain ⟨a, cs, rfl, hA, l40, inb, q⟩ := h
    refine ⟨_, pss_cons (ps_set (i := 1) scApart.nd rfl (.inl rfl) (pe_lst pa_nil))
      (pss_cons (ps_set (i := 2) scApart.nd rfl (.inl rfl) pe_int)
      (pss_cons (ps_while PassesOwn.never (pt_cmpR op_lt (pv 2) (pe_callB call_len_seq (by rfl) ml PySem.boot_len (pa_cons (pv 0) pa_nil)) (nomark _))
        (pss_cons (ps_set (i := 3) scApart.nd rfl (.inl rfl) (pe_ix ix_list (pv 0) (pv 2) (fun _ _ => rfl)))
        (pss_cons (ps_set (i := 4) scApart.nd rfl (.inl rfl) (pe_op op_add (pv 2) pe_int))
        (pss_cons (ps_set (i := 5) scApart.nd rfl (.inl rfl) (pv 4))
        (pss_cons (ps_if (pt_cmpR op_in_seq (pv 3) (pe_tup (pa_cons (pe_glob (v := .int 0) rfl c0 ⟨_, rfl⟩) (pa_cons (pe_glob (v := .int 1) rfl c1 ⟨_, rfl⟩) (pa_cons (pe_glob (v := .int 2) rfl c2 ⟨_, rfl⟩) (pa_cons (pe_glob (v := .int 5) rfl c5 ⟨_, rfl⟩) (pa_cons (pe_glob (v := .int 6) rfl c6 ⟨_, rfl⟩) pa_nil)))))) (by rfl))
            (pss_cons (ps_set (i := 4) scApart.nd rfl (.inl rfl) (pe_op op_add (pv 2) pe_int))
            (pss_one (ps_set (i := 5) scApart.nd rfl (.inl rfl) (pe_op op_add (pv 4) (pe_ix ix_list (pv 0) (pe_op op_add (pv 2) pe_int) (fun _ _ => rfl))))))
            (pss_one (ps_if (pt_cmpR op_in_seq (pv 3) (pe_tup (pa_cons (pe_glob (v := .int 4) rfl c4 ⟨_, rfl⟩) (pa_cons (pe_glob (v := .int 7) rfl c7 ⟨_, rfl⟩) pa_nil))) (by rfl))
              (pss_one (ps_set (i := 5) scApart.nd rfl (.inl rfl) (pe_op op_add (pv 4) pe_int)))
              (pss_one (ps_if (pt_cmpR op_ne (pv 3) (pe_glob (v := .int 3) rfl c3 ⟨_, rfl⟩) (nomark _)) (pss_one ps_never) pss_nil)))))
        (pss_cons (ps_expr (pe_bm PySem.F.plainAttrs_list PySem.F.slot_list_append PySem.F.type_list_append mt_append (pv 1) (pa_cons (pe_tup (pa_cons (pv 3) (pa_cons (pe_slice sl_list (pv 0) (po_some (pv 4)) (po_some (pv 5))) pa_nil))) pa_nil)))
        (pss_one (ps_set (i := 2) scApart.nd rfl (.inl rfl) (pv 5)))))))))
      (pss_one (ps_ret (pv 1))))), ?_⟩
    have ln : ((cs.flatMap Rw.enc).map V.int).length = (cs.flatMap Rw.enc).length := List.length_map ..
    refine ⟨Nat.zero_le _, fun o no => ?_⟩
    have so := same_upd (o := .lst []) no
    refine while_by (fun σ H3 => ∃ (i : Nat) (ts : List Addr) (v3 v4 v5 : Option V), σ = [some (.ref a), some (.ref o), some (.int (plc cs i)), v3, v4, v5] ∧ i ≤ cs.length ∧ Same H H3 ∧ H3 o = some (.lst (ts.map V.ref)) ∧ CallsAt H H3 o ts (cs.take i)) (muAp (cs.flatMap Rw.enc).length)
      ⟨0, [], none, none, none, rfl, Nat.zero_le _, so, upd_same, rfl, fun i t c h => by cases h⟩ ?_ ?_
    · rintro σ H3 ⟨i, ts, v3, v4, v5, rfl, hi, s3, e3, hT⟩
      refine ⟨_, rfl, _, rfl, a, _, rfl, .inl (s3.seq hA), _, _, rfl, rfl, _, rfl, ite2 (fun d => ?_) (fun d => ?_)⟩
      · have d1 : ((plc cs i : Nat) : Int) < (((cs.flatMap Rw.enc).map V.int).length : Nat) := of_decide_eq_true d
        rw [ln] at d1
        have il : i < cs.length := by
          apply Classical.byContradiction
          intro z
          have : plc cs i = (cs.flatMap Rw.enc).length := by
            unfold plc
            rw [List.take_of_length_le (by omega)]
          omega
        have gc : cs[i]? = some cs[i] := List.getElem?_eq_getElem il
        generalize cs[i] = c at gc
        have hinb := inb c (List.mem_of_getElem? gc)
        have la := arg_len hinb
        have ps := plc_succ gc
        have ple := plc_le cs (i + 1)
        have lts : ts.length = i := by rw [hT.1, List.length_take]; omega
        have hnum : (Rw.enc c)[0]? = some (num c : Int) := by cases c <;> rfl
        have g0 : ((cs.flatMap Rw.enc).map V.int)[plc cs i]? = some (V.int (num c : Nat)) := by
          have := plc_at gc hnum
          rw [Nat.add_zero] at this
          rw [List.getElem?_map, this]
          rfl
        -- what follows the tests
        have cut : ∀ (k : Nat), (Rw.enc c).drop k = zi (arg c) → (Rw.enc c).length = k + (arg c).length → cutV ((cs.flatMap Rw.enc).map V.int) (some ((plc cs i + k : Nat) : Int)) (some ((plc cs (i + 1) : Nat) : Int)) = (zi (arg c)).map V.int := by
          intro k h1 h2
          rw [cut_se _ (by omega) (by rw [ln]; exact ple)]
          have : plc cs (i + 1) - (plc cs i + k) = (arg c).length := by omega
          rw [this, plc_arg gc h1 (by omega)]
        refine ⟨_, rfl, _, rfl, a, _, _, _, rfl, rfl, s3.seq hA, atI_nat g0, _, rfl, _, _, rfl, rfl, _, rfl, ?_⟩
        refine ⟨_, rfl, by show 5 ≤ sizeLine; decide, fun t nt => ?_⟩
        have st := same_upd (o := .tup [V.int 0, V.int 1, V.int 2, V.int 5, V.int 6]) nt
        refine ⟨t, _, rfl, .inr (SqT.of upd_same), rfl, rfl, ?_⟩
        rcases enc_kind c with ⟨k1, k2⟩ | ⟨k1, k2, k3, k4⟩ | ⟨k1, k2, k3, k4, k5⟩
        · refine ⟨_, rfl, ifT k1 ?_⟩
          have s4 := s3.trans st
          have hl : (Rw.enc c).length = 2 + (arg c).length := by rw [k2, List.length_cons, List.length_cons, zi_len]; omega
          have g1 : ((cs.flatMap Rw.enc).map V.int)[plc cs i + 1]? = some (V.int ((arg c).length : Nat)) := by
            rw [List.getElem?_map, plc_at gc (j := 1) (z := ((arg c).length : Int)) (by rw [k2]; rfl)]
            rfl
          have e1 : ((plc cs i : Nat) : Int) + 1 = ((plc cs i + 1 : Nat) : Int) := by omega
          have e2 : ((plc cs i : Nat) : Int) + 2 = ((plc cs i + 2 : Nat) : Int) := by omega
          have e5 : ((plc cs i + 2 : Nat) : Int) + ((arg c).length : Nat) = ((plc cs (i + 1) : Nat) : Int) := by omega
          refine ⟨_, rfl, _, _, rfl, rfl, ?_⟩
          dsimp only
          rw [e2]
          refine ⟨_, rfl, _, rfl, _, rfl, _, _, rfl, rfl, ?_⟩
          dsimp only
          rw [e1]
          refine ⟨a, _, _, _, rfl, rfl, s4.seq hA, atI_nat g1, _, _, rfl, rfl, ?_⟩
          dsimp only
          rw [e5]
          refine ⟨_, rfl, .inl ⟨rfl, _, SqL.of (st _ _ e3)⟩, _, rfl, _, rfl, _, rfl, _, rfl, _, rfl, _, rfl, a, _, rfl, s4.seq hA, fun y ny => ?_⟩
          rw [cut 2 (by rw [k2]; rfl) (by omega)]
          have sy := same_upd (o := .lst ((zi (arg c)).map V.int)) ny
          refine ⟨by show 2 ≤ sizeLine; decide, fun u nu => ?_⟩
          have su := same_upd (o := .tup [V.int (num c : Nat), V.ref y]) nu
          have eo := su _ _ (sy _ _ (st _ _ e3))
          refine ⟨o, _, _, rfl, rfl, eo, by rw [List.length_map]; exact small1000 (by omega), ?_⟩
          refine ⟨_, rfl, ⟨i + 1, ts ++ [u], _, _, _, rfl, il, same_new (s4.trans (sy.trans su)) no, ?_, ?_⟩, ?_⟩
          · rw [upd_same, List.map_append]
            rfl
          · rw [take_more gc]
            exact ((hT.same (st.trans (sy.trans su))).snoc ⟨y, Ne.symm (ne_of_none (sy _ _ (st _ _ e3)) nu), Ne.symm (ne_of_none (st _ _ e3) ny), s4.free ny, upd_same, su _ _ upd_same⟩).up
          · show (cs.flatMap Rw.enc).length - ((plc cs (i + 1) : Nat) : Int).toNat < (cs.flatMap Rw.enc).length - ((plc cs i : Nat) : Int).toNat
            omega
        · refine ⟨_, rfl, ifF k1 ⟨_, rfl, by show 2 ≤ sizeLine; decide, fun t2 nt2 => ?_⟩⟩
          have st2 := same_upd (o := .tup [V.int 4, V.int 7]) nt2
          refine ⟨t2, _, rfl, .inr (SqT.of upd_same), rfl, rfl, _, rfl, ifT k2 ?_⟩
          have st' := st.trans st2
          have s4 := s3.trans st'
          have hl : (Rw.enc c).length = 1 + (arg c).length := by rw [k3, List.length_cons, zi_len]; omega
          have e1 : ((plc cs i : Nat) : Int) + 1 = ((plc cs i + 1 : Nat) : Int) := by omega
          have e5 : ((plc cs i + 1 : Nat) : Int) + 1 = ((plc cs (i + 1) : Nat) : Int) := by omega
          dsimp only
          rw [e1]
          refine ⟨_, rfl, _, _, rfl, rfl, ?_⟩
          dsimp only
          rw [e5]
          refine ⟨_, rfl, .inl ⟨rfl, _, SqL.of (st' _ _ e3)⟩, _, rfl, _, rfl, _, rfl, _, rfl, _, rfl, _, rfl, a, _, rfl, s4.seq hA, fun y ny => ?_⟩
          rw [cut 1 (by rw [k3]; rfl) (by omega)]
          have sy := same_upd (o := .lst ((zi (arg c)).map V.int)) ny
          refine ⟨by show 2 ≤ sizeLine; decide, fun u nu => ?_⟩
          have su := same_upd (o := .tup [V.int (num c : Nat), V.ref y]) nu
          have eo := su _ _ (sy _ _ (st' _ _ e3))
          refine ⟨o, _, _, rfl, rfl, eo, by rw [List.length_map]; exact small1000 (by omega), ?_⟩
          refine ⟨_, rfl, ⟨i + 1, ts ++ [u], _, _, _, rfl, il, same_new (s4.trans (sy.trans su)) no, ?_, ?_⟩, ?_⟩
          · rw [upd_same, List.map_append]
            rfl
          · rw [take_more gc]
            exact ((hT.same (st'.trans (sy.trans su))).snoc ⟨y, Ne.symm (ne_of_none (sy _ _ (st' _ _ e3)) nu), Ne.symm (ne_of_none (st' _ _ e3) ny), s4.free ny, upd_same, su _ _ upd_same⟩).up
          · show (cs.flatMap Rw.enc).length - ((plc cs (i + 1) : Nat) : Int).toNat < (cs.flatMap Rw.enc).length - ((plc cs i : Nat) : Int).toNat
            omega
        · refine ⟨_, rfl, ifF k1 ⟨_, rfl, by show 2 ≤ sizeLine; decide, fun t2 nt2 => ?_⟩⟩
          have st2 := same_upd (o := .tup [V.int 4, V.int 7]) nt2
          refine ⟨t2, _, rfl, .inr (SqT.of upd_same), rfl, rfl, _, rfl, ifF k2 ?_⟩
          have st' := st.trans st2
          have s4 := s3.trans st'
          have hl : (Rw.enc c).length = 1 + (arg c).length := by rw [k4, List.length_cons, zi_len]; omega
          have e1 : ((plc cs i : Nat) : Int) + 1 = ((plc cs i + 1 : Nat) : Int) := by omega
          have e5 : ((plc cs i + 1 : Nat) : Int) = ((plc cs (i + 1) : Nat) : Int) := by omega
          refine ⟨_, rfl, rfl, _, rfl, ifF (by rw [k3]; rfl) ?_⟩
          dsimp only
          rw [e1]
          refine ⟨_, rfl, .inl ⟨rfl, _, SqL.of (st' _ _ e3)⟩, _, rfl, _, rfl, _, rfl, _, rfl, _, rfl, _, rfl, a, _, rfl, s4.seq hA, fun y ny => ?_⟩
          have ec := cut 1 (by rw [k4]; rfl) (by omega)
          rw [← e5] at ec
          rw [ec]
          have sy := same_upd (o := .lst ((zi (arg c)).map V.int)) ny
          refine ⟨by show 2 ≤ sizeLine; decide, fun u nu => ?_⟩
          have su := same_upd (o := .tup [V.int (num c : Nat), V.ref y]) nu
          have eo := su _ _ (sy _ _ (st' _ _ e3))
          refine ⟨o, _, _, rfl, rfl, eo, by rw [List.length_map]; exact small1000 (by omega), ?_⟩
          rw [e5]
          refine ⟨_, rfl, ⟨i + 1, ts ++ [u], _, _, _, rfl, il, same_new (s4.trans (sy.trans su)) no, ?_, ?_⟩, ?_⟩
          · rw [upd_same, List.map_append]
            rfl
          · rw [take_more gc]
            exact ((hT.same (st'.trans (sy.trans su))).snoc ⟨y, Ne.symm (ne_of_none (sy _ _ (st' _ _ e3)) nu), Ne.symm (ne_of_none (st' _ _ e3) ny), s4.free ny, upd_same, su _ _ upd_same⟩).up
          · show (cs.flatMap Rw.enc).length - ((plc cs (i + 1) : Nat) : Int).toNat < (cs.flatMap Rw.enc).length - ((plc cs i : Nat) : Int).toNat
            omega
      · have d1 : ¬ ((plc cs i : Nat) : Int) < (((cs.flatMap Rw.enc).map V.int).length : Nat) := fun z => d (decide_eq_true z)
        rw [ln] at d1
        have il : i = cs.length := by
          apply Classical.byContradiction
          intro z
          have hi2 : i < cs.length := by omega
          have h1 := plc_succ (List.getElem?_eq_getElem hi2)
          have h2 := enc_pos cs[i]
          have h3 := plc_le cs (i + 1)
          omega
        rw [il, List.take_length] at hT
        exact ⟨_, rfl, q H3 o ts s3 no e3 hT⟩
    · rintro σ H' Q1 Q2 m ⟨v1, e1, v2, e2, a, xs, e3, h3, i, j, e4, e5, b, e6, hh⟩
      exact ⟨v1, e1, v2, e2, a, xs, e3, h3, i, j, e4, e5, b, e6, m _ _ hh⟩
end
end Rt
/-! ### drawing.py: answer, answers -/
namespace Rt
open PySem PySem.Spec PyProof.Rows L2
open Uw53 (Game Call)
/-- a method of the class -/
def DefM (K : PySem.W.Frag) (C : Addr) (name qual : Str) (st : Stmt) (ps : List Str) : Prop := ∃ f fd, Fun K name qual st f fd ∧ Binds K fd ps [] ∧ Meth K C name f
structure TxS (K : PySem.W.Frag) (C : Addr) : Prop where
  begin : DefM K C "begin" "Session.begin" sBegin ["self", "weights"]
  word : DefM K C "word" "Session.word" sWord ["self", "letters"]
  wait : DefM K C "wait" "Session.wait" sWait ["self", "letters"]
  first : DefM K C "first" "Session.first" sFirst ["self"]
  by_ : DefM K C "by" "Session.by" sBy ["self", "count"]
  after : DefM K C "after" "Session.after" sAfter ["self", "letters"]
  reply : DefM K C "reply" "Session.reply" sReply ["self", "letters"]
  ring : DefM K C "ring" "Session.ring" sRing ["self", "length"]
theorem sF_no {wl l : Addr} {m : Str} (h1 : (m == ("weights" : Str)) = false) (h2 : (m == ("words" : Str)) = false) : (sF wl l).lookup m = none := (lk_past h1).trans ((lk_past h2).trans rfl)
theorem vi_ne {a b : Int} (h : ¬ a = b) : decide (V.int a = V.int b) = false := decide_eq_false fun e => h (V.int.inj e)
section
variable {P : Program} {w : World} {K : PySem.W.Frag} {mg : Str → Option Value} {base : Heap} {C : Addr}
def spAnsw (K : PySem.W.Frag) (C : Addr) : Sp := fun vs H Q _ => ∃ (p a l zo : Addr) (c : Call) (g : Game), vs = [.ref p, .int (num c : Nat), .ref a] ∧ SessO C zo H p l g ∧ H a = some (.lst ((zi (arg c)).map V.int)) ∧ Rw.Sound g ∧ Rw.InB c ∧ Done C zo H p l Q (Uw53.step g c)
theorem scAnsw : FnScope ["session", "number", "numbers"] ["session", "number", "numbers"] (defScope sAnsw) := ⟨rfl, rfl, rfl, by decide +kernel, rfl, by decide +kernel, by decide +kernel⟩
theorem ok_answ {f : Addr} {fd : FuncData} {k : Nat} (F : Fun K "answer" "answer" sAnsw f fd) (T : Txt K mg C) (N : TxN mg) (S : TxS K C) : FnOk P w K mg base CX0 (k + 10) f fd ["session", "number", "numbers"] (spAnsw K C) := by
  obtain ⟨f0, fd0, F0, b0, m0⟩ := S.begin
  obtain ⟨f1, fd1, F1, b1, m1⟩ := S.word
  obtain ⟨f2, fd2, F2, b2, m2⟩ := S.wait
  obtain ⟨f3, fd3, F3, b3, m3⟩ := S.first
  obtain ⟨f4, fd4, F4, b4, m4⟩ := S.by_
  obtain ⟨f5, fd5, F5, b5, m5⟩ := S.after
  obtain ⟨f6, fd6, F6, b6, m6⟩ := S.reply
  obtain ⟨f7, fd7, F7, b7, m7⟩ := S.ring
  have G0 : FnOk P w K mg base CX0 (k + 9) f0 fd0 ["self", "weights"] (spBegin K C) := ok_begin (k := k + 7) F0 T
  have G1 : FnOk P w K mg base CX0 (k + 9) f1 fd1 ["self", "letters"] (spWord K C) := ok_word (k := k + 5) F1 T
  have G2 : FnOk P w K mg base CX0 (k + 9) f2 fd2 ["self", "letters"] (spWait K C) := ok_wait (k := k + 3) F2 T
  have G3 : FnOk P w K mg base CX0 (k + 9) f3 fd3 ["self"] (spFirst K C) := ok_first (k := k + 3) F3 T
  have G4 : FnOk P w K mg base CX0 (k + 9) f4 fd4 ["self", "count"] (spBy K C) := ok_by (k := k + 3) F4 T
  have G5 : FnOk P w K mg base CX0 (k + 9) f5 fd5 ["self", "letters"] (spAfter K C) := ok_after (k := k + 3) F5 T
  have G6 : FnOk P w K mg base CX0 (k + 9) f6 fd6 ["self", "letters"] (spReply K C) := ok_reply (k := k + 1) F6 T
  have G7 : FnOk P w K mg base CX0 (k + 9) f7 fd7 ["self", "length"] (spRing C) := ok_ring F7 T
  obtain ⟨t0, c0⟩ := N.n0
  obtain ⟨t1, c1⟩ := N.n1
  obtain ⟨t2, c2⟩ := N.n2
  obtain ⟨t4, c4⟩ := N.n4
  obtain ⟨t5, c5⟩ := N.n5
  obtain ⟨t6, c6⟩ := N.n6
  obtain ⟨t7, c7⟩ := N.n7
  refine F.ok scAnsw (fun vs H Q E h => ?_) (fun cdv A outer s H vs Q E hr h => ?_)
  · obtain ⟨p, a, l, zo, c, g, rfl, _⟩ := h
    rfl
  · obtain ⟨p, a, l, zo, c, g, rfl, hS, hA, sd, inb, q⟩ := h
    refine ⟨_, pss_cons (ps_if (pt_cmpR op_eq (pv 1) (pe_glob (v := .int 0) rfl c0 ⟨_, rfl⟩) (nomark _)) (pss_one (ps_ret (pe_meth (pv 0) T.cl m0 G0 hr b0 .nil pass0 (pa_cons (pv 2) pa_nil)))) pss_nil)
      (pss_cons (ps_if (pt_cmpR op_eq (pv 1) (pe_glob (v := .int 1) rfl c1 ⟨_, rfl⟩) (nomark _)) (pss_one (ps_ret (pe_meth (pv 0) T.cl m1 G1 hr b1 .nil pass0 (pa_cons (pv 2) pa_nil)))) pss_nil)
      (pss_cons (ps_if (pt_cmpR op_eq (pv 1) (pe_glob (v := .int 2) rfl c2 ⟨_, rfl⟩) (nomark _)) (pss_one (ps_ret (pe_meth (pv 0) T.cl m2 G2 hr b2 .nil pass0 (pa_cons (pv 2) pa_nil)))) pss_nil)
      (pss_cons (ps_if (pt_cmpR op_eq (pv 1) (pe_glob (v := .int 4) rfl c4 ⟨_, rfl⟩) (nomark _)) (pss_one (ps_ret (pe_meth (pv 0) T.cl m4 G4 hr b4 .nil pass0 (pa_cons (pe_ix ix_list (pv 2) pe_int (fun _ _ => rfl)) pa_nil)))) pss_nil)
      (pss_cons (ps_if (pt_cmpR op_eq (pv 1) (pe_glob (v := .int 5) rfl c5 ⟨_, rfl⟩) (nomark _)) (pss_one (ps_ret (pe_meth (pv 0) T.cl m5 G5 hr b5 .nil pass0 (pa_cons (pv 2) pa_nil)))) pss_nil)
      (pss_cons (ps_if (pt_cmpR op_eq (pv 1) (pe_glob (v := .int 6) rfl c6 ⟨_, rfl⟩) (nomark _)) (pss_one (ps_ret (pe_meth (pv 0) T.cl m6 G6 hr b6 .nil pass0 (pa_cons (pv 2) pa_nil)))) pss_nil)
      (pss_cons (ps_if (pt_cmpR op_eq (pv 1) (pe_glob (v := .int 7) rfl c7 ⟨_, rfl⟩) (nomark _)) (pss_one (ps_ret (pe_meth (pv 0) T.cl m7 G7 hr b7 .nil pass0 (pa_cons (pe_ix ix_list (pv 2) pe_int (fun _ _ => rfl)) pa_nil)))) pss_nil)
      (pss_one (ps_ret (pe_meth0 (pv 0) T.cl m3 G3 hr b3 .nil pass0))))))))), ?_⟩
    obtain ⟨dx, wl, ps, h1, _⟩ := id hS
    have hq := SqL.of (K := K) hA
    obtain ⟨w4, wlen⟩ := Sound.words sd
    cases c with
    | begins u =>
      refine ⟨_, rfl, rfl, _, rfl, ifT (decide_eq_true rfl) ?_⟩
      exact ⟨_, rfl, p, dx, _, rfl, h1, sF_no (by decide +kernel) (by decide +kernel), _, rfl, p, a, l, zo, u, g, rfl, hS, hq, q⟩
    | word u =>
      refine ⟨_, rfl, rfl, _, rfl, ifF (vi_ne (by simp [num])) ⟨_, rfl, rfl, _, rfl, ifT (decide_eq_true rfl) ?_⟩⟩
      exact ⟨_, rfl, p, dx, _, rfl, h1, sF_no (by decide +kernel) (by decide +kernel), _, rfl, p, a, l, zo, u, g, rfl, hS, hq, Nat.le_trans inb.1 (by decide), w4, wlen, q⟩
    | wait u =>
      refine ⟨_, rfl, rfl, _, rfl, ifF (vi_ne (by simp [num])) ⟨_, rfl, rfl, _, rfl, ifF (vi_ne (by simp [num])) ⟨_, rfl, rfl, _, rfl, ifT (decide_eq_true rfl) ?_⟩⟩⟩
      exact ⟨_, rfl, p, dx, _, rfl, h1, sF_no (by decide +kernel) (by decide +kernel), _, rfl, p, a, l, zo, u, g, rfl, hS, hq, sd, q⟩
    | first =>
      refine ⟨_, rfl, rfl, _, rfl, ifF (vi_ne (by simp [num])) ⟨_, rfl, rfl, _, rfl, ifF (vi_ne (by simp [num])) ⟨_, rfl, rfl, _, rfl, ifF (vi_ne (by simp [num])) ⟨_, rfl, rfl, _, rfl, ifF (vi_ne (by simp [num])) ⟨_, rfl, rfl, _, rfl, ifF (vi_ne (by simp [num])) ⟨_, rfl, rfl, _, rfl, ifF (vi_ne (by simp [num])) ⟨_, rfl, rfl, _, rfl, ifF (vi_ne (by simp [num])) ?_⟩⟩⟩⟩⟩⟩⟩
      exact ⟨_, rfl, p, dx, _, rfl, h1, sF_no (by decide +kernel) (by decide +kernel), p, l, zo, g, rfl, hS, sd, q⟩
    | by_ n =>
      refine ⟨_, rfl, rfl, _, rfl, ifF (vi_ne (by simp [num])) ⟨_, rfl, rfl, _, rfl, ifF (vi_ne (by simp [num])) ⟨_, rfl, rfl, _, rfl, ifF (vi_ne (by simp [num])) ⟨_, rfl, rfl, _, rfl, ifT (decide_eq_true rfl) ?_⟩⟩⟩⟩
      exact ⟨_, rfl, p, dx, _, rfl, h1, sF_no (by decide +kernel) (by decide +kernel), _, rfl, a, _, (0 : Nat), _, rfl, rfl, hq, atI_nat (v := V.int (n : Nat)) rfl, p, l, zo, n, g, rfl, hS, sd, q⟩
    | after u =>
      refine ⟨_, rfl, rfl, _, rfl, ifF (vi_ne (by simp [num])) ⟨_, rfl, rfl, _, rfl, ifF (vi_ne (by simp [num])) ⟨_, rfl, rfl, _, rfl, ifF (vi_ne (by simp [num])) ⟨_, rfl, rfl, _, rfl, ifF (vi_ne (by simp [num])) ⟨_, rfl, rfl, _, rfl, ifT (decide_eq_true rfl) ?_⟩⟩⟩⟩⟩
      exact ⟨_, rfl, p, dx, _, rfl, h1, sF_no (by decide +kernel) (by decide +kernel), _, rfl, p, a, l, zo, u, g, rfl, hS, hq, sd, q⟩
    | reply u =>
      refine ⟨_, rfl, rfl, _, rfl, ifF (vi_ne (by simp [num])) ⟨_, rfl, rfl, _, rfl, ifF (vi_ne (by simp [num])) ⟨_, rfl, rfl, _, rfl, ifF (vi_ne (by simp [num])) ⟨_, rfl, rfl, _, rfl, ifF (vi_ne (by simp [num])) ⟨_, rfl, rfl, _, rfl, ifF (vi_ne (by simp [num])) ⟨_, rfl, rfl, _, rfl, ifT (decide_eq_true rfl) ?_⟩⟩⟩⟩⟩⟩
      exact ⟨_, rfl, p, dx, _, rfl, h1, sF_no (by decide +kernel) (by decide +kernel), _, rfl, p, a, l, zo, u, g, rfl, hS, hq, sd, q⟩
    | ring n =>
      refine ⟨_, rfl, rfl, _, rfl, ifF (vi_ne (by simp [num])) ⟨_, rfl, rfl, _, rfl, ifF (vi_ne (by simp [num])) ⟨_, rfl, rfl, _, rfl, ifF (vi_ne (by simp [num])) ⟨_, rfl, rfl, _, rfl, ifF (vi_ne (by simp [num])) ⟨_, rfl, rfl, _, rfl, ifF (vi_ne (by simp [num])) ⟨_, rfl, rfl, _, rfl, ifF (vi_ne (by simp [num])) ⟨_, rfl, rfl, _, rfl, ifT (decide_eq_true rfl) ?_⟩⟩⟩⟩⟩⟩⟩
      exact ⟨_, rfl, p, dx, _, rfl, h1, sF_no (by decide +kernel) (by decide +kernel), _, rfl, a, _, (0 : Nat), _, rfl, rfl, hq, atI_nat (v := V.int (n : Nat)) rfl, p, l, zo, n, g, rfl, hS, sd, q⟩
/-! ### answers -/
/-- the state behind some calls -/
def stAt : Game → List Call → Game
  | g, [] => g
  | g, c :: cs => stAt (Uw53.step g c).1 cs
theorem stAt_snoc (g : Game) (cs : List Call) (c : Call) : stAt g (cs ++ [c]) = (Uw53.step (stAt g cs) c).1 := by
  induction cs generalizing g with
  | nil => rfl
  | cons x cs ih => exact ih _
theorem due_append (g : Game) (cs ds : List Call) : Rw.due g (cs ++ ds) = Rw.due g cs ++ Rw.due (stAt g cs) ds := by
  induction cs generalizing g with
  | nil => rfl
  | cons x cs ih =>
    show (_ :: (_ ++ Rw.due _ (cs ++ ds))) = (_ :: (_ ++ Rw.due _ cs)) ++ _
    rw [ih, List.cons_append, List.append_assoc]
    rfl
theorem sound_at {cs : List Call} : ∀ {g : Game}, Rw.Sound g → Rw.Sound (stAt g cs) := by
  induction cs with
  | nil => exact fun h => h
  | cons x cs ih => exact fun h => ih (Rw.sound_step h x)
theorem asked_short {ns : List Int} (h : PyUw53.answers_asked ns = true) : (PyUw53.answers ns).length ≤ 10000000 := by
  unfold PyUw53.answers_asked at h
  cases hc : PyFlat.calls PyUw53.shape ns.length ns with
  | none => rw [hc] at h; cases h
  | some raw =>
    rw [hc] at h
    simp only [Bool.and_eq_true] at h
    exact of_decide_eq_true h.2
def spAns (K : PySem.W.Frag) : Sp := fun vs H Q _ => ∃ (a : Addr) (ns : List Int), vs = [.ref a] ∧ SqL K H a (ns.map V.int) ∧ PyUw53.answers_asked ns = true ∧
  ∀ (H' : Hp) (p : Addr), H' p = some (.lst ((PyUw53.answers ns).map V.int)) → Q (.ref p) H'
theorem scAns : FnScope ["calls", "session", "given", "number", "numbers", "answered"] ["calls"] (defScope sAns) := ⟨rfl, rfl, rfl, by decide +kernel, rfl, by decide +kernel, by decide +kernel⟩
theorem ok_ans {f fI fA fB : Addr} {fd fdI fdA fdB : FuncData} {k : Nat} (F : Fun K "answers" "answers" sAns f fd) (T : Txt K mg C) (N : TxN mg) (S : TxS K C) (gC : mg "Session" = some (.ref C)) (M : Mk K C fI) (FI : Fun K "__init__" "Session.__init__" sInit fI fdI) (bI : Binds K fdI ["self"] [])
    (FA : Fun K "calls_apart" "calls_apart" sApart fA fdA) (bA : Binds K fdA ["calls"] []) (gA : mg "calls_apart" = some (.ref fA)) (FB : Fun K "answer" "answer" sAnsw fB fdB) (bB : Binds K fdB ["session", "number", "numbers"] []) (gB : mg "answer" = some (.ref fB)) :
    FnOk P w K mg base CX0 (k + 11) f fd ["calls"] (spAns K) := by
  have GI : FnOk P w K mg base CX0 (k + 9) fI fdI ["self"] (spInit C) := ok_init (k := k + 8) FI T
  have GA : FnOk P w K mg base CX0 (k + 10) fA fdA ["calls"] (spApart K) := ok_apart (k := k + 9) FA T.d.len N
  have GB : FnOk P w K mg base CX0 (k + 10) fB fdB ["session", "number", "numbers"] (spAnsw K C) := ok_answ FB T N S
  have ml := T.d.len
  refine F.ok scAns (fun vs H Q E h => ?_) (fun cdv A outer s H vs Q E hr h => ?_)
  · obtain ⟨a, ns, rfl, _⟩ := h
    rfl
  · obtain ⟨a, ns, rfl, hA, asked, q⟩ := h
    have short := asked_short asked
    obtain ⟨cs, rfl, c1, c40, inb, edue⟩ := Rw.asked_calls asked
    rw [edue] at short q
    refine ⟨_, pss_cons (ps_set (i := 1) scAns.nd rfl (.inl rfl) (pe_make0 M GI hr rfl gC bI .nil pass0))
      (pss_cons (ps_set (i := 2) scAns.nd rfl (.inl rfl) (pe_lst pa_nil))
      (pss_cons (ps_for PassesOwn.never rfl (pi_list (pe_call GA hr (by rfl) gA FA.kp bA .nil pass0 (pa_cons (pv 0) pa_nil))) (pg_tup rfl (pgs_cons (pg_name (i := 3) scAns.nd rfl (.inl rfl)) (pgs_cons (pg_name (i := 4) scAns.nd rfl (.inl rfl)) pgs_nil)))
        (pss_cons (ps_set (i := 5) scAns.nd rfl (.inl rfl) (pe_call GB hr (by rfl) gB FB.kp bB .nil pass0 (pa_cons (pv 1) (pa_cons (pv 3) (pa_cons (pv 4) pa_nil)))))
        (pss_cons (ps_expr (pe_bm PySem.F.plainAttrs_list PySem.F.slot_list_append PySem.F.type_list_append mt_append (pv 2) (pa_cons (pe_callB call_len_seq (by rfl) ml PySem.boot_len (pa_cons (pv 5) pa_nil)) pa_nil)))
        (pss_one (ps_expr (pe_bm PySem.F.plainAttrs_list PySem.F.slot_list_extend PySem.F.type_list_extend mt_extend (pv 2) (pa_cons (pv 5) pa_nil)))))))
      (pss_one (ps_ret (pv 2))))), ?_⟩
    intro p dx np nd ne
    refine ⟨p, dx, rfl, upd_same, fun H1 l0 hS0 nl0 keep => ⟨rfl, Nat.zero_le _, fun o no => ?_⟩⟩
    have s1 : Same H H1 := fun b ob e => by
      have bp : b ≠ p := ne_of_none e np
      refine keep b ob ?_ bp
      rw [upd_ne bp, upd_ne (ne_of_none e nd)]
      exact e
    have hSo := hS0.with (ob := .lst []) no
    have so := same_upd (o := .lst []) no
    refine ⟨_, rfl, a, cs, rfl, (s1.trans so).seq hA, c40, inb, fun H2 t0 ts s2 nt0 et0 hT => ?_⟩
    obtain ⟨dx0, wl0, ps0, x1, x2, x3, _⟩ := id hS0
    have lts : ts.length = cs.length := hT.1
    -- what was there behind calls_apart stands, but for the session's objects and the answers
    refine ⟨t0, rfl, ⟨_, SqL.of et0⟩, for_list (K := K) (a := t0) (xs := ts.map V.ref) (fun i σ H3 => ∃ (l : Addr) (v3 v4 v5 : Option V), σ = [some (.ref a), some (.ref p), some (.ref o), v3, v4, v5] ∧ SessO C o H3 p l (stAt Uw53.init (cs.take i)) ∧ (l = l0 ∨ H2 l = none) ∧ (∀ b ob, H2 b = some ob → b ≠ p → b ≠ l0 → b ≠ o → H3 b = some ob) ∧ H3 o = some (.lst ((Rw.due Uw53.init (cs.take i)).map V.int)))
      ⟨l0, none, none, none, rfl, hSo.same s2, Or.inl rfl, fun b ob e _ _ _ => e, s2 _ _ upd_same⟩ (fun i σ H3 _ ⟨l, _, _, _, _, _, _, fix, _⟩ => SqL.of (fix _ _ et0 ?_ ?_ ?_)) ?_ ?_⟩
    · intro z
      have := so _ _ x1
      rw [← z, nt0] at this
      cases this
    · intro z
      have := so _ _ x3
      rw [← z, nt0] at this
      cases this
    · intro z
      rw [z, upd_same] at nt0
      cases nt0
    · rintro i x σ H3 hx ⟨l, v3, v4, v5, rfl, hS, hl, fix, eo⟩
      obtain ⟨t, gt, rfl⟩ := ref_at hx
      have il : i < cs.length := by
        have := (List.getElem?_eq_some_iff.mp gt).1
        omega
      have gc : cs[i]? = some cs[i] := List.getElem?_eq_getElem il
      generalize cs[i] = c at gc
      obtain ⟨qa, h1, h2, h0, h3, h4⟩ := hT.2 i t c gt gc
      have tp : t ≠ p := ne_of h3 (s2 _ _ (so _ _ x1)) (by intro z; cases z)
      have tl : t ≠ l0 := ne_of h3 (s2 _ _ (so _ _ x3)) (by intro z; cases z)
      have to_ : t ≠ o := ne_of h3 (s2 _ _ upd_same) (by intro z; cases z)
      have q1 : qa ≠ p := fun z => by
        have := so _ _ x1
        rw [← z, h0] at this
        cases this
      have q2 : qa ≠ l0 := fun z => by
        have := so _ _ x3
        rw [← z, h0] at this
        cases this
      have q3 : qa ≠ o := fun z => by
        rw [z, upd_same] at h0
        cases h0
      have h33 := fix _ _ h3 tp tl to_
      have h34 := fix _ _ h4 q1 q2 q3
      refine ⟨t, [_, _], rfl, .inl (.inl h33), rfl, _, [_], rfl, _, [], rfl, rfl, ?_⟩
      refine ⟨_, rfl, _, rfl, _, rfl, p, qa, l, o, c, _, rfl, hS, h34, sound_at Rw.sound_init, inb c (List.mem_of_getElem? gc), fun H4 l' y hS' hl' kp ny ey hly => ?_⟩
      obtain ⟨_, _, _, y1, _, y3, _, _, _, _, zp, zl, _⟩ := id hS
      have eo4 := kp _ _ eo zp zl
      have oy : o ≠ y := ne_of_none eo ny
      have step : Rw.due Uw53.init (cs.take (i + 1)) = Rw.due Uw53.init (cs.take i) ++ (((Uw53Neutral.out (Uw53.step (stAt Uw53.init (cs.take i)) c).2).length : Int) :: Uw53Neutral.out (Uw53.step (stAt Uw53.init (cs.take i)) c).2) := by
        rw [take_more gc, due_append]
        congr 1
        show (_ :: (_ ++ [])) = _
        rw [List.append_nil]
      have bound : (Rw.due Uw53.init (cs.take (i + 1))).length ≤ 10000000 := by
        have e := due_append Uw53.init (cs.take (i + 1)) (cs.drop (i + 1))
        rw [List.take_append_drop] at e
        rw [e, List.length_append] at short
        omega
      have st := stAt_snoc Uw53.init (cs.take i) c
      rw [← take_more gc] at st
      rw [← st] at hS'
      generalize Uw53Neutral.out (Uw53.step (stAt Uw53.init (cs.take i)) c).2 = ans at *
      rw [step, List.length_append, List.length_cons] at bound
      have big : (10000000 : Nat) < sizeLine := by decide
      refine ⟨_, rfl, .inl ⟨rfl, _, SqL.of eo4⟩, _, rfl, y, _, rfl, .inl (SqL.of ey), o, _, _, rfl, rfl, eo4, ?_, ?_⟩
      · rw [List.length_map]
        omega
      · have ey2 : (upd H4 o (.lst ((Rw.due Uw53.init (cs.take i)).map V.int ++ [V.int ((ans.map V.int).length : Nat)]))) y = some (.lst (ans.map V.int)) := by
          rw [upd_ne (Ne.symm oy)]
          exact ey
        refine ⟨_, rfl, .inl ⟨rfl, _, SqL.of upd_same⟩, _, rfl, o, y, _, _, rfl, rfl, upd_same, ey2, ?_, ?_⟩
        · rw [List.length_append, List.length_map, List.length_map]
          show _ + 1 + _ ≤ sizeLine
          omega
        · refine ⟨l', _, _, _, rfl, (hS'.upd).upd, ?_, fun b ob e b1 b2 b3 => ?_, ?_⟩
          · rcases hl' with e | e
            · rw [e]; exact hl
            · by_cases d2 : l' = l0
              · exact Or.inl d2
              · refine Or.inr ?_
                cases c2 : H2 l' with
                | none => rfl
                | some ob =>
                  by_cases d1 : l' = p
                  · rw [d1, y1] at e; cases e
                  · by_cases d3 : l' = o
                    · rw [d3, eo] at e; cases e
                    · rw [fix _ _ c2 d1 d2 d3] at e; cases e
          · rw [upd_ne b3, upd_ne b3]
            have bl : b ≠ l := by
              rcases hl with z | z
              · rw [z]; exact b2
              · exact ne_of_none e z
            exact kp _ _ (fix _ _ e b1 b2 b3) b1 bl
          · rw [upd_same, step, List.map_append, List.append_assoc]
            have : ((ans.map V.int).length : Nat) = ans.length := List.length_map ..
            rw [this]
            rfl
    · rintro σ H3 ⟨l, v3, v4, v5, rfl, hS, hl, fix, eo⟩
      rw [List.length_map, lts, List.take_length] at eo
      exact ⟨_, rfl, q H3 o eo⟩
end
end Rt
/-! ### the end -/
namespace Rt
open PySem PySem.Spec PyProof.Rows L2
theorem def_mk {K : PySem.W.Frag} {h : Heap} {mg : Str → Option Value} (X : K.In h) (G : h.Ns mainGlobals mg) {name : Str} {st : Stmt} {ps : List Str} {f : Addr} {od an : Option Addr} {sl : Array (Option Value)} {oc kV dc pm cd ct : Value}
    (a : PySem.W.nsIn K mainGlobals name = some (some (.ref f))) (l : K.lookup f = some ⟨oc, od, .func (PySem.W.fnOf name name (defArgs st) (defBody st) (defScope st) .none kV dc pm an cd ct), sl⟩) (c : PySem.W.codeIn K cd name = true) (k : PySem.W.keepIn K (.ref f) = true)
    (b : ∀ (kV doc pm : Value) (an : Option Addr) (cdv ct : Value) (us : List Value), us.length = ps.length → bindArgs (PySem.W.fnOf name name (defArgs st) (defBody st) (defScope st) .none kV doc pm an cdv ct) ⟨us, []⟩ = pure (ps.zip us)) : Def K mg name st ps :=
  ⟨f, _, fun_mk l c k, (fun_mk l c k).binds b, PySem.W.mg_of X G a⟩
theorem defM_mk {K : PySem.W.Frag} {C : Addr} {name qual : Str} {st : Stmt} {ps : List Str} {f : Addr} {od an : Option Addr} {sl : Array (Option Value)} {oc kV dc pm cd ct : Value}
    (a : PySem.W.findIn K (.ref C) name = some (some (.ref f))) (i : PySem.W.isFn K (.ref f) = true) (l : K.lookup f = some ⟨oc, od, .func (PySem.W.fnOf name qual (defArgs st) (defBody st) (defScope st) .none kV dc pm an cd ct), sl⟩) (c : PySem.W.codeIn K cd qual = true) (k : PySem.W.keepIn K (.ref f) = true)
    (b : ∀ (kV doc pm : Value) (an : Option Addr) (cdv ct : Value) (us : List Value), us.length = ps.length → bindArgs (PySem.W.fnOf name qual (defArgs st) (defBody st) (defScope st) .none kV doc pm an cdv ct) ⟨us, []⟩ = pure (ps.zip us)) : DefM K C name qual st ps :=
  ⟨f, _, fun_mk l c k, (fun_mk l c k).binds b, ⟨a, i, k⟩⟩
theorem no_attr {K : PySem.W.Frag} {C : Addr} {x : Str} (h : PySem.W.findIn K (.ref C) x = some none) : NoAttr K C x := h
theorem num_mk {K : PySem.W.Frag} {h : Heap} {mg : Str → Option Value} (X : K.In h) (G : h.Ns mainGlobals mg) {name : Str} {n : Int} {t : Nat} (a : PySem.W.nsIn K mainGlobals name = some (some (.int n t))) : Num mg name n := ⟨t, PySem.W.mg_of X G a⟩
theorem all_mk {P : Program} {w : World} {K : PySem.W.Frag} {h : Heap} {mg : Str → Option Value} {fa C : Addr} (X : K.In h) (G : h.Ns mainGlobals mg) (hfa : mg "answers" = some (.ref fa))
    (aC : PySem.W.nsIn K mainGlobals "Session" = some (some (.ref C))) (mk : PySem.W.makesIn K C = true) (kc : PySem.W.keepIn K (.ref C) = true)
    (T : Txt K mg C) (N : TxN mg) (S : TxS K C) (DI : DefM K C "__init__" "Session.__init__" sInit ["self"]) (DA : Def K mg "calls_apart" sApart ["calls"]) (DB : Def K mg "answer" sAnsw ["session", "number", "numbers"])
    {od an : Option Addr} {sl : Array (Option Value)} {oc kV dc pm cd ct : Value} {f : Addr}
    (a : PySem.W.nsIn K mainGlobals "answers" = some (some (.ref f))) (l : K.lookup f = some ⟨oc, od, .func (PySem.W.fnOf "answers" "answers" (defArgs sAns) (defBody sAns) (defScope sAns) .none kV dc pm an cd ct), sl⟩) (c : PySem.W.codeIn K cd "answers" = true) (k : PySem.W.keepIn K (.ref f) = true) :
    ∃ fd : FuncData, (∀ (s : Shared) (us : List Value), us.length = (["calls"] : List Str).length → BindsTo s fd ⟨us, []⟩ ((["calls"] : List Str).zip us)) ∧ ∀ base : Heap, K.In base → base.Ns mainGlobals mg → FnOk P w K mg base CX0 11 fa fd ["calls"] (spAns K) := by
  have e := hfa.symm.trans (PySem.W.mg_of X G a)
  cases e
  obtain ⟨fI, fdI, FI, bI, mI⟩ := DI
  obtain ⟨fA, fdA, FA, bA, gA⟩ := DA
  obtain ⟨fB, fdB, FB, bB, gB⟩ := DB
  exact ⟨PySem.W.fnOf "answers" "answers" (defArgs sAns) (defBody sAns) (defScope sAns) .none kV dc pm an cd ct, fun s us hu => match us, hu with | [_], _ => .of_eq rfl, fun base _ _ => ok_ans (k := 0) (fun_mk l c k) T N S (PySem.W.mg_of X G aC) ⟨mk, mI.at_, mI.fn, kc⟩ FI bI FA bA gA FB bB gB⟩
end Rt
open PySem PySem.W PyProof.Rows
set_option maxRecDepth 100000 in
set_option maxHeartbeats 8000000 in
theorem PySem.Challenge.cw_racingwords_s01_answers_holds : PySem.Challenge.rw_racingwords_s01_answers.Holds := by
  w_on; k_headS; (case hw => exact ⟨[.list [.int 3]], by decide +kernel, by decide +kernel⟩)
  k_fillS
  refine L2.walk_specK (r := PySem.Challenge.rw_racingwords_s01_answers) (k := 11) (CX := L2.CX0) (ps := ["calls"]) (sp := Rt.spAns) (by decide +kernel) rfl rfl ⟨rfl, by decide, by decide⟩ (fun w h Y => PySem.W.kIn_of Y) ?F ?S (fun _ _ _ _ z => z)
  case F =>
    intro w mg fa h Y KX G hmg
    refine' Rt.all_mk KX G hmg ?xC ?xm ?xk ?xT ?xN ?xS ?xI ?xA ?xB ?x1 ?x2 ?x3 ?x4
    (case xC => k_is); (case xm => k_is); (case xk => k_is)
    (case x1 => k_is); (case x2 => k_is); (case x3 => k_is); (case x4 => k_is)
    case xN => exact ⟨Rt.num_mk KX G (by k_is), Rt.num_mk KX G (by k_is), Rt.num_mk KX G (by k_is), Rt.num_mk KX G (by k_is), Rt.num_mk KX G (by k_is), Rt.num_mk KX G (by k_is), Rt.num_mk KX G (by k_is), Rt.num_mk KX G (by k_is)⟩
    case xA => exact Rt.def_mk KX G (by k_is) (by k_is) (by k_is) (by k_is) fun _ _ _ _ _ _ us hl => match us, hl with | [_], _ => rfl
    case xB => exact Rt.def_mk KX G (by k_is) (by k_is) (by k_is) (by k_is) fun _ _ _ _ _ _ us hl => match us, hl with | [_, _, _], _ => rfl
    case xI => exact Rt.defM_mk (by k_is) (by k_is) (by k_is) (by k_is) (by k_is) fun _ _ _ _ _ _ us hl => match us, hl with | [_], _ => rfl
    case xS =>
      refine ⟨?m0, ?m1, ?m2, ?m3, ?m4, ?m5, ?m6, ?m7⟩
      case m0 => exact Rt.defM_mk (by k_is) (by k_is) (by k_is) (by k_is) (by k_is) fun _ _ _ _ _ _ us hl => match us, hl with | [_, _], _ => rfl
      case m1 => exact Rt.defM_mk (by k_is) (by k_is) (by k_is) (by k_is) (by k_is) fun _ _ _ _ _ _ us hl => match us, hl with | [_, _], _ => rfl
      case m2 => exact Rt.defM_mk (by k_is) (by k_is) (by k_is) (by k_is) (by k_is) fun _ _ _ _ _ _ us hl => match us, hl with | [_, _], _ => rfl
      case m3 => exact Rt.defM_mk (by k_is) (by k_is) (by k_is) (by k_is) (by k_is) fun _ _ _ _ _ _ us hl => match us, hl with | [_], _ => rfl
      case m4 => exact Rt.defM_mk (by k_is) (by k_is) (by k_is) (by k_is) (by k_is) fun _ _ _ _ _ _ us hl => match us, hl with | [_, _], _ => rfl
      case m5 => exact Rt.defM_mk (by k_is) (by k_is) (by k_is) (by k_is) (by k_is) fun _ _ _ _ _ _ us hl => match us, hl with | [_, _], _ => rfl
      case m6 => exact Rt.defM_mk (by k_is) (by k_is) (by k_is) (by k_is) (by k_is) fun _ _ _ _ _ _ us hl => match us, hl with | [_, _], _ => rfl
      case m7 => exact Rt.defM_mk (by k_is) (by k_is) (by k_is) (by k_is) (by k_is) fun _ _ _ _ _ _ us hl => match us, hl with | [_, _], _ => rfl
    case xT =>
      refine ⟨⟨by k_is, by k_is, by k_is, by k_is⟩, Rt.no_attr (by k_is), Rt.no_attr (by k_is), ⟨mg_none_of KX G (by k_is), mg_none_of KX G (by k_is), mg_none_of KX G (by k_is), mg_none_of KX G (by k_is), mg_none_of KX G (by k_is), mg_none_of KX G (by k_is), mg_none_of KX G (by k_is), ?d0, ?d1, ?d2, ?d3, ?d4, ?d5, ?d6, ?d7, ?d8, ?d9, ?d10, ?d11, ?d12⟩, ?e0, ?e1, ?e2, ?e3, ?e4, ?e5, ?e6, ?e7, ?e8, ?e9, ?e10, ?e11, ?e12, ?e13, ?e14, Rt.num_mk KX G (by k_is), Rt.num_mk KX G (by k_is), Rt.num_mk KX G (by k_is), Rt.num_mk KX G (by k_is), Rt.num_mk KX G (by k_is), Rt.num_mk KX G (by k_is), Rt.num_mk KX G (by k_is), Rt.num_mk KX G (by k_is), Rt.num_mk KX G (by k_is), Rt.num_mk KX G (by k_is), Rt.num_mk KX G (by k_is), Rt.num_mk KX G (by k_is), Rt.num_mk KX G (by k_is), Rt.num_mk KX G (by k_is), Rt.num_mk KX G (by k_is), Rt.num_mk KX G (by k_is), Rt.num_mk KX G (by k_is), Rt.num_mk KX G (by k_is)⟩
      case d0 => exact Rt.def_mk KX G (by k_is) (by k_is) (by k_is) (by k_is) fun _ _ _ _ _ _ us hl => match us, hl with | [_, _], _ => rfl
      case d1 => exact Rt.def_mk KX G (by k_is) (by k_is) (by k_is) (by k_is) fun _ _ _ _ _ _ us hl => match us, hl with | [_, _], _ => rfl
      case d2 => exact Rt.def_mk KX G (by k_is) (by k_is) (by k_is) (by k_is) fun _ _ _ _ _ _ us hl => match us, hl with | [_, _], _ => rfl
      case d3 => exact Rt.def_mk KX G (by k_is) (by k_is) (by k_is) (by k_is) fun _ _ _ _ _ _ us hl => match us, hl with | [_, _], _ => rfl
      case d4 => exact Rt.def_mk KX G (by k_is) (by k_is) (by k_is) (by k_is) fun _ _ _ _ _ _ us hl => match us, hl with | [_, _, _, _], _ => rfl
      case d5 => exact Rt.def_mk KX G (by k_is) (by k_is) (by k_is) (by k_is) fun _ _ _ _ _ _ us hl => match us, hl with | [_], _ => rfl
      case d6 => exact Rt.def_mk KX G (by k_is) (by k_is) (by k_is) (by k_is) fun _ _ _ _ _ _ us hl => match us, hl with | [_], _ => rfl
      case d7 => exact Rt.def_mk KX G (by k_is) (by k_is) (by k_is) (by k_is) fun _ _ _ _ _ _ us hl => match us, hl with | [_, _], _ => rfl
      case d8 => exact Rt.def_mk KX G (by k_is) (by k_is) (by k_is) (by k_is) fun _ _ _ _ _ _ us hl => match us, hl with | [_, _], _ => rfl
      case d9 => exact Rt.def_mk KX G (by k_is) (by k_is) (by k_is) (by k_is) fun _ _ _ _ _ _ us hl => match us, hl with | [_, _, _], _ => rfl
      case d10 => exact Rt.def_mk KX G (by k_is) (by k_is) (by k_is) (by k_is) fun _ _ _ _ _ _ us hl => match us, hl with | [_, _, _], _ => rfl
      case d11 => exact Rt.def_mk KX G (by k_is) (by k_is) (by k_is) (by k_is) fun _ _ _ _ _ _ us hl => match us, hl with | [_, _, _, _], _ => rfl
      case d12 => exact Rt.def_mk KX G (by k_is) (by k_is) (by k_is) (by k_is) fun _ _ _ _ _ _ us hl => match us, hl with | [_, _, _], _ => rfl
      case e0 => exact Rt.def_mk KX G (by k_is) (by k_is) (by k_is) (by k_is) fun _ _ _ _ _ _ us hl => match us, hl with | [_], _ => rfl
      case e1 => exact Rt.def_mk KX G (by k_is) (by k_is) (by k_is) (by k_is) fun _ _ _ _ _ _ us hl => match us, hl with | [_, _], _ => rfl
      case e2 => exact Rt.def_mk KX G (by k_is) (by k_is) (by k_is) (by k_is) fun _ _ _ _ _ _ us hl => match us, hl with | [_, _], _ => rfl
      case e3 => exact Rt.def_mk KX G (by k_is) (by k_is) (by k_is) (by k_is) fun _ _ _ _ _ _ us hl => match us, hl with | [_, _], _ => rfl
      case e4 => exact Rt.def_mk KX G (by k_is) (by k_is) (by k_is) (by k_is) fun _ _ _ _ _ _ us hl => match us, hl with | [_, _], _ => rfl
      case e5 => exact Rt.def_mk KX G (by k_is) (by k_is) (by k_is) (by k_is) fun _ _ _ _ _ _ us hl => match us, hl with | [_, _], _ => rfl
      case e6 => exact Rt.def_mk KX G (by k_is) (by k_is) (by k_is) (by k_is) fun _ _ _ _ _ _ us hl => match us, hl with | [_, _], _ => rfl
      case e7 => exact Rt.def_mk KX G (by k_is) (by k_is) (by k_is) (by k_is) fun _ _ _ _ _ _ us hl => match us, hl with | [_, _, _], _ => rfl
      case e8 => exact Rt.def_mk KX G (by k_is) (by k_is) (by k_is) (by k_is) fun _ _ _ _ _ _ us hl => match us, hl with | [_, _, _], _ => rfl
      case e9 => exact Rt.def_mk KX G (by k_is) (by k_is) (by k_is) (by k_is) fun _ _ _ _ _ _ us hl => match us, hl with | [_, _, _], _ => rfl
      case e10 => exact Rt.def_mk KX G (by k_is) (by k_is) (by k_is) (by k_is) fun _ _ _ _ _ _ us hl => match us, hl with | [_, _], _ => rfl
      case e11 => exact Rt.def_mk KX G (by k_is) (by k_is) (by k_is) (by k_is) fun _ _ _ _ _ _ us hl => match us, hl with | [_, _], _ => rfl
      case e12 => exact Rt.def_mk KX G (by k_is) (by k_is) (by k_is) (by k_is) fun _ _ _ _ _ _ us hl => match us, hl with | [_, _], _ => rfl
      case e13 => exact Rt.def_mk KX G (by k_is) (by k_is) (by k_is) (by k_is) fun _ _ _ _ _ _ us hl => match us, hl with | [_, _, _], _ => rfl
      case e14 => exact Rt.def_mk KX G (by k_is) (by k_is) (by k_is) (by k_is) fun _ _ _ _ _ _ us hl => match us, hl with | [_, _], _ => rfl
  case S =>
    intro K H xs a hO hwi hask hx
    cases hx with
    | cons h1 h2 =>
      cases h2
      cases h1 with
      | lst hs ha =>
        have e := L2.ints_dw a.1 _ ha
        subst e
        exact ⟨_, a.1, rfl, hs, hask, fun H' p hp => .lst (L2.SqL.of hp) (L2.dw_ints _)⟩
