import PyProof.Rows.All
import PyFlatLaws
import Wide.All
import OpenK.AllK
import Wide.FinOn
import Open.SpecLaws
import KE.OsGo
import HandS.ForSpec
import HandS.Comp
import HandS.Iter
import HandS.Wide
import HandS.Walk
import PySem.Challenge.RW_nightsocks_s01_answers
set_option Elab.async false
/-! # The mathematics of the drawer, apart from Python: sums, binomials, the table of draws, fractions. -/
namespace Sk
/-! ## sums -/
def sumTo : Nat → (Nat → Nat) → Nat
  | 0, _ => 0
  | n + 1, f => sumTo n f + f n
theorem sumTo_congr {f g : Nat → Nat} : ∀ {n : Nat}, (∀ i, i < n → f i = g i) → sumTo n f = sumTo n g
  | 0, _ => rfl
  | n + 1, h => by
    show sumTo n f + f n = sumTo n g + g n
    rw [sumTo_congr (n := n) (fun i hi => h i (by omega)), h n (by omega)]
theorem sumTo_zero {f : Nat → Nat} : ∀ {n : Nat}, (∀ i, i < n → f i = 0) → sumTo n f = 0
  | 0, _ => rfl
  | n + 1, h => by
    show sumTo n f + f n = 0
    rw [sumTo_zero (n := n) (fun i hi => h i (by omega)), h n (by omega)]
theorem sumTo_add {f g : Nat → Nat} : ∀ {n : Nat}, sumTo n (fun i => f i + g i) = sumTo n f + sumTo n g
  | 0 => rfl
  | n + 1 => by
    show sumTo n (fun i => f i + g i) + (f n + g n) = sumTo n f + f n + (sumTo n g + g n)
    rw [sumTo_add (n := n)]
    omega
theorem sumTo_mul {f : Nat → Nat} {c : Nat} : ∀ {n : Nat}, sumTo n (fun i => c * f i) = c * sumTo n f
  | 0 => rfl
  | n + 1 => by
    show sumTo n (fun i => c * f i) + c * f n = c * (sumTo n f + f n)
    rw [sumTo_mul (n := n), Nat.mul_add]
theorem sumTo_first {f : Nat → Nat} : ∀ {n : Nat}, sumTo (n + 1) f = f 0 + sumTo n (fun i => f (i + 1))
  | 0 => by show 0 + f 0 = f 0 + 0; omega
  | n + 1 => by
    show sumTo (n + 1) f + f (n + 1) = f 0 + (sumTo n (fun i => f (i + 1)) + f (n + 1))
    rw [sumTo_first (n := n)]
    omega
theorem sumTo_swap {f : Nat → Nat → Nat} {m : Nat} : ∀ {n : Nat}, sumTo n (fun i => sumTo m (f i)) = sumTo m (fun j => sumTo n (fun i => f i j))
  | 0 => (sumTo_zero (fun _ _ => rfl)).symm
  | n + 1 => by
    show sumTo n (fun i => sumTo m (f i)) + sumTo m (f n) = sumTo m (fun j => sumTo n (fun i => f i j) + f n j)
    rw [sumTo_swap (n := n), sumTo_add]
theorem sumTo_more {f : Nat → Nat} {m : Nat} : ∀ {k : Nat}, (∀ i, m ≤ i → f i = 0) → sumTo (m + k) f = sumTo m f
  | 0, _ => rfl
  | k + 1, h => by
    show sumTo (m + k) f + f (m + k) = sumTo m f
    rw [sumTo_more (k := k) h, h (m + k) (by omega)]
    rfl
theorem sumTo_far {f : Nat → Nat} {m n : Nat} (hm : m ≤ n) (h : ∀ i, m ≤ i → f i = 0) : sumTo n f = sumTo m f := by
  have e : n = m + (n - m) := by omega
  rw [e]
  exact sumTo_more h
/-- a sum shifted by a -/
theorem sumTo_shift {g : Nat → Nat} {a : Nat} : ∀ {n : Nat}, sumTo (n + a) (fun p => if a ≤ p then g (p - a) else 0) = sumTo n g
  | 0 => by
    rw [Nat.zero_add]
    exact sumTo_zero (fun i hi => if_neg (by omega))
  | n + 1 => by
    have e : n + 1 + a = (n + a) + 1 := by omega
    rw [e]
    show sumTo (n + a) (fun p => if a ≤ p then g (p - a) else 0) + (if a ≤ n + a then g (n + a - a) else 0) = sumTo n g + g n
    rw [sumTo_shift (n := n), if_pos (by omega), Nat.add_sub_cancel]
theorem sumTo_if {f : Nat → Nat} {k : Nat} : ∀ {n : Nat}, sumTo n (fun i => if i = k then f i else 0) = if k < n then f k else 0
  | 0 => (if_neg (by omega)).symm
  | n + 1 => by
    show sumTo n (fun i => if i = k then f i else 0) + (if n = k then f n else 0) = _
    rw [sumTo_if (n := n)]
    by_cases h : n = k
    · subst h
      rw [if_neg (by omega), if_pos rfl, if_pos (by omega)]
      omega
    · rw [if_neg h]
      by_cases h2 : k < n
      · rw [if_pos h2, if_pos (by omega)]
        rfl
      · rw [if_neg h2, if_neg (by omega)]
theorem sumTo_pos {f : Nat → Nat} : ∀ {n k : Nat}, k < n → 0 < f k → 0 < sumTo n f
  | 0, _, h, _ => by omega
  | n + 1, k, h, hp => by
    show 0 < sumTo n f + f n
    by_cases e : k = n
    · subst e
      omega
    · have := sumTo_pos (n := n) (k := k) (f := f) (by omega) hp
      omega
theorem foldl_add : ∀ (l : List Nat) (a : Nat), l.foldl (fun (a b : Nat) => a + b) a = a + l.sum
  | [], a => by simp
  | x :: r, a => by
    rw [List.foldl_cons, foldl_add r, List.sum_cons]
    omega
theorem total_sum (l : List Nat) : Mu47.total l = l.sum := by
  unfold Mu47.total
  rw [foldl_add]
  omega
theorem sum_range (f : Nat → Nat) : ∀ n, ((List.range n).map f).sum = sumTo n f
  | 0 => rfl
  | n + 1 => by
    rw [List.range_succ, List.map_append, List.sum_append, sum_range f n]
    show sumTo n f + (f n + 0) = sumTo n f + f n
    omega
theorem total_range (f : Nat → Nat) (n : Nat) : Mu47.total ((List.range n).map f) = sumTo n f := by
  rw [total_sum, sum_range]
/-- a list's sum by its places -/
theorem sum_places : ∀ (r : List Nat), r.sum = sumTo r.length (fun q => r.getD q 0)
  | [] => rfl
  | x :: r => by
    rw [List.sum_cons, List.length_cons, sumTo_first, sum_places r]
    rfl
theorem getD_far {r : List Nat} {q : Nat} (h : r.length ≤ q) : r.getD q 0 = 0 := by
  rw [List.getD_eq_getElem?_getD, List.getElem?_eq_none h]
  rfl
theorem sum_places_far {r : List Nat} {n : Nat} (h : r.length ≤ n) : r.sum = sumTo n (fun q => r.getD q 0) := by
  rw [sum_places, sumTo_far h (fun i hi => getD_far hi)]
theorem getD_take {r : List Nat} {p q : Nat} : (r.take p).getD q 0 = if q < p then r.getD q 0 else 0 := by
  rw [List.getD_eq_getElem?_getD, List.getD_eq_getElem?_getD, List.getElem?_take]
  by_cases h : q < p
  · rw [if_pos h, if_pos h]
  · rw [if_neg h, if_neg h]
    rfl
theorem sum_take {r : List Nat} {p : Nat} : (r.take p).sum = sumTo p (fun q => r.getD q 0) := by
  rw [sum_places_far (n := p) (by rw [List.length_take]; omega)]
  exact sumTo_congr (fun i hi => by rw [getD_take, if_pos hi])
theorem sum_drop {r : List Nat} {p : Nat} : (r.take p).sum + (r.drop p).sum = r.sum := by
  rw [← List.sum_append, List.take_append_drop]
/-- rows that are the same but for noughts at their ends -/
def Alike (r s : List Nat) : Prop := ∀ q, r.getD q 0 = s.getD q 0
theorem Alike.take {r s : List Nat} (h : Alike r s) (p : Nat) : (r.take p).sum = (s.take p).sum := by
  rw [sum_take, sum_take]
  exact sumTo_congr (fun i _ => h i)
theorem Alike.sum {r s : List Nat} (h : Alike r s) : r.sum = s.sum := by
  rw [sum_places_far (r := r) (n := r.length + s.length) (by omega), sum_places_far (r := s) (n := r.length + s.length) (by omega)]
  exact sumTo_congr (fun i _ => h i)
theorem Alike.drop {r s : List Nat} (h : Alike r s) (p : Nat) : (r.drop p).sum = (s.drop p).sum := by
  have a := sum_drop (r := r) (p := p)
  have b := sum_drop (r := s) (p := p)
  have c := h.take p
  have d := h.sum
  omega
/-! ## binomials -/
def bin : Nat → Nat → Nat
  | _, 0 => 1
  | 0, _ + 1 => 0
  | n + 1, k + 1 => bin n k + bin n (k + 1)
theorem bin_zero (n : Nat) : bin n 0 = 1 := by cases n <;> rfl
theorem bin_far : ∀ {n k : Nat}, n < k → bin n k = 0
  | 0, 0, h => by omega
  | 0, k + 1, _ => rfl
  | n + 1, 0, h => by omega
  | n + 1, k + 1, h => by
    show bin n k + bin n (k + 1) = 0
    rw [bin_far (n := n) (k := k) (by omega), bin_far (n := n) (k := k + 1) (by omega)]
theorem bin_pos : ∀ {n k : Nat}, k ≤ n → 0 < bin n k
  | n, 0, _ => by rw [bin_zero]; omega
  | 0, k + 1, h => by omega
  | n + 1, k + 1, h => by
    show 0 < bin n k + bin n (k + 1)
    have := bin_pos (n := n) (k := k) (by omega)
    omega
theorem bin_step : ∀ (n k : Nat), (k + 1) * bin n (k + 1) = (n - k) * bin n k
  | 0, k => by
    show (k + 1) * 0 = (0 - k) * bin 0 k
    rw [Nat.zero_sub, Nat.zero_mul, Nat.mul_zero]
  | n + 1, 0 => by
    show (0 + 1) * (bin n 0 + bin n 1) = (n + 1 - 0) * bin (n + 1) 0
    have e := bin_step n 0
    rw [bin_zero, Nat.sub_zero, Nat.mul_one, Nat.zero_add, Nat.one_mul] at e
    rw [bin_zero, bin_zero, e]
    omega
  | n + 1, j + 1 => by
    show (j + 1 + 1) * (bin n (j + 1) + bin n (j + 1 + 1)) = (n + 1 - (j + 1)) * (bin n j + bin n (j + 1))
    have e1 := bin_step n (j + 1)
    have e0 := bin_step n j
    rw [Nat.mul_add, e1, Nat.mul_add]
    have e2 : n + 1 - (j + 1) = n - j := by omega
    rw [e2, ← e0]
    by_cases h : j + 1 ≤ n
    · rw [← Nat.add_mul, ← Nat.add_mul]
      have e3 : j + 1 + 1 + (n - (j + 1)) = j + 1 + (n - j) := by omega
      rw [e3]
    · rw [bin_far (n := n) (k := j + 1) (by omega)]
      rfl
theorem choose_succ (n k : Nat) : Mu47.choose n (k + 1) = Mu47.choose n k * (n - k) / (k + 1) := by
  unfold Mu47.choose
  rw [List.range_succ, List.foldl_append]
  rfl
theorem choose_bin (n : Nat) : ∀ k, Mu47.choose n k = bin n k
  | 0 => (bin_zero n).symm
  | k + 1 => by
    rw [choose_succ, choose_bin n k, Nat.mul_comm, ← bin_step]
    exact Nat.mul_div_cancel_left _ (by omega)
def conv (f : Nat → Nat) (n d : Nat) : Nat := sumTo (n + 1) (fun x => if x ≤ d then bin n x * f (d - x) else 0)
theorem conv_zero (f : Nat → Nat) (n : Nat) : conv f n 0 = f 0 := by
  unfold conv
  rw [sumTo_first, if_pos (by omega), bin_zero, sumTo_zero (fun i _ => if_neg (by omega))]
  show 1 * f 0 + 0 = f 0
  omega
theorem conv_one (f : Nat → Nat) (d : Nat) : conv f 0 d = f d := by
  show 0 + (if 0 ≤ d then bin 0 0 * f (d - 0) else 0) = f d
  rw [if_pos (by omega)]
  show 0 + 1 * f d = f d
  omega
theorem conv_step (f : Nat → Nat) (n d : Nat) : conv f (n + 1) (d + 1) = conv f n (d + 1) + conv f n d := by
  unfold conv
  rw [sumTo_first (n := n + 1)]
  have e1 : sumTo (n + 1) (fun i => if i + 1 ≤ d + 1 then bin (n + 1) (i + 1) * f (d + 1 - (i + 1)) else 0)
      = sumTo (n + 1) (fun i => if i ≤ d then bin n i * f (d - i) else 0) + sumTo (n + 1) (fun i => if i + 1 ≤ d + 1 then bin n (i + 1) * f (d + 1 - (i + 1)) else 0) := by
    rw [← sumTo_add]
    refine sumTo_congr (fun i _ => ?_)
    by_cases h : i ≤ d
    · rw [if_pos h, if_pos (by omega), if_pos (by omega)]
      show (bin n i + bin n (i + 1)) * f (d + 1 - (i + 1)) = _
      rw [Nat.add_mul]
      have e : d + 1 - (i + 1) = d - i := by omega
      rw [e]
    · rw [if_neg h, if_neg (by omega), if_neg (by omega)]
  rw [e1]
  have e2 : sumTo (n + 1 + 1) (fun x => if x ≤ d + 1 then bin n x * f (d + 1 - x) else 0) = sumTo (n + 1) (fun x => if x ≤ d + 1 then bin n x * f (d + 1 - x) else 0) := by
    show sumTo (n + 1) _ + (if n + 1 ≤ d + 1 then bin n (n + 1) * f (d + 1 - (n + 1)) else 0) = _
    rw [bin_far (n := n) (k := n + 1) (by omega), Nat.zero_mul]
    split <;> rfl
  rw [← e2, sumTo_first (n := n + 1), bin_zero, bin_zero]
  omega
/-- Vandermonde -/
theorem conv_bin (m : Nat) : ∀ n d, conv (bin m) n d = bin (m + n) d
  | n, 0 => by rw [conv_zero, bin_zero, bin_zero]
  | 0, d + 1 => conv_one _ _
  | n + 1, d + 1 => by
    rw [conv_step, conv_bin m n (d + 1), conv_bin m n d]
    show _ = bin (m + n) d + bin (m + n) (d + 1)
    omega
/-! ## the table -/
theorem row_more (t : Mu47.Table) (n d : Nat) : (Mu47.more t n).getD d [] = if d ≤ 24 then (List.range 13).map (fun (p : Nat) => Mu47.total ((List.range (n + 1)).map fun (x : Nat) => if x ≤ d ∧ x / 2 ≤ p then Mu47.choose n x * Mu47.cell t (d - x) (p - x / 2) else 0)) else [] := by
  unfold Mu47.more
  rw [List.getD_eq_getElem?_getD, List.getElem?_map]
  by_cases h : d ≤ 24
  · rw [if_pos h, List.getElem?_range (show d < Mu47.SOCKS + 1 from by show d < 24 + 1; omega)]
    rfl
  · rw [if_neg h, List.getElem?_eq_none (by rw [List.length_range]; show 24 + 1 ≤ d; omega)]
    rfl
theorem row_start (d : Nat) : Mu47.start.getD d [] = if d ≤ 24 then (List.range 13).map (fun (p : Nat) => if d = 0 ∧ p = 0 then 1 else 0) else [] := by
  unfold Mu47.start
  rw [List.getD_eq_getElem?_getD, List.getElem?_map]
  by_cases h : d ≤ 24
  · rw [if_pos h, List.getElem?_range (show d < Mu47.SOCKS + 1 from by show d < 24 + 1; omega)]
    rfl
  · rw [if_neg h, List.getElem?_eq_none (by rw [List.length_range]; show 24 + 1 ≤ d; omega)]
    rfl
theorem getD_map_range (f : Nat → Nat) (n p : Nat) : ((List.range n).map f).getD p 0 = if p < n then f p else 0 := by
  rw [List.getD_eq_getElem?_getD, List.getElem?_map]
  by_cases h : p < n
  · rw [if_pos h, List.getElem?_range h]
    rfl
  · rw [if_neg h, List.getElem?_eq_none (by rw [List.length_range]; omega)]
    rfl
/-- one cell with a colour more, whatever its place -/
def gather (t : Mu47.Table) (n d p : Nat) : Nat := sumTo (n + 1) (fun x => if x ≤ d ∧ x / 2 ≤ p then bin n x * Mu47.cell t (d - x) (p - x / 2) else 0)
theorem cell_more (t : Mu47.Table) (n d p : Nat) : Mu47.cell (Mu47.more t n) d p = if d ≤ 24 ∧ p ≤ 12 then gather t n d p else 0 := by
  unfold Mu47.cell
  rw [row_more]
  by_cases h : d ≤ 24
  · rw [if_pos h, getD_map_range]
    by_cases hp : p ≤ 12
    · rw [if_pos (show p < 13 by omega), if_pos ⟨h, hp⟩, total_range]
      unfold gather
      refine sumTo_congr (fun x _ => ?_)
      rw [choose_bin]
    · rw [if_neg (show ¬ p < 13 by omega), if_neg (fun c => hp c.2)]
  · rw [if_neg h, if_neg (fun c => h c.1)]
    rfl
theorem cell_start (d p : Nat) : Mu47.cell Mu47.start d p = if d = 0 ∧ p = 0 then 1 else 0 := by
  unfold Mu47.cell
  rw [row_start]
  by_cases h : d ≤ 24
  · rw [if_pos h, getD_map_range]
    by_cases hp : p < 13
    · rw [if_pos hp]
    · rw [if_neg hp, if_neg (by omega)]
  · rw [if_neg h, if_neg (by omega)]
    rfl
/-- what is true of the table of a drawer with N socks, P pairs -/
structure Good (t : Mu47.Table) (N P : Nat) : Prop where
  two : 2 * P ≤ N
  most : N ≤ 24
  far : ∀ d p, N < d ∨ P < p → Mu47.cell t d p = 0
  all : ∀ d, sumTo 13 (Mu47.cell t d) = bin N d
  top : ∀ p, p < P → Mu47.cell t N p = 0
  wide : ∀ d, (t.getD d []).length ≤ 13
theorem good_start : Good Mu47.start 0 0 where
  two := by omega
  most := by omega
  far := fun d p h => by rw [cell_start, if_neg (by omega)]
  all := fun d => by
    have e : Mu47.cell Mu47.start d = fun p => if p = 0 then (if d = 0 then 1 else 0) else 0 := by
      funext p
      rw [cell_start]
      by_cases h : d = 0
      · by_cases k : p = 0
        · rw [if_pos ⟨h, k⟩, if_pos k, if_pos h]
        · rw [if_neg (fun c => k c.2), if_neg k]
      · rw [if_neg (fun c => h c.1), if_neg h]
        split <;> rfl
    rw [e, sumTo_if (f := fun _ => if d = 0 then 1 else 0) (k := 0), if_pos (by omega)]
    cases d with
    | zero => rfl
    | succ d => rfl
  top := fun p h => by omega
  wide := fun d => by
    rw [row_start]
    split
    · rw [List.length_map, List.length_range]
      omega
    · exact Nat.zero_le _
/-- beyond the edges there is nothing to gather -/
theorem gather_far {t : Mu47.Table} {N P n d p : Nat} (g : Good t N P) (h : N + n < d ∨ P + n / 2 < p) : gather t n d p = 0 := by
  refine sumTo_zero (fun x hx => ?_)
  by_cases c : x ≤ d ∧ x / 2 ≤ p
  · rw [if_pos c, g.far _ _ (by omega), Nat.mul_zero]
  · rw [if_neg c]
theorem cell_gather {t : Mu47.Table} {N P n : Nat} (g : Good t N P) (h : N + n ≤ 24) (d p : Nat) : Mu47.cell (Mu47.more t n) d p = gather t n d p := by
  rw [cell_more]
  by_cases c : d ≤ 24 ∧ p ≤ 12
  · rw [if_pos c]
  · rw [if_neg c, gather_far g]
    have := g.two
    omega
theorem good_more {t : Mu47.Table} {N P n : Nat} (g : Good t N P) (h : N + n ≤ 24) : Good (Mu47.more t n) (N + n) (P + n / 2) where
  two := by have := g.two; omega
  most := h
  far := fun d p k => by rw [cell_gather g h, gather_far g k]
  all := fun d => by
    have e : Mu47.cell (Mu47.more t n) d = fun p => sumTo (n + 1) (fun x => if x ≤ d ∧ x / 2 ≤ p then bin n x * Mu47.cell t (d - x) (p - x / 2) else 0) := by
      funext p
      exact cell_gather g h d p
    rw [e, sumTo_swap (f := fun p x => if x ≤ d ∧ x / 2 ≤ p then bin n x * Mu47.cell t (d - x) (p - x / 2) else 0), ← conv_bin]
    unfold conv
    refine sumTo_congr (fun x hx => ?_)
    by_cases c : x ≤ d
    · rw [if_pos c, ← g.all (d - x), ← sumTo_mul]
      have two := g.two
      have e2 : sumTo 13 (fun i => bin n x * Mu47.cell t (d - x) i) = sumTo (13 - x / 2) (fun i => bin n x * Mu47.cell t (d - x) i) :=
        sumTo_far (by omega) (fun i hi => by rw [g.far _ _ (Or.inr (by omega)), Nat.mul_zero])
      have e3 : 13 = (13 - x / 2) + x / 2 := by omega
      rw [e2, ← sumTo_shift (a := x / 2) (n := 13 - x / 2) (g := fun i => bin n x * Mu47.cell t (d - x) i), ← e3]
      refine sumTo_congr (fun p _ => ?_)
      by_cases c2 : x / 2 ≤ p
      · rw [if_pos ⟨c, c2⟩, if_pos c2]
      · rw [if_neg (fun q => c2 q.2), if_neg c2]
    · rw [if_neg c]
      exact sumTo_zero (fun p _ => if_neg (fun q => c q.1))
  top := fun p k => by
    rw [cell_gather g h]
    refine sumTo_zero (fun x hx => ?_)
    by_cases c : x ≤ N + n ∧ x / 2 ≤ p
    · rw [if_pos c]
      by_cases e : x = n
      · subst e
        rw [Nat.add_sub_cancel, g.top _ (by omega), Nat.mul_zero]
      · rw [g.far _ _ (by omega), Nat.mul_zero]
    · rw [if_neg c]
  wide := fun d => by
    rw [row_more]
    split
    · rw [List.length_map, List.length_range]
      omega
    · exact Nat.zero_le _
theorem good_fold : ∀ (l : List Nat) (t : Mu47.Table) (N P : Nat), Good t N P → N + l.sum ≤ 24 → Good (l.foldl Mu47.more t) (N + l.sum) (P + (l.map (· / 2)).sum)
  | [], t, N, P, g, _ => g
  | n :: r, t, N, P, g, h => by
    rw [List.sum_cons] at h
    have := good_fold r (Mu47.more t n) (N + n) (P + n / 2) (good_more g (by omega)) (by omega)
    rw [List.foldl_cons, List.map_cons, List.sum_cons, List.sum_cons]
    rw [← Nat.add_assoc, ← Nat.add_assoc]
    exact this
theorem pairs_sum (l : List Nat) : Mu47.pairs l = (l.map (· / 2)).sum := total_sum _
theorem good_table {l : List Nat} (h : l.sum ≤ 24) : Good (Mu47.table l) l.sum (Mu47.pairs l) := by
  have g := good_fold l Mu47.start 0 0 good_start (by omega)
  rw [Nat.zero_add, Nat.zero_add, ← pairs_sum] at g
  exact g
/-- a row's sum -/
theorem Good.rowsum {t : Mu47.Table} {N P : Nat} (g : Good t N P) (d : Nat) : (t.getD d []).sum = bin N d := by
  rw [sum_places_far (g.wide d), ← g.all d]
  rfl
theorem fewer_sum (t : Mu47.Table) (d p : Nat) : Mu47.fewer t d p = ((t.getD d []).take p).sum := total_sum _
theorem enough_sum (t : Mu47.Table) (d p : Nat) : Mu47.enough t d p = ((t.getD d []).drop p).sum := total_sum _
theorem fewer_cells (t : Mu47.Table) (d p : Nat) : Mu47.fewer t d p = sumTo p (Mu47.cell t d) := by
  rw [fewer_sum, sum_take]
  rfl
theorem Good.fewer_top {t : Mu47.Table} {N P p : Nat} (g : Good t N P) (h : p ≤ P) : Mu47.fewer t N p = 0 := by
  rw [fewer_cells]
  exact sumTo_zero (fun i hi => g.top i (by omega))
theorem Good.fewer_pos {t : Mu47.Table} {N P p d : Nat} (g : Good t N P) (h : P < p) (hd : d ≤ N) : 0 < Mu47.fewer t d p := by
  rw [fewer_cells]
  have two := g.two
  have most := g.most
  have e1 : sumTo p (Mu47.cell t d) = sumTo (P + 1) (Mu47.cell t d) := sumTo_far (by omega) (fun i hi => g.far _ _ (by omega))
  have e2 : sumTo 13 (Mu47.cell t d) = sumTo (P + 1) (Mu47.cell t d) := sumTo_far (by omega) (fun i hi => g.far _ _ (by omega))
  rw [e1, ← e2, g.all]
  exact bin_pos hd
theorem find_range {q : Nat → Bool} {n k : Nat} (hk : k < n) (h : q k = true) (hl : ∀ j, j < k → q j = false) : (List.range n).find? q = some k := by
  rw [List.find?_range_eq_some]
  exact ⟨h, by rw [List.mem_range]; exact hk, fun j hj => by rw [hl j hj]; rfl⟩
theorem surely_some {l : List Nat} {p k : Nat} (hk : k ≤ l.sum) (h : Mu47.fewer (Mu47.table l) k p = 0) (hl : ∀ j, j < k → 0 < Mu47.fewer (Mu47.table l) j p) : Mu47.surely l p = some k := by
  unfold Mu47.surely
  refine find_range (by rw [total_sum]; omega) ?_ (fun j hj => ?_)
  · show (Mu47.fewer (Mu47.table l) k p == 0) = true
    rw [h]
    rfl
  · have := hl j hj
    show (Mu47.fewer (Mu47.table l) j p == 0) = false
    rw [beq_eq_false_iff_ne]
    omega
theorem surely_none {l : List Nat} {p : Nat} (h24 : l.sum ≤ 24) (h : Mu47.pairs l < p) : Mu47.surely l p = none := by
  unfold Mu47.surely
  rw [List.find?_eq_none]
  intro d hd
  rw [List.mem_range, total_sum] at hd
  have := (good_table h24).fewer_pos h (d := d) (by omega)
  show ¬ (Mu47.fewer (Mu47.table l) d p == 0) = true
  rw [beq_iff_eq]
  omega
end Sk

set_option Elab.async false
namespace Sk
/-! ## one colour more, cell by cell, as the loops add it up -/
def term (T : Nat → Nat → Nat) (n x d p : Nat) : Nat := if x ≤ d ∧ x / 2 ≤ p then bin n x * T (d - x) (p - x / 2) else 0
def upto (T : Nat → Nat → Nat) (n i d p : Nat) : Nat := sumTo i (fun x => term T n x d p)
def part (T : Nat → Nat → Nat) (n x s q d p : Nat) : Nat := upto T n x d p + (if d < s + x ∨ (d = s + x ∧ p < q + x / 2) then term T n x d p else 0)
theorem term_out {T : Nat → Nat → Nat} {n x d p : Nat} (h : d < x ∨ p < x / 2) : term T n x d p = 0 := if_neg (by omega)
theorem part_zero (T : Nat → Nat → Nat) (n x : Nat) : part T n x 0 0 = upto T n x := by
  funext d p
  unfold part
  by_cases h : d < 0 + x ∨ (d = 0 + x ∧ p < 0 + x / 2)
  · rw [if_pos h, term_out (by omega)]
    rfl
  · rw [if_neg h]
    rfl
theorem part_step (T : Nat → Nat → Nat) (n x s q d p : Nat) : part T n x s (q + 1) d p = if d = s + x ∧ p = q + x / 2 then part T n x s q d p + T s q * bin n x else part T n x s q d p := by
  unfold part
  by_cases h : d = s + x ∧ p = q + x / 2
  · rw [if_pos h, if_pos (by omega), if_neg (by omega)]
    unfold term
    rw [if_pos (by omega)]
    have e1 : d - x = s := by omega
    have e2 : p - x / 2 = q := by omega
    rw [e1, e2, Nat.mul_comm]
    rfl
  · rw [if_neg h]
    by_cases k : d < s + x ∨ (d = s + x ∧ p < q + x / 2)
    · rw [if_pos k, if_pos (by omega)]
    · rw [if_neg k, if_neg (by omega)]
theorem part_end {T : Nat → Nat → Nat} {n x s W : Nat} (hW : ∀ p, W ≤ p → T s p = 0) : part T n x s W = part T n x (s + 1) 0 := by
  funext d p
  unfold part
  by_cases h : d < s + x ∨ (d = s + x ∧ p < W + x / 2)
  · rw [if_pos h, if_pos (by omega)]
  · rw [if_neg h]
    by_cases k : d < s + 1 + x ∨ (d = s + 1 + x ∧ p < 0 + x / 2)
    · rw [if_pos k]
      have : term T n x d p = 0 := by
        by_cases e : d = s + x
        · unfold term
          by_cases c : x ≤ d ∧ x / 2 ≤ p
          · have e1 : d - x = s := by omega
            rw [if_pos c, e1, hW _ (by omega), Nat.mul_zero]
          · rw [if_neg c]
        · exact term_out (by omega)
      rw [this]
    · rw [if_neg k]
theorem part_done {T : Nat → Nat → Nat} {n x R : Nat} (hR : ∀ d p, R ≤ d → T d p = 0) : part T n x R 0 = upto T n (x + 1) := by
  funext d p
  show upto T n x d p + _ = upto T n x d p + term T n x d p
  by_cases h : d < R + x ∨ (d = R + x ∧ p < 0 + x / 2)
  · rw [if_pos h]
  · rw [if_neg h]
    have : term T n x d p = 0 := by
      unfold term
      by_cases c : x ≤ d ∧ x / 2 ≤ p
      · rw [if_pos c, hR _ _ (by omega), Nat.mul_zero]
      · rw [if_neg c]
    rw [this]
theorem upto_zero (T : Nat → Nat → Nat) (n : Nat) : upto T n 0 = fun _ _ => 0 := rfl
theorem upto_all {t : Mu47.Table} {N P n : Nat} (g : Good t N P) (h : N + n ≤ 24) : upto (Mu47.cell t) n (n + 1) = Mu47.cell (Mu47.more t n) := by
  funext d p
  exact (cell_gather g h d p).symm
/-! ## sizes -/
theorem bin_le : ∀ n k : Nat, bin n k ≤ 2 ^ n
  | n, 0 => by
    rw [bin_zero]
    exact Nat.one_le_two_pow
  | 0, k + 1 => Nat.zero_le _
  | n + 1, k + 1 => by
    show bin n k + bin n (k + 1) ≤ 2 ^ (n + 1)
    have a := bin_le n k
    have b := bin_le n (k + 1)
    rw [Nat.pow_succ]
    omega
theorem bin_small {n : Nat} (h : n ≤ 24) (k : Nat) : bin n k ≤ 16777216 := Nat.le_trans (bin_le n k) (Nat.le_trans (Nat.pow_le_pow_right (by decide) h) (by decide))
/-- choices's turn, in whole numbers -/
theorem bin_turn {n i : Nat} (h : i < n) : ((bin n i : Nat) : Int) * ((n : Int) - (i : Int)) / ((i : Int) + 1) = ((bin n (i + 1) : Nat) : Int) := by
  have e := bin_step n i
  have e1 : ((n : Int) - (i : Int)) = ((n - i : Nat) : Int) := by omega
  have e2 : ((i : Int) + 1) = ((i + 1 : Nat) : Int) := by omega
  rw [e1, e2, ← Int.natCast_mul, Nat.mul_comm, ← e, Int.natCast_mul]
  exact Int.mul_ediv_cancel_left _ (by omega)
/-! ## rows of a table as the program has them: the first W cells -/
def rowN (f : Nat → Nat) (W : Nat) : List Nat := (List.range W).map f
theorem rowN_getD (f : Nat → Nat) (W q : Nat) : (rowN f W).getD q 0 = if q < W then f q else 0 := getD_map_range f W q
theorem Good.row {t : Mu47.Table} {N P : Nat} (g : Good t N P) (d : Nat) : Alike (rowN (Mu47.cell t d) (P + 1)) (t.getD d []) := by
  intro q
  rw [rowN_getD]
  show _ = Mu47.cell t d q
  by_cases h : q < P + 1
  · rw [if_pos h]
  · rw [if_neg h, g.far _ _ (by omega)]
theorem Good.row_sum {t : Mu47.Table} {N P : Nat} (g : Good t N P) (d : Nat) : (rowN (Mu47.cell t d) (P + 1)).sum = bin N d := (g.row d).sum.trans (g.rowsum d)
theorem Good.row_take {t : Mu47.Table} {N P : Nat} (g : Good t N P) (d p : Nat) : ((rowN (Mu47.cell t d) (P + 1)).take p).sum = Mu47.fewer t d p := ((g.row d).take p).trans (fewer_sum t d p).symm
theorem Good.row_drop {t : Mu47.Table} {N P : Nat} (g : Good t N P) (d p : Nat) : ((rowN (Mu47.cell t d) (P + 1)).drop p).sum = Mu47.enough t d p := ((g.row d).drop p).trans (enough_sum t d p).symm
/-- pairs times ways, over the row -/
theorem Good.row_weight {t : Mu47.Table} {N P : Nat} (g : Good t N P) (d : Nat) : sumTo (P + 1) (fun p => p * Mu47.cell t d p) = Mu47.total ((List.range (Mu47.PAIRS + 1)).map fun (p : Nat) => p * Mu47.cell t d p) := by
  rw [total_range]
  have two := g.two
  have most := g.most
  exact (sumTo_far (show P + 1 ≤ 12 + 1 by omega) (fun i hi => by rw [g.far _ _ (by omega), Nat.mul_zero])).symm
theorem Good.fewer_le {t : Mu47.Table} {N P : Nat} (g : Good t N P) (d p : Nat) : Mu47.fewer t d p ≤ bin N d := by
  have a := sum_drop (r := t.getD d []) (p := p)
  rw [← fewer_sum, g.rowsum] at a
  omega
theorem Good.enough_le {t : Mu47.Table} {N P : Nat} (g : Good t N P) (d p : Nat) : Mu47.enough t d p ≤ bin N d := by
  have a := sum_drop (r := t.getD d []) (p := p)
  rw [← enough_sum, g.rowsum] at a
  omega
/-! ## fractions -/
theorem lowest_eq {a b : Nat} (h : 0 < b) : Mu47.lowest a b = (a / Nat.gcd a b, b / Nat.gcd a b) := if_neg (by omega)
theorem lowest_den {a b : Nat} (h : 0 < b) : 0 < (Mu47.lowest a b).2 := by
  rw [lowest_eq h]
  exact Nat.div_pos (Nat.le_of_dvd h (Nat.gcd_dvd_right a b)) (Nat.gcd_pos_of_pos_right a h)
theorem lowest_le {a b : Nat} (h : 0 < b) : (Mu47.lowest a b).1 ≤ a ∧ (Mu47.lowest a b).2 ≤ b := by
  rw [lowest_eq h]
  exact ⟨Nat.div_le_self _ _, Nat.div_le_self _ _⟩
/-- until's sum behind i rows -/
def sofar (l : List Nat) (p i : Nat) : Nat × Nat := ((List.range i).map fun (d : Nat) => Mu47.lowest (Mu47.fewer (Mu47.table l) d p) (Mu47.choose (Mu47.total l) d)).foldl Mu47.sum (0, 1)
theorem sofar_succ (l : List Nat) (p i : Nat) : sofar l p (i + 1) = Mu47.sum (sofar l p i) (Mu47.lowest (Mu47.fewer (Mu47.table l) i p) (bin l.sum i)) := by
  unfold sofar
  rw [List.range_succ, List.map_append, List.foldl_append, ← choose_bin, ← total_sum]
  rfl
theorem sofar_all (l : List Nat) (p : Nat) : Mu47.until_ l p = sofar l p (l.sum + 1) := by
  unfold Mu47.until_ sofar
  rw [← total_sum]
structure Within (x : Nat × Nat) (c : Nat) : Prop where
  num : x.1 < 2 ^ c
  den : x.2 < 2 ^ c
  pos : 0 < x.2
theorem within_lowest {a b c : Nat} (h : 0 < b) (ha : a < 2 ^ c) (hb : b < 2 ^ c) : Within (Mu47.lowest a b) c :=
  ⟨Nat.lt_of_le_of_lt (lowest_le h).1 ha, Nat.lt_of_le_of_lt (lowest_le h).2 hb, lowest_den h⟩
theorem within_sum {x y : Nat × Nat} {a b : Nat} (hx : Within x a) (hy : Within y b) : x.1 * y.2 + y.1 * x.2 < 2 ^ (a + b + 1) ∧ x.2 * y.2 < 2 ^ (a + b + 1) ∧ 0 < x.2 * y.2 := by
  have h1 : x.1 * y.2 < 2 ^ (a + b) := by
    rw [Nat.pow_add]
    exact Nat.mul_lt_mul'' hx.num hy.den
  have h2 : y.1 * x.2 < 2 ^ (a + b) := by
    rw [Nat.pow_add, Nat.mul_comm]
    exact Nat.mul_lt_mul'' hx.den hy.num
  have h3 : x.2 * y.2 < 2 ^ (a + b) := by
    rw [Nat.pow_add]
    exact Nat.mul_lt_mul'' hx.den hy.den
  have e : 2 ^ (a + b + 1) = 2 ^ (a + b) + 2 ^ (a + b) := by
    rw [Nat.pow_succ]
    omega
  exact ⟨by omega, by omega, Nat.mul_pos hx.pos hy.pos⟩
theorem within_step {x y : Nat × Nat} {a b : Nat} (hx : Within x a) (hy : Within y b) : Within (Mu47.sum x y) (a + b + 1) := by
  obtain ⟨h1, h2, h3⟩ := within_sum hx hy
  exact within_lowest h3 h1 h2
theorem within_row {l : List Nat} (h24 : l.sum ≤ 24) (p : Nat) {i : Nat} (h : i ≤ l.sum) : Within (Mu47.lowest (Mu47.fewer (Mu47.table l) i p) (bin l.sum i)) 25 := by
  have g := good_table h24
  have a := g.fewer_le i p
  have b := bin_small h24 i
  have e : (2 : Nat) ^ 25 = 33554432 := by decide
  exact within_lowest (bin_pos h) (by omega) (by omega)
theorem within_sofar {l : List Nat} (h24 : l.sum ≤ 24) (p : Nat) : ∀ {i : Nat}, i ≤ l.sum + 1 → Within (sofar l p i) (26 * i + 1)
  | 0, _ => ⟨by show 0 < 2 ^ 1; decide, by show 1 < 2 ^ 1; decide, by show 0 < 1; decide⟩
  | i + 1, h => by
    rw [sofar_succ]
    have e : 26 * (i + 1) + 1 = (26 * i + 1) + 25 + 1 := by omega
    rw [e]
    exact within_step (a := 26 * i + 1) (b := 25) (within_sofar h24 p (by omega)) (within_row h24 p (i := i) (by omega))
end Sk

set_option Elab.async false
namespace Sk
/-! ## the state: what stays true of it -/
structure Inv (s : Mu47.State) : Prop where
  worn : s.worn.length = s.drawer.length
  wash : s.wash.length = s.drawer.length
  lost : s.lost.length = s.drawer.length
  came : s.came.length = s.drawer.length
  few : s.drawer.length ≤ 5
  all : s.drawer.sum + s.worn.sum + s.wash.sum ≤ 24
def InvO : Mu47.Abs → Prop
  | none => True
  | some s => Inv s
theorem sum_set_nat : ∀ {l : List Nat} {c y : Nat}, c < l.length → (l.set c y).sum + l.getD c 0 = l.sum + y
  | [], c, y, h => by simp at h
  | a :: r, 0, y, _ => by
    show (y :: r).sum + a = (a :: r).sum + y
    rw [List.sum_cons, List.sum_cons]
    omega
  | a :: r, c + 1, y, h => by
    have ih := sum_set_nat (l := r) (c := c) (y := y) (by simpa using h)
    show (a :: r.set c y).sum + r.getD c 0 = (a :: r).sum + y
    rw [List.sum_cons, List.sum_cons]
    omega
theorem sum_alter {l : List Nat} {c : Nat} {f : Nat → Nat} (h : c < l.length) : (Mu47.alter l c f).sum + l.getD c 0 = l.sum + f (l.getD c 0) := sum_set_nat h
theorem len_alter (l : List Nat) (c : Nat) (f : Nat → Nat) : (Mu47.alter l c f).length = l.length := List.length_set
theorem getD_le_sum : ∀ (l : List Nat) (c : Nat), l.getD c 0 ≤ l.sum
  | [], c => by simp
  | a :: r, 0 => by
    show a ≤ (a :: r).sum
    rw [List.sum_cons]
    omega
  | a :: r, c + 1 => by
    have := getD_le_sum r c
    show r.getD c 0 ≤ (a :: r).sum
    rw [List.sum_cons]
    omega
theorem sum_none (l : List Nat) : (Mu47.none_ l).sum = 0 := by
  unfold Mu47.none_
  induction l with
  | nil => rfl
  | cons a r ih =>
    rw [List.map_cons, List.sum_cons, ih]
theorem len_none (l : List Nat) : (Mu47.none_ l).length = l.length := List.length_map ..
theorem sum_both : ∀ {a b : List Nat}, a.length = b.length → (Mu47.both a b).sum = a.sum + b.sum
  | [], [], _ => rfl
  | [], _ :: _, h => by simp at h
  | _ :: _, [], h => by simp at h
  | x :: a, y :: b, h => by
    have ih := sum_both (a := a) (b := b) (by simpa using h)
    show ((x + y) :: Mu47.both a b).sum = _
    rw [List.sum_cons, List.sum_cons, List.sum_cons, ih]
    omega
theorem len_both {a b : List Nat} (h : a.length = b.length) : (Mu47.both a b).length = a.length := by
  unfold Mu47.both
  rw [List.length_zipWith]
  omega
theorem total3 (s : Mu47.State) : Mu47.all s = s.drawer.sum + s.worn.sum + s.wash.sum := by
  unfold Mu47.all
  rw [total_sum, total_sum, total_sum]
theorem inv_mk {a b c d e : List Nat} (h1 : b.length = a.length) (h2 : c.length = a.length) (h3 : d.length = a.length) (h4 : e.length = a.length) (h5 : a.length ≤ 5) (h6 : a.sum + b.sum + c.sum ≤ 24) : Inv ⟨a, b, c, d, e⟩ := ⟨h1, h2, h3, h4, h5, h6⟩
theorem inv_bought {s : Mu47.State} {c n : Nat} (i : Inv s) (hc : c < s.drawer.length) (h : Mu47.all s + n ≤ 24) : Inv (Mu47.bought s c n) ∧ Mu47.all (Mu47.bought s c n) = Mu47.all s + n := by
  rw [total3] at h
  have e := sum_alter (l := s.drawer) (f := fun k => k + n) hc
  have e2 : (Mu47.alter s.drawer c fun (k : Nat) => k + n).sum = s.drawer.sum + n := by omega
  unfold Mu47.bought
  refine ⟨inv_mk ?_ ?_ ?_ ?_ ?_ ?_, ?_⟩
  · rw [len_alter]
    exact i.worn
  · rw [len_alter]
    exact i.wash
  · rw [len_alter]
    exact i.lost
  · rw [len_alter, len_alter]
    exact i.came
  · rw [len_alter]
    exact i.few
  · rw [e2]
    omega
  · rw [total3, total3]
    dsimp only
    rw [e2]
    omega
theorem inv_mend : ∀ (l : List Nat) {s : Mu47.State}, Inv s → (∀ c, c ∈ l → c < s.drawer.length) → Mu47.all s + l.length ≤ 24 → Inv (l.foldl (fun (t : Mu47.State) (c : Nat) => Mu47.bought t c 1) s)
  | [], s, i, _, _ => i
  | c :: r, s, i, hc, h => by
    rw [List.length_cons] at h
    obtain ⟨j, e⟩ := inv_bought (n := 1) i (hc c (List.mem_cons_self ..)) (by omega)
    refine inv_mend r j (fun d hd => ?_) (by rw [e]; omega)
    show d < (Mu47.alter s.drawer c _).length
    rw [len_alter]
    exact hc d (List.mem_cons_of_mem _ hd)
theorem mem_odd {s : Mu47.State} {c : Nat} (h : c ∈ Mu47.odd s) : c < s.drawer.length := by
  unfold Mu47.odd at h
  have := (List.mem_filter.mp h).1
  rw [List.mem_range] at this
  exact this
theorem inv_step {o : Mu47.Abs} (i : InvO o) (c : Mu47.Call) : InvO (Mu47.step o c).1 := by
  cases c with
  | begin_ l =>
    unfold Mu47.step
    dsimp only
    split
    · exact i
    · rename_i h
      have h1 : ¬ Mu47.COLOURS < l.length := fun z => h (.inr (.inl z))
      have h2 : ¬ Mu47.SOCKS < Mu47.total l := fun z => h (.inr (.inr (.inr z)))
      rw [total_sum] at h2
      have h3 : l.length ≤ 5 := Nat.le_of_not_lt h1
      have h4 : l.sum ≤ 24 := Nat.le_of_not_lt h2
      exact ⟨len_none l, len_none l, len_none l, rfl, h3, by show l.sum + (Mu47.none_ l).sum + (Mu47.none_ l).sum ≤ 24; rw [sum_none]; omega⟩
  | surely p => cases o <;> exact i
  | colour c => cases o <;> exact i
  | chance d p => cases o <;> exact i
  | average d => cases o <;> exact i
  | «until» p => cases o <;> exact i
  | odd => cases o <;> exact i
  | look => cases o <;> exact i
  | wear c =>
    cases o with
    | none => exact i
    | some s =>
      unfold Mu47.step
      dsimp only
      split
      · exact i
      · split
        · exact i
        · rename_i h1 h2
          have i : Inv s := i
          have hc : c < s.drawer.length := by unfold Mu47.colours at h1; omega
          have e1 := sum_alter (l := s.drawer) (c := c) (f := fun n => n - 2) hc
          have e2 := sum_alter (l := s.worn) (c := c) (f := fun n => n + 2) (by rw [i.worn]; exact hc)
          have := i.all
          refine inv_mk ?_ ?_ ?_ ?_ ?_ (by omega)
          · rw [len_alter, len_alter]
            exact i.worn
          · rw [len_alter]
            exact i.wash
          · rw [len_alter]
            exact i.lost
          · rw [len_alter]
            exact i.came
          · rw [len_alter]
            exact i.few
  | undress =>
    cases o with
    | none => exact i
    | some s =>
      have i : Inv s := i
      refine ⟨?_, ?_, i.lost, i.came, i.few, ?_⟩
      · exact (len_none _).trans i.worn
      · exact (len_both (i.wash.trans i.worn.symm)).trans i.wash
      · have := i.all
        show s.drawer.sum + (Mu47.none_ s.worn).sum + (Mu47.both s.wash s.worn).sum ≤ 24
        rw [sum_none, sum_both (i.wash.trans i.worn.symm)]
        omega
  | wash =>
    cases o with
    | none => exact i
    | some s =>
      have i : Inv s := i
      have e := len_both i.wash.symm
      refine ⟨i.worn.trans e.symm, (len_none _).trans (i.wash.trans e.symm), i.lost.trans e.symm, i.came.trans e.symm, Nat.le_trans (Nat.le_of_eq e) i.few, ?_⟩
      have := i.all
      show (Mu47.both s.drawer s.wash).sum + s.worn.sum + (Mu47.none_ s.wash).sum ≤ 24
      rw [sum_none, sum_both i.wash.symm]
      omega
  | lose w c =>
    cases o with
    | none => exact i
    | some s =>
      unfold Mu47.step
      dsimp only
      split
      · exact i
      · split
        · exact i
        · split
          · exact i
          · rename_i h0 h1 h2
            have i : Inv s := i
            have hc : c < s.drawer.length := by unfold Mu47.colours at h1; omega
            have all := i.all
            unfold Mu47.lostAt
            split
            · have e1 := sum_alter (l := s.drawer) (c := c) (f := fun n => n - 1) hc
              refine inv_mk ?_ ?_ ?_ ?_ ?_ (by omega)
              · rw [len_alter]
                exact i.worn
              · rw [len_alter]
                exact i.wash
              · rw [len_alter, len_alter]
                exact i.lost
              · rw [len_alter]
                exact i.came
              · rw [len_alter]
                exact i.few
            · split
              · have e1 := sum_alter (l := s.worn) (c := c) (f := fun n => n - 1) (by rw [i.worn]; exact hc)
                exact inv_mk (by rw [len_alter]; exact i.worn) i.wash (by rw [len_alter]; exact i.lost) i.came i.few (by omega)
              · have e1 := sum_alter (l := s.wash) (c := c) (f := fun n => n - 1) (by rw [i.wash]; exact hc)
                exact inv_mk i.worn (by rw [len_alter]; exact i.wash) (by rw [len_alter]; exact i.lost) i.came i.few (by omega)
  | buy c n =>
    cases o with
    | none => exact i
    | some s =>
      unfold Mu47.step
      dsimp only
      split
      · exact i
      · split
        · exact i
        · rename_i h1 h2
          have i : Inv s := i
          have hc : c < s.drawer.length := by unfold Mu47.colours at h1; omega
          exact (inv_bought i hc (Nat.le_of_not_lt fun z => h2 (.inr (.inr z)))).1
  | mend =>
    cases o with
    | none => exact i
    | some s =>
      unfold Mu47.step
      dsimp only
      split
      · exact i
      · rename_i h1
        exact inv_mend _ i (fun c hc => mem_odd hc) (Nat.le_of_not_lt h1)
/-! ## the calls of a list: their numbers, what they are handed, what the specification calls them -/
inductive Req : Nat → List Nat → Mu47.Call → Prop
  | begin_ (l : List Nat) (h : l.length ≤ 8) (hl : ∀ x, x ∈ l → x ≤ 20) : Req 0 l (.begin_ l)
  | surely (p : Nat) (h : p ≤ 20) : Req 1 [p] (.surely p)
  | colour (c : Nat) (h : c ≤ 9) : Req 2 [c] (.colour c)
  | chance (d p : Nat) (h : d ≤ 30) (k : p ≤ 20) : Req 3 [d, p] (.chance d p)
  | average (d : Nat) (h : d ≤ 30) : Req 4 [d] (.average d)
  | «until» (p : Nat) (h : p ≤ 20) : Req 5 [p] (.until p)
  | wear (c : Nat) (h : c ≤ 9) : Req 6 [c] (.wear c)
  | undress : Req 7 [] .undress
  | wash : Req 8 [] .wash
  | lose (w c : Nat) (h : w ≤ 9) (k : c ≤ 9) : Req 9 [w, c] (.lose w c)
  | buy (c n : Nat) (h : c ≤ 9) (k : n ≤ 20) : Req 10 [c, n] (.buy c n)
  | odd : Req 11 [] .odd
  | mend : Req 12 [] .mend
  | look : Req 13 [] .look
/-- one call as the list has it -/
def encN (q : Nat × List Nat) : List Nat := if q.1 = 0 then 0 :: q.2.length :: q.2 else q.1 :: q.2
def flatN (ps : List (Nat × List Nat)) : List Nat := ps.flatMap encN
def playM : Mu47.Abs → List Mu47.Call → List (List Int)
  | _, [] => []
  | o, m :: r => (Mu47.step o m).2 :: playM (Mu47.step o m).1 r
/-- a row of requests -/
inductive Reqs : List (Nat × List Nat) → List Mu47.Call → Prop
  | nil : Reqs [] []
  | cons {p : Nat} {a : List Nat} {m : Mu47.Call} {ps : List (Nat × List Nat)} {ms : List Mu47.Call} : Req p a m → Reqs ps ms → Reqs ((p, a) :: ps) (m :: ms)
def cast (l : List Nat) : List Int := l.map fun (n : Nat) => (n : Int)
theorem cast_toNat : ∀ {l : List Int}, (∀ x, x ∈ l → 0 ≤ x) → cast (l.map Int.toNat) = l
  | [], _ => rfl
  | x :: r, h => by
    show ((x.toNat : Nat) : Int) :: cast (r.map Int.toNat) = x :: r
    rw [cast_toNat (fun y hy => h y (List.mem_cons_of_mem _ hy)), Int.toNat_of_nonneg (h x (List.mem_cons_self ..))]
theorem within_of {z lo hi : Int} (h : NeutralIO.within z lo hi = true) : lo ≤ z ∧ z ≤ hi := by
  unfold NeutralIO.within at h
  rw [Bool.and_eq_true] at h
  exact ⟨of_decide_eq_true h.1, of_decide_eq_true h.2⟩
theorem whole_id (c : List (List Int)) : PyMu47.whole c = c := by
  unfold PyMu47.whole
  split <;> rfl
theorem nat_of {x : Int} (h : 0 ≤ x) : ((x.toNat : Nat) : Int) = x := Int.toNat_of_nonneg h
/-- one call that may be asked is a request -/
theorem req_of {c : List (List Int)} (h : Mu47Neutral.asked1 c = true) : ∃ p a m, Req p a m ∧ cast (encN (p, a)) = PyFlat.put1 c ∧ Mu47Neutral.callOf c = some m := by
  unfold Mu47Neutral.asked1 at h
  split at h
  · rename_i l
    rw [Bool.and_eq_true] at h
    have h1 := of_decide_eq_true h.1
    have h2 : ∀ x, x ∈ l → 0 ≤ x ∧ x ≤ 20 := fun x hx => within_of (List.all_eq_true.mp h.2 x hx)
    refine ⟨0, l.map Int.toNat, _, .begin_ _ (by rw [List.length_map]; exact h1) (fun x hx => ?_), ?_, rfl⟩
    · obtain ⟨y, hy, rfl⟩ := List.mem_map.mp hx
      have := h2 y hy
      omega
    · show (0 : Int) :: (((l.map Int.toNat).length : Nat) : Int) :: cast (l.map Int.toNat) = 0 :: ((l.length : Int) :: (l ++ []))
      rw [List.length_map, cast_toNat (fun x hx => (h2 x hx).1), List.append_nil]
  · rename_i x
    have b := within_of h
    exact ⟨1, [x.toNat], _, .surely _ (by omega), (by show [(1 : Int), ((x.toNat : Nat) : Int)] = [1, x]; rw [nat_of b.1]), rfl⟩
  · rename_i x
    have b := within_of h
    exact ⟨2, [x.toNat], _, .colour _ (by omega), (by show [(2 : Int), ((x.toNat : Nat) : Int)] = [2, x]; rw [nat_of b.1]), rfl⟩
  · rename_i x y
    rw [Bool.and_eq_true] at h
    have b := within_of h.1
    have b' := within_of h.2
    exact ⟨3, [x.toNat, y.toNat], _, .chance _ _ (by omega) (by omega), (by show [(3 : Int), ((x.toNat : Nat) : Int), ((y.toNat : Nat) : Int)] = [3, x, y]; rw [nat_of b.1, nat_of b'.1]), rfl⟩
  · rename_i x
    have b := within_of h
    exact ⟨4, [x.toNat], _, .average _ (by omega), (by show [(4 : Int), ((x.toNat : Nat) : Int)] = [4, x]; rw [nat_of b.1]), rfl⟩
  · rename_i x
    have b := within_of h
    exact ⟨5, [x.toNat], _, .until _ (by omega), (by show [(5 : Int), ((x.toNat : Nat) : Int)] = [5, x]; rw [nat_of b.1]), rfl⟩
  · rename_i x
    have b := within_of h
    exact ⟨6, [x.toNat], _, .wear _ (by omega), (by show [(6 : Int), ((x.toNat : Nat) : Int)] = [6, x]; rw [nat_of b.1]), rfl⟩
  · exact ⟨7, [], _, .undress, rfl, rfl⟩
  · exact ⟨8, [], _, .wash, rfl, rfl⟩
  · rename_i x y
    rw [Bool.and_eq_true] at h
    have b := within_of h.1
    have b' := within_of h.2
    exact ⟨9, [x.toNat, y.toNat], _, .lose _ _ (by omega) (by omega), (by show [(9 : Int), ((x.toNat : Nat) : Int), ((y.toNat : Nat) : Int)] = [9, x, y]; rw [nat_of b.1, nat_of b'.1]), rfl⟩
  · rename_i x y
    rw [Bool.and_eq_true] at h
    have b := within_of h.1
    have b' := within_of h.2
    exact ⟨10, [x.toNat, y.toNat], _, .buy _ _ (by omega) (by omega), (by show [(10 : Int), ((x.toNat : Nat) : Int), ((y.toNat : Nat) : Int)] = [10, x, y]; rw [nat_of b.1, nat_of b'.1]), rfl⟩
  · exact ⟨11, [], _, .odd, rfl, rfl⟩
  · exact ⟨12, [], _, .mend, rfl, rfl⟩
  · exact ⟨13, [], _, .look, rfl, rfl⟩
  · cases h
theorem cast_append (a b : List Nat) : cast (a ++ b) = cast a ++ cast b := List.map_append
theorem map_whole (cs : List (List (List Int))) : cs.map PyMu47.whole = cs := by
  have e : PyMu47.whole = id := funext whole_id
  rw [e, List.map_id]
theorem step_call {o : Mu47.Abs} {c : List (List Int)} {m : Mu47.Call} (h : Mu47Neutral.callOf c = some m) : Mu47Neutral.step o c = Mu47.step o m := by
  unfold Mu47Neutral.step
  rw [h]
/-- all calls -/
theorem reqs_of : ∀ {cs : List (List (List Int))}, (∀ c, c ∈ cs → Mu47Neutral.asked1 c = true) → ∃ ps ms, Reqs ps ms ∧ cast (flatN ps) = PyFlat.put cs ∧ ps.length = cs.length ∧
    ∀ o, PyFlat.played Mu47Neutral.step o cs = playM o ms
  | [], _ => ⟨[], [], .nil, rfl, rfl, fun _ => rfl⟩
  | c :: cs, h => by
    obtain ⟨p, a, m, r, e1, e2⟩ := req_of (h c (List.mem_cons_self ..))
    obtain ⟨ps, ms, rs, f1, f2, f3⟩ := reqs_of (cs := cs) (fun d hd => h d (List.mem_cons_of_mem _ hd))
    refine ⟨(p, a) :: ps, m :: ms, .cons r rs, ?_, ?_, fun o => ?_⟩
    · show cast (encN (p, a) ++ flatN ps) = PyFlat.put1 c ++ PyFlat.put cs
      rw [cast_append, e1, f1]
    · rw [List.length_cons, List.length_cons, f2]
    · show (Mu47Neutral.step o c).2 :: PyFlat.played Mu47Neutral.step (Mu47Neutral.step o c).1 cs = (Mu47.step o m).2 :: playM (Mu47.step o m).1 ms
      rw [step_call e2, f3]
/-- what may be handed in is a row of requests, and the specification plays them -/
theorem asked_reqs {ns : List Int} (h : PyMu47.answers_asked ns = true) : ∃ ps ms, Reqs ps ms ∧ cast (flatN ps) = ns ∧ ps.length ≤ 60 ∧ PyMu47.answers ns = PyFlat.told (playM none ms) := by
  unfold PyMu47.answers_asked at h
  cases e : PyFlat.calls PyMu47.shape ns.length ns with
  | none =>
    rw [e] at h
    cases h
  | some raw =>
    rw [e] at h
    dsimp only at h
    rw [map_whole] at h
    simp only [Bool.and_eq_true] at h
    obtain ⟨⟨⟨⟨h1, h2⟩, h3⟩, h4⟩, h5⟩ := h
    have h2 : raw.length ≤ 60 := of_decide_eq_true h2
    unfold Mu47Neutral.asked at h4
    simp only [Bool.and_eq_true] at h4
    obtain ⟨ps, ms, rs, f1, f2, f3⟩ := reqs_of (cs := raw) (fun c hc => List.all_eq_true.mp h4.2.2 c hc)
    have e2 := (PyFlat.put_calls _ _ _ e).1
    refine ⟨ps, ms, rs, f1.trans e2.symm, by omega, ?_⟩
    unfold PyMu47.answers PyMu47.calls
    rw [e]
    dsimp only
    rw [map_whole, f3]
    rfl
/-! ## behind i calls -/
def after : Mu47.Abs → List Mu47.Call → Mu47.Abs
  | o, [] => o
  | o, m :: r => after (Mu47.step o m).1 r
theorem after_append (a b : List Mu47.Call) : ∀ o, after o (a ++ b) = after (after o a) b := by
  induction a with
  | nil => intro o; rfl
  | cons m r ih => intro o; exact ih _
theorem playM_append (a b : List Mu47.Call) : ∀ o, playM o (a ++ b) = playM o a ++ playM (after o a) b := by
  induction a with
  | nil => intro o; rfl
  | cons m r ih =>
    intro o
    show (Mu47.step o m).2 :: playM (Mu47.step o m).1 (r ++ b) = (Mu47.step o m).2 :: (playM (Mu47.step o m).1 r ++ playM (after (Mu47.step o m).1 r) b)
    rw [ih]
theorem told_append (a b : List (List Int)) : PyFlat.told (a ++ b) = PyFlat.told a ++ PyFlat.told b := by
  unfold PyFlat.told
  rw [List.flatMap_append]
theorem inv_after : ∀ (l : List Mu47.Call) {o : Mu47.Abs}, InvO o → InvO (after o l)
  | [], _, i => i
  | m :: r, _, i => inv_after r (inv_step i m)
theorem Reqs.len {ps : List (Nat × List Nat)} {ms : List Mu47.Call} (h : Reqs ps ms) : ps.length = ms.length := by
  induction h with
  | nil => rfl
  | cons _ _ ih => rw [List.length_cons, List.length_cons, ih]
theorem Reqs.get {ps : List (Nat × List Nat)} {ms : List Mu47.Call} (h : Reqs ps ms) : ∀ {i : Nat} {q : Nat × List Nat}, ps[i]? = some q → ∃ m, ms[i]? = some m ∧ Req q.1 q.2 m := by
  induction h with
  | nil => intro i q e; cases (show (none : Option (Nat × List Nat)) = some q from by rw [← e]; exact List.getElem?_nil.symm)
  | cons r _ ih =>
    intro i q e
    cases i with
    | zero =>
      obtain rfl := Option.some.inj e
      exact ⟨_, rfl, r⟩
    | succ i => exact ih (i := i) e
/-- what is told behind i calls -/
def toldN (ms : List Mu47.Call) (i : Nat) : List Int := PyFlat.told (playM none (ms.take i))
theorem take_one {α : Type} {l : List α} {i : Nat} {x : α} (h : l[i]? = some x) : l.take (i + 1) = l.take i ++ [x] := by
  rw [List.take_add_one, h]
  rfl
theorem toldN_succ {ms : List Mu47.Call} {i : Nat} {m : Mu47.Call} (h : ms[i]? = some m) : toldN ms (i + 1) = toldN ms i ++ (((Mu47.step (after none (ms.take i)) m).2.length : Nat) : Int) :: (Mu47.step (after none (ms.take i)) m).2 := by
  unfold toldN
  rw [take_one h, playM_append, told_append]
  show _ ++ ((((Mu47.step (after none (ms.take i)) m).2.length : Nat) : Int) :: (Mu47.step (after none (ms.take i)) m).2 ++ []) = _
  rw [List.append_nil]
theorem after_succ {ms : List Mu47.Call} {i : Nat} {m : Mu47.Call} (h : ms[i]? = some m) : after none (ms.take (i + 1)) = (Mu47.step (after none (ms.take i)) m).1 := by
  rw [take_one h, after_append]
  rfl
/-- an answer has at most 26 numbers -/
theorem len_odd {s : Mu47.State} : (Mu47.odd s).length ≤ s.drawer.length := by
  unfold Mu47.odd
  refine Nat.le_trans (List.length_filter_le _ _) ?_
  rw [List.length_range]
  exact Nat.le_refl _
theorem len_nums (l : List Nat) : (Mu47.nums l).length = l.length := List.length_map ..
theorem len_one {α : Type} (x : α) : [x].length ≤ 26 := by
  rw [List.length_singleton]
  omega
theorem len_two (a b : Nat) : (Mu47.nums [a, b]).length ≤ 26 := by
  rw [len_nums]
  show 2 ≤ 26
  omega
theorem len_step {o : Mu47.Abs} (i : InvO o) (m : Mu47.Call) : (Mu47.step o m).2.length ≤ 26 := by
  cases m with
  | begin_ l =>
    unfold Mu47.step
    dsimp only
    split <;> exact len_one _
  | surely p =>
    cases o with
    | none => exact len_one _
    | some s =>
      unfold Mu47.step
      dsimp only
      split
      · exact len_one _
      · split <;> exact len_one _
  | colour c =>
    cases o with
    | none => exact len_one _
    | some s =>
      unfold Mu47.step
      dsimp only
      split
      · exact len_one _
      · split <;> exact len_one _
  | chance d p =>
    cases o with
    | none => exact len_one _
    | some s =>
      unfold Mu47.step
      dsimp only
      split
      · exact len_one _
      · exact len_two _ _
  | average d =>
    cases o with
    | none => exact len_one _
    | some s =>
      unfold Mu47.step
      dsimp only
      split
      · exact len_one _
      · exact len_two _ _
  | «until» p =>
    cases o with
    | none => exact len_one _
    | some s =>
      unfold Mu47.step
      dsimp only
      split
      · exact len_one _
      · split
        · exact len_one _
        · exact len_two _ _
  | wear c =>
    cases o with
    | none => exact len_one _
    | some s =>
      unfold Mu47.step
      dsimp only
      split
      · exact len_one _
      · split <;> exact len_one _
  | undress => cases o <;> exact len_one _
  | wash => cases o <;> exact len_one _
  | lose w c =>
    cases o with
    | none => exact len_one _
    | some s =>
      unfold Mu47.step
      dsimp only
      split
      · exact len_one _
      · split
        · exact len_one _
        · split <;> exact len_one _
  | buy c n =>
    cases o with
    | none => exact len_one _
    | some s =>
      unfold Mu47.step
      dsimp only
      split
      · exact len_one _
      · split <;> exact len_one _
  | odd =>
    cases o with
    | none => exact len_one _
    | some s =>
      have j : Inv s := i
      have k := len_odd (s := s)
      have f := j.few
      show (Mu47.nums ((Mu47.odd s).length :: Mu47.odd s)).length ≤ 26
      rw [len_nums, List.length_cons]
      omega
  | mend =>
    cases o with
    | none => exact len_one _
    | some s =>
      unfold Mu47.step
      dsimp only
      split <;> exact len_one _
  | look =>
    cases o with
    | none => exact len_one _
    | some s =>
      have j : Inv s := i
      have f := j.few
      have f1 := j.worn
      have f2 := j.wash
      have f3 := j.lost
      have f4 := j.came
      show (Mu47.nums (s.drawer ++ (s.worn ++ (s.wash ++ (s.lost ++ s.came))))).length ≤ 26
      rw [len_nums, List.length_append, List.length_append, List.length_append, List.length_append]
      omega
theorem len_toldN {ms : List Mu47.Call} : ∀ {i : Nat}, i ≤ ms.length → (toldN ms i).length ≤ 27 * i
  | 0, _ => Nat.le_refl _
  | i + 1, h => by
    obtain ⟨m, hm⟩ : ∃ m, ms[i]? = some m := ⟨_, List.getElem?_eq_getElem (by omega)⟩
    rw [toldN_succ hm, List.length_append, List.length_cons]
    have a := len_toldN (ms := ms) (i := i) (by omega)
    have b := len_step (inv_after (ms.take i) (o := none) trivial) m
    omega
end Sk

set_option Elab.async false
set_option maxRecDepth 100000
set_option maxHeartbeats 2000000
namespace Sk
open PySem PySem.Spec PyProof.Rows L2
/-! ### words that the layer lacks -/
section
variable {X : Cx}
/-- xs[i] of a list, as the read of xs[i] op= e: a place from the front -/
def rGetL (K : PySem.W.Frag) : V → V → Hp → VK → Prop := fun x y H Q => ∃ p xs i v, x = .ref p ∧ y = .int i ∧ SqL K H p xs ∧ 0 ≤ i ∧ xs[i.toNat]? = some v ∧ Q v H
theorem get_list : PGet X (rGetL X.K) := by
  intro pins s σ H x y v u Q I rx ry h
  obtain ⟨p, xs, i, z, rfl, rfl, hq, h0, he, q⟩ := h
  cases rx
  obtain ⟨t, rfl⟩ := ry
  obtain ⟨its, r, pl, hz⟩ := I.list hq
  obtain ⟨w, ew, rw'⟩ := r.get he
  have hl : i.toNat < xs.length := (List.getElem?_eq_some_iff.mp he).1
  have hn := line63
  exact wpAny_getItem_list pl.isList h0 (by omega) (by simpa using ew) ⟨z, H, I, rw', q⟩
end
theorem if_true_of {c : Bool} {A B : Prop} (hc : c = true) (h : A) : if c = true then A else B := by
  rw [if_pos hc]
  exact h
theorem if_false_of {c : Bool} {A B : Prop} (hc : c = false) (h : B) : if c = true then A else B := by
  rw [hc, if_neg Bool.false_ne_true]
  exact h
theorem yes_if {σ : L2.St} {H : Hp} {A B : Hp → Prop} (h : A H) : tYes σ H (fun b H3 => if b = true then A H3 else B H3) := by
  show if true = true then A H else B H
  rw [if_pos rfl]
  exact h
/-! ### the text -/
def top (i : Nat) : Stmt := PySem.Challenge.pw_nightsocks_s01_answers.main.body.getD i (.Pass ⟨0, 0, 0, 0⟩)
abbrev sPairsOf : Stmt := top 1
abbrev sChoices : Stmt := top 2
abbrev sEmptyTable : Stmt := top 3
abbrev sWithColour : Stmt := top 4
abbrev sDrawTable : Stmt := top 5
abbrev sCommonDivisor : Stmt := top 6
abbrev sFraction : Stmt := top 7
abbrev sAddFractions : Stmt := top 8
abbrev sFewestFor : Stmt := top 9
abbrev sChanceOf : Stmt := top 10
abbrev sAveragePairs : Stmt := top 11
abbrev sAverageDraws : Stmt := top 12
/-! ### lists of numbers in the heap -/
def numV (l : List Nat) : List V := l.map fun (n : Nat) => V.int (n : Int)
theorem numV_map (l : List Nat) : numV l = (l.map fun (n : Nat) => (n : Int)).map V.int := by
  unfold numV
  rw [List.map_map]
  rfl
theorem sum_cast : ∀ l : List Nat, (l.map fun (n : Nat) => (n : Int)).sum = ((l.sum : Nat) : Int)
  | [] => rfl
  | x :: r => by
    rw [List.map_cons, List.sum_cons, List.sum_cons, sum_cast r]
    omega
theorem numV_get {l : List Nat} {i n : Nat} (h : l[i]? = some n) : (numV l)[i]? = some (V.int (n : Int)) := by
  unfold numV
  rw [List.getElem?_map, h]
  rfl
theorem numV_length (l : List Nat) : (numV l).length = l.length := List.length_map ..
theorem get_numV {l : List Nat} {i : Nat} {y : V} (h : (numV l)[i]? = some y) : ∃ n, l[i]? = some n ∧ y = V.int (n : Int) := by
  unfold numV at h
  rw [List.getElem?_map] at h
  cases e : l[i]? with
  | none =>
    rw [e] at h
    cases h
  | some z =>
    rw [e] at h
    exact ⟨z, rfl, (Option.some.inj h).symm⟩
theorem numV_append (a b : List Nat) : numV (a ++ b) = numV a ++ numV b := List.map_append
theorem take_more {α : Type} {l : List α} {i : Nat} {x : α} (h : l[i]? = some x) : l.take (i + 1) = l.take i ++ [x] := by
  rw [List.take_add_one, h]
  rfl
theorem small {n : Nat} (h : n ≤ 1000) : n ≤ sizeLine := Nat.le_of_lt (small1000 h)
theorem Same.new {H H' : Hp} (s : Same H H') {p : Addr} {o : HO} (h : H p = none) : Same H (upd H' p o) := fun b u e => by
  rw [upd_ne (ne_of_none e h)]
  exact s b u e
theorem Same.fresh {H H' : Hp} (s : Same H H') {p : Addr} {o : HO} (h : H' p = none) : Same H (upd H' p o) := Same.new s (s.free h)
section
variable {P : Program} {w : World} {K : PySem.W.Frag} {mg : Str → Option Value} {base : Heap}
/-! ### pairs_of -/
def spPairsOf (K : PySem.W.Frag) : Sp := fun vs H Q _ => ∃ (a : Addr) (l : List Nat), vs = [.ref a] ∧ SqL K H a (numV l) ∧ l.length ≤ 100 ∧
  ∀ H', Same H H' → Q (.int ((Mu47.pairs l : Nat) : Int)) H'
theorem scPairsOf : FnScope ["inside", "count"] ["inside"] (defScope sPairsOf) := ⟨rfl, rfl, rfl, by decide +kernel, rfl, by decide +kernel, by decide +kernel⟩
theorem ok_pairs_of {f : Addr} {fd : FuncData} (F : Fun K "pairs_of" "pairs_of" sPairsOf f fd) (mSum : mg "sum" = none) : FnOk P w K mg base CX0 1 f fd ["inside"] (spPairsOf K) := by
  refine F.ok scPairsOf (fun vs H Q E h => ?_) (fun cdv A outer s H vs Q E hr h => ?_)
  · obtain ⟨a, l, rfl, _⟩ := h
    rfl
  · obtain ⟨a, l, rfl, hS, hlen, k⟩ := h
    refine ⟨_, pss_one (ps_ret (pe_callB (cr_sum rfl) (by rfl) mSum (by decide +kernel) (pa_cons
      (pe_lc (own := [("count", 1)]) (g := gName 1) (tt := tYes) rfl scPairsOf.nd (pi_list (pv 0)) (blkOk_by (N := ["inside", "count"]) (sc := defScope sPairsOf) (by decide +kernel))
        (fun _ _ _ _ _ => pg_name (i := 1) scPairsOf.nd rfl (Or.inl rfl)) (fun _ _ _ _ _ => pts_nil) (fun _ _ _ _ _ => pe_op op_fdiv (pv 1) pe_int)) pa_nil))), ?_⟩
    refine ⟨_, rfl, a, rfl, ⟨_, hS⟩, fun D hD => ?_⟩
    refine lc_list (K := K) (a := a) (xs := numV l) (fun i H' => Same H H' ∧ H' D = some (.lst (numV ((l.take i).map (· / 2))))) ⟨Same.fresh (Same.refl H) hD, upd_same⟩ (fun i H' _ h => h.1.seq hS) ?_ ?_
    · rintro i x H' hi ⟨s1, h1⟩
      obtain ⟨n, hn, rfl⟩ := get_numV hi
      refine ⟨rfl, ?_⟩
      refine yes_if ?_
      refine ⟨_, rfl, _, _, rfl, rfl, ⟨by decide, by decide⟩, _, h1, ?_, Same.new s1 hD, ?_⟩
      · rw [numV_length, List.length_map, List.length_take]
        exact small1000 (by omega)
      · rw [take_more hn, List.map_append, numV_append]
        exact upd_same
    · rintro H' ⟨s1, h1⟩
      rw [numV_length, List.take_length] at h1
      refine ⟨D, _, rfl, SqL.of (h1.trans (congrArg (fun q => some (HO.lst q)) (numV_map _))), ?_⟩
      rw [sum_cast, ← pairs_sum]
      exact k H' s1
/-! ### choices -/
def spChoices : Sp := fun vs H Q _ => ∃ (n x : Nat), vs = [.int n, .int x] ∧ n ≤ 24 ∧ x ≤ n ∧ Q (.int ((bin n x : Nat) : Int)) H
theorem scChoices : FnScope ["count", "taken", "ways", "done"] ["count", "taken"] (defScope sChoices) := ⟨rfl, rfl, rfl, by decide +kernel, rfl, by decide +kernel, by decide +kernel⟩
theorem ok_choices {f : Addr} {fd : FuncData} (F : Fun K "choices" "choices" sChoices f fd) (mRange : mg "range" = none) : FnOk P w K mg base CX0 1 f fd ["count", "taken"] spChoices := by
  refine F.ok scChoices (fun vs H Q E h => ?_) (fun cdv A outer s H vs Q E hr h => ?_)
  · obtain ⟨n, x, rfl, _⟩ := h
    rfl
  · obtain ⟨n, x, rfl, hn, hx, k⟩ := h
    refine ⟨_, pss_cons (ps_set (i := 2) scChoices.nd rfl (Or.inl rfl) pe_int)
      (pss_cons (ps_for PassesOwn.never rfl (pi_range1 rfl mRange (pa_cons (pv 1) pa_nil)) (pg_name (i := 3) scChoices.nd rfl (Or.inl rfl))
        (pss_one (ps_set (i := 2) scChoices.nd rfl (Or.inl rfl) (pe_op op_fdiv (pe_op op_mul (pv 2) (pe_op op_sub (pv 0) (pv 3))) (pe_op op_add (pv 3) pe_int)))))
      (pss_one (ps_ret (pv 2)))), ?_⟩
    refine ⟨_, rfl, (x : Int), rfl, by omega, by omega, ?_⟩
    refine for_range (n := (x : Int).toNat) (fun i σ H' => ∃ v : Option V, σ = [some (.int n), some (.int x), some (.int ((bin n i : Nat) : Int)), v] ∧ H' = H) ⟨none, by rw [bin_zero]; rfl, rfl⟩ ?_ ?_
    · rintro i σ H' hi ⟨v, rfl, rfl⟩
      have hb := bin_small hn i
      refine ⟨_, rfl, _, rfl, _, rfl, _, _, rfl, rfl, _, _, rfl, rfl, .inl ⟨by omega, by omega⟩, _, rfl, _, _, rfl, rfl, _, _, rfl, rfl, ⟨by omega, by omega⟩, ?_⟩
      refine ⟨some (.int i), ?_, rfl⟩
      have e := bin_turn (n := n) (i := i) (by omega)
      rw [Int.zero_add]
      show [some (V.int n), some (V.int x), some (V.int (((bin n i : Nat) : Int) * ((n : Int) - (i : Int)) / ((i : Int) + 1))), some (V.int i)] = _
      rw [e]
    · rintro σ H' ⟨v, rfl, rfl⟩
      exact ⟨_, rfl, k⟩
end
end Sk

set_option Elab.async false
set_option maxRecDepth 100000
set_option maxHeartbeats 2000000
namespace Sk
open PySem PySem.Spec PyProof.Rows L2
/-! ### a table in the heap: a list of lists -/
structure TabAt (H : Hp) (a : Addr) (rs : List Addr) (R W : Nat) (f : Nat → Nat → Nat) : Prop where
  len : rs.length = R
  nd : rs.Nodup
  out : a ∉ rs
  tab : H a = some (.lst (rs.map V.ref))
  row : ∀ d r, rs[d]? = some r → H r = some (.lst (numV (rowN (f d) W)))
theorem TabAt.same {H H' : Hp} {a : Addr} {rs : List Addr} {R W : Nat} {f : Nat → Nat → Nat} (t : TabAt H a rs R W f) (s : Same H H') : TabAt H' a rs R W f :=
  ⟨t.len, t.nd, t.out, s _ _ t.tab, fun d r h => s _ _ (t.row d r h)⟩
theorem TabAt.get {H : Hp} {a : Addr} {rs : List Addr} {R W : Nat} {f : Nat → Nat → Nat} (t : TabAt H a rs R W f) {d : Nat} (h : d < R) : ∃ r, rs[d]? = some r ∧ (rs.map V.ref)[d]? = some (.ref r) ∧ H r = some (.lst (numV (rowN (f d) W))) := by
  have e : rs[d]? = some (rs[d]'(by rw [t.len]; exact h)) := List.getElem?_eq_getElem _
  exact ⟨_, e, by rw [List.getElem?_map, e]; rfl, t.row d _ e⟩
theorem rowN_get {f : Nat → Nat} {W q : Nat} (h : q < W) : (rowN f W)[q]? = some (f q) := by
  unfold rowN
  rw [List.getElem?_map, List.getElem?_range h]
  rfl
theorem rowN_length (f : Nat → Nat) (W : Nat) : (rowN f W).length = W := by
  unfold rowN
  rw [List.length_map, List.length_range]
theorem rowN_set {f g : Nat → Nat} {W j v : Nat} (h : ∀ q, q < W → g q = if q = j then v else f q) : (numV (rowN f W)).set j (.int (v : Int)) = numV (rowN g W) := by
  refine List.ext_getElem? fun q => ?_
  by_cases hq : q < W
  · rw [numV_get (rowN_get (f := g) hq), h q hq, List.getElem?_set]
    by_cases e : j = q
    · subst e
      rw [if_pos rfl, if_pos rfl, if_pos (by rw [numV_length, rowN_length]; exact hq)]
    · rw [if_neg e, if_neg (fun z => e z.symm), numV_get (rowN_get (f := f) hq)]
  · rw [List.getElem?_eq_none (by rw [List.length_set, numV_length, rowN_length]; omega), List.getElem?_eq_none (by rw [numV_length, rowN_length]; omega)]
theorem TabAt.put {H : Hp} {a : Addr} {rs : List Addr} {R W : Nat} {f g : Nat → Nat → Nat} (t : TabAt H a rs R W f) {i j v : Nat} {r : Addr} (hr : rs[i]? = some r)
    (h : ∀ d p, g d p = if d = i ∧ p = j then v else f d p) : TabAt (upd H r (.lst ((numV (rowN (f i) W)).set j (.int (v : Int))))) a rs R W g where
  len := t.len
  nd := t.nd
  out := t.out
  tab := by
    rw [upd_ne (fun e => t.out (by rw [e]; exact List.mem_of_getElem? hr))]
    exact t.tab
  row := fun d q hq => by
    by_cases e : d = i
    · subst e
      have e2 : q = r := Option.some.inj (hq.symm.trans hr)
      subst e2
      rw [upd_same, rowN_set (g := g d) (fun p _ => by rw [h]; by_cases c : p = j <;> simp [c])]
    · have e2 : q ≠ r := fun z => e (nd_ix t.nd (z ▸ hq) hr)
      rw [upd_ne e2, t.row d q hq]
      have e3 : g d = f d := by
        funext p
        rw [h, if_neg (fun z => e z.1)]
      rw [e3]
theorem rep_flat (v : V) : ∀ k : Nat, (List.replicate k [v]).flatten = List.replicate k v
  | 0 => rfl
  | k + 1 => by
    rw [List.replicate_succ, List.flatten_cons, rep_flat v k, List.replicate_succ]
    rfl
theorem rep_zero (k : Nat) : (List.replicate k [V.int 0]).flatten = numV (rowN (fun _ => 0) k) := by
  rw [rep_flat]
  unfold numV rowN
  rw [List.map_map]
  refine (List.eq_replicate_iff.mpr ⟨by rw [List.length_map, List.length_range], fun b hb => ?_⟩).symm
  obtain ⟨q, _, rfl⟩ := List.mem_map.mp hb
  rfl
section
variable {P : Program} {w : World} {K : PySem.W.Frag} {mg : Str → Option Value} {base : Heap}
/-! ### empty_table -/
def spEmpty : Sp := fun vs H Q _ => ∃ (R W : Nat), vs = [.int R, .int W] ∧ R ≤ 100 ∧ W ≤ 100 ∧
  ∀ (H' : Hp) (b : Addr) (rs : List Addr), Same H H' → H b = none → (∀ r, r ∈ rs → H r = none) → TabAt H' b rs R W (fun _ _ => 0) → Q (.ref b) H'
theorem scEmpty : FnScope ["rows", "width", "row"] ["rows", "width"] (defScope sEmptyTable) := ⟨rfl, rfl, rfl, by decide +kernel, rfl, by decide +kernel, by decide +kernel⟩
theorem ok_empty {f : Addr} {fd : FuncData} (F : Fun K "empty_table" "empty_table" sEmptyTable f fd) (mRange : mg "range" = none) : FnOk P w K mg base CX0 1 f fd ["rows", "width"] spEmpty := by
  refine F.ok scEmpty (fun vs H Q E h => ?_) (fun cdv A outer s H vs Q E hr h => ?_)
  · obtain ⟨n, x, rfl, _⟩ := h
    rfl
  · obtain ⟨R, W, rfl, hR, hW, k⟩ := h
    refine ⟨_, pss_one (ps_ret (pe_lc (own := [("row", 2)]) (g := gName 2) (tt := tYes) rfl scEmpty.nd (pi_range1 rfl mRange (pa_cons (pv 0) pa_nil)) (blkOk_by (N := ["rows", "width", "row"]) (sc := defScope sEmptyTable) (by decide +kernel))
        (fun _ _ _ _ _ => pg_name (i := 2) scEmpty.nd rfl (Or.inl rfl)) (fun _ _ _ _ _ => pts_nil) (fun _ _ _ _ _ => pe_op op_rep (pe_lst (pa_cons pe_int pa_nil)) (pv 1)))), ?_⟩
    refine ⟨_, rfl, (R : Int), rfl, by omega, by omega, fun D hD => ?_⟩
    refine lc_range (n := (R : Int).toNat) (fun i H' => Same H H' ∧ ∃ rs : List Addr, rs.length = i ∧ rs.Nodup ∧ D ∉ rs ∧ (∀ r, r ∈ rs → H r = none) ∧ H' D = some (.lst (rs.map V.ref)) ∧ ∀ d r, rs[d]? = some r → H' r = some (.lst (numV (rowN (fun _ => 0) W))))
      ⟨Same.fresh (Same.refl H) hD, [], rfl, List.nodup_nil, List.not_mem_nil, (fun r hr => absurd hr List.not_mem_nil), upd_same, fun d r (hr : ([] : List Addr)[d]? = some r) => absurd (List.getElem?_nil.symm.trans hr) (fun z => nomatch z)⟩ ?_ ?_
    · rintro i H' hi ⟨s1, rs, e1, e2, e3, e4, e5, e6⟩
      refine ⟨rfl, ?_⟩
      refine yes_if ?_
      refine ⟨(by show 1 ≤ sizeLine; decide), fun p hp => ?_⟩
      refine ⟨_, rfl, p, (W : Int), _, rfl, rfl, upd_same, by omega, by omega, small (by show 1 * _ ≤ 1000; omega), fun q hq => ?_⟩
      have qp : q ≠ p := fun z => by rw [z, upd_same] at hq; cases hq
      have hq' : H' q = none := by rw [upd_ne qp] at hq; exact hq
      have dp : D ≠ p := ne_of_none e5 hp
      have dq : D ≠ q := ne_of_none e5 hq'
      refine ⟨rs.map V.ref, ?_, ?_, Same.new ?_ hD, rs ++ [q], ?_, ?_, ?_, ?_, ?_, ?_⟩
      · rw [upd_ne dq, upd_ne dp]
        exact e5
      · rw [List.length_map, e1]
        exact small1000 (by omega)
      · exact Same.new (Same.fresh s1 hp) (s1.free hq')
      · rw [List.length_append, e1]
        rfl
      · rw [List.nodup_append]
        refine ⟨e2, by simp, fun x hx y hy z => ?_⟩
        have : y = q := by simpa using hy
        subst this
        subst z
        obtain ⟨d, hd⟩ := List.getElem?_of_mem hx
        rw [e6 d _ hd] at hq'
        cases hq'
      · rw [List.mem_append]
        rintro (z | z)
        · exact e3 z
        · exact dq (by simpa using z)
      · intro r hr
        rw [List.mem_append] at hr
        rcases hr with z | z
        · exact e4 r z
        · have : r = q := by simpa using z
          subst this
          exact s1.free hq'
      · rw [upd_same, List.map_append]
        rfl
      · intro d r hr
        by_cases hd : d < rs.length
        · rw [List.getElem?_append_left hd] at hr
          have hr' := e6 d r hr
          rw [upd_ne (fun z => e3 (by rw [← z]; exact List.mem_of_getElem? hr)), upd_ne (ne_of_none hr' hq'), upd_ne (ne_of_none hr' hp)]
          exact hr'
        · rw [List.getElem?_append_right (by omega)] at hr
          have hd0 : d - rs.length = 0 := by
            have := (List.getElem?_eq_some_iff.mp hr).1
            simp at this
            omega
          rw [hd0] at hr
          have : q = r := Option.some.inj hr
          subst this
          rw [upd_ne (Ne.symm dq), upd_same, ← rep_zero]
          rfl
    · rintro H' ⟨s1, rs, e1, e2, e3, e4, e5, e6⟩
      refine k H' D rs s1 hD e4 ⟨e1, e2, e3, e5, e6⟩
/-! ### with_colour -/
def spWith : Sp := fun vs H Q _ => ∃ (a : Addr) (n : Nat) (rs : List Addr) (t : Mu47.Table) (N M : Nat), vs = [.ref a, .int n] ∧ TabAt H a rs (N + 1) (M + 1) (Mu47.cell t) ∧ Good t N M ∧ N + n ≤ 24 ∧
  ∀ (H' : Hp) (b : Addr) (rs' : List Addr), Same H H' → TabAt H' b rs' (N + n + 1) (M + n / 2 + 1) (Mu47.cell (Mu47.more t n)) → Q (.ref b) H'
abbrev nWith : List Str := ["ways", "count", "width", "wider", "taken", "factor", "socks", "pairs"]
theorem scWith : FnScope nWith ["ways", "count"] (defScope sWithColour) := ⟨rfl, rfl, rfl, by decide +kernel, rfl, by decide +kernel, by decide +kernel⟩
theorem ok_with {f fE fC : Addr} {fd fdE fdC : FuncData} (F : Fun K "with_colour" "with_colour" sWithColour f fd) (mRange : mg "range" = none) (mLen : mg "len" = none)
    (FE : Fun K "empty_table" "empty_table" sEmptyTable fE fdE) (bE : Binds K fdE ["rows", "width"] []) (gE : mg "empty_table" = some (.ref fE))
    (FC : Fun K "choices" "choices" sChoices fC fdC) (bC : Binds K fdC ["count", "taken"] []) (gC : mg "choices" = some (.ref fC)) : FnOk P w K mg base CX0 2 f fd ["ways", "count"] spWith := by
  have GE : FnOk P w K mg base CX0 1 fE fdE ["rows", "width"] spEmpty := ok_empty FE mRange
  have GC : FnOk P w K mg base CX0 1 fC fdC ["count", "taken"] spChoices := ok_choices FC mRange
  refine F.ok scWith (fun vs H Q E h => ?_) (fun cdv A outer s H vs Q E hr h => ?_)
  · obtain ⟨a, n, rs, t, N, M, rfl, _⟩ := h
    rfl
  · obtain ⟨a, n, rs, t, N, M, rfl, hT, g, hn, k⟩ := h
    refine ⟨_, pss_cons (ps_set (i := 2) scWith.nd rfl (Or.inl rfl) (pe_callB call_len_seq (by rfl) mLen PySem.boot_len (pa_cons (pe_ix ix_list (pv 0) pe_int (fun _ _ => rfl)) pa_nil)))
      (pss_cons (ps_set (i := 3) scWith.nd rfl (Or.inl rfl) (pe_call GE hr rfl gE FE.kp bE .nil pass0 (pa_cons (pe_op op_add (pe_callB call_len_seq (by rfl) mLen PySem.boot_len (pa_cons (pv 0) pa_nil)) (pv 1)) (pa_cons (pe_op op_add (pv 2) (pe_op op_fdiv (pv 1) pe_int)) pa_nil))))
      (pss_cons (ps_for PassesOwn.never rfl (pi_range1 rfl mRange (pa_cons (pe_op op_add (pv 1) pe_int) pa_nil)) (pg_name (i := 4) scWith.nd rfl (Or.inl rfl))
        (pss_cons (ps_set (i := 5) scWith.nd rfl (Or.inl rfl) (pe_call GC hr rfl gC FC.kp bC .nil pass0 (pa_cons (pv 1) (pa_cons (pv 4) pa_nil))))
        (pss_one (ps_for PassesOwn.never rfl (pi_range1 rfl mRange (pa_cons (pe_callB call_len_seq (by rfl) mLen PySem.boot_len (pa_cons (pv 0) pa_nil)) pa_nil)) (pg_name (i := 6) scWith.nd rfl (Or.inl rfl))
          (pss_one (ps_for PassesOwn.never rfl (pi_range1 rfl mRange (pa_cons (pv 2) pa_nil)) (pg_name (i := 7) scWith.nd rfl (Or.inl rfl))
            (pss_one (ps_augS (pe_ix ix_list (pv 3) (pe_op op_add (pv 6) (pv 4)) (fun _ _ => rfl)) (pe_op op_add (pv 7) (pe_op op_fdiv (pv 4) pe_int)) get_list
              (pe_op op_mul (pe_ix ix_list (pe_ix ix_list (pv 0) (pv 6) (fun _ _ => rfl)) (pv 7) (fun _ _ => rfl)) (pv 5)) ip_add set_list))))))))
      (pss_one (ps_ret (pv 3))))), ?_⟩
    obtain ⟨r0, _, i0, h0⟩ := hT.get (d := 0) (by omega)
    have lW : (((numV (rowN (Mu47.cell t 0) (M + 1))).length : Nat) : Int) = ((M + 1 : Nat) : Int) := by rw [numV_length, rowN_length]
    have lR : (((rs.map V.ref).length : Nat) : Int) = ((N + 1 : Nat) : Int) := by rw [List.length_map, hT.len]
    -- width
    refine ⟨_, rfl, a, _, 0, _, rfl, rfl, SqL.of hT.tab, atI_nat (j := 0) i0, r0, _, rfl, .inl (SqL.of h0), ?_⟩
    rw [lW]
    -- wider
    refine ⟨_, rfl, a, _, rfl, .inl (SqL.of hT.tab), _, rfl, _, _, rfl, rfl, _, rfl, _, rfl, _, _, rfl, rfl, ⟨by decide, by decide⟩, _, _, rfl, rfl, ?_⟩
    rw [lR]
    have two := g.two
    refine ⟨N + n + 1, M + n / 2 + 1, ?_, by omega, by omega, fun H1 b rs' s1 nb nrs T1 => ?_⟩
    · have e1 : ((N + 1 : Nat) : Int) + (n : Int) = ((N + n + 1 : Nat) : Int) := by omega
      have e2 : ((M + 1 : Nat) : Int) + (n : Int) / 2 = ((M + n / 2 + 1 : Nat) : Int) := by omega
      rw [← e1, ← e2]
      rfl
    -- for taken
    refine ⟨_, rfl, _, _, rfl, rfl, (n : Int) + 1, rfl, by omega, by omega, ?_⟩
    have n1 : ((n : Int) + 1).toNat = n + 1 := by omega
    refine for_range (n := ((n : Int) + 1).toNat) (fun x σ H' => ∃ v4 v5 v6 v7 : Option V, σ = [some (.ref a), some (.int n), some (.int ((M + 1 : Nat) : Int)), some (.ref b), v4, v5, v6, v7] ∧ Same H H' ∧ TabAt H' b rs' (N + n + 1) (M + n / 2 + 1) (upto (Mu47.cell t) n x))
      ⟨none, none, none, none, rfl, s1, T1⟩ ?_ ?_
    · rintro x σ H2 hx ⟨v4, v5, v6, v7, rfl, s2, T2⟩
      rw [n1] at hx
      -- factor
      refine ⟨_, rfl, _, rfl, n, x, ?_, by omega, by omega, ?_⟩
      · rw [Int.zero_add]
        rfl
      rw [Int.zero_add]
      -- for socks
      refine ⟨_, rfl, a, _, rfl, .inl (SqL.of (s2 _ _ hT.tab)), ((N + 1 : Nat) : Int), ?_, by omega, by omega, ?_⟩
      · rw [lR]
      refine for_range (n := ((N + 1 : Nat) : Int).toNat) (fun d σ H' => ∃ v6 v7 : Option V, σ = [some (.ref a), some (.int n), some (.int ((M + 1 : Nat) : Int)), some (.ref b), some (.int x), some (.int ((bin n x : Nat) : Int)), v6, v7] ∧ Same H H' ∧ TabAt H' b rs' (N + n + 1) (M + n / 2 + 1) (part (Mu47.cell t) n x d 0))
        ⟨v6, v7, rfl, s2, by rw [part_zero]; exact T2⟩ ?_ ?_
      · rintro d σ H3 hd ⟨v6, v7, rfl, s3, T3⟩
        have hd : d < N + 1 := by omega
        rw [Int.zero_add]
        -- for pairs
        refine ⟨_, rfl, ((M + 1 : Nat) : Int), rfl, by omega, by omega, ?_⟩
        refine for_range (n := ((M + 1 : Nat) : Int).toNat) (fun q σ H' => ∃ v7 : Option V, σ = [some (.ref a), some (.int n), some (.int ((M + 1 : Nat) : Int)), some (.ref b), some (.int x), some (.int ((bin n x : Nat) : Int)), some (.int d), v7] ∧ Same H H' ∧ TabAt H' b rs' (N + n + 1) (M + n / 2 + 1) (part (Mu47.cell t) n x d q))
          ⟨v7, rfl, s3, T3⟩ ?_ ?_
        · rintro q σ H4 hq ⟨v7, rfl, s4, T4⟩
          have hq : q < M + 1 := by omega
          rw [Int.zero_add]
          obtain ⟨r, hr1, hr2, hr3⟩ := T4.get (d := d + x) (by omega)
          obtain ⟨u, hu1, hu2, hu3⟩ := (hT.same s4).get (d := d) hd
          have hb := bin_small (n := n) (by omega) x
          have e1 : (d : Int) + (x : Int) = ((d + x : Nat) : Int) := by omega
          have e2 : ((q : Int) + (x : Int) / 2).toNat = q + x / 2 := by omega
          refine ⟨_, rfl, _, rfl, _, rfl, _, _, rfl, rfl, b, _, _, _, rfl, rfl, SqL.of T4.tab, at_of e1 hr2, ?_⟩
          refine ⟨_, rfl, _, rfl, _, _, rfl, rfl, ⟨by decide, by decide⟩, _, _, rfl, rfl, ?_⟩
          refine ⟨r, _, _, _, rfl, rfl, SqL.of hr3, by omega, (by rw [e2]; exact numV_get (rowN_get (by omega))), ?_⟩
          refine ⟨_, rfl, _, rfl, a, _, _, _, rfl, rfl, SqL.of (s4 _ _ hT.tab), atI_nat hu2, _, rfl, u, _, _, _, rfl, rfl, SqL.of hu3, atI_nat (numV_get (rowN_get hq)), _, rfl, _, _, rfl, rfl, .inr ⟨by omega, by omega⟩, ?_⟩
          refine ⟨_, _, rfl, rfl, r, _, _, q + x / 2, rfl, rfl, hr3, ?_, some (.int q), rfl, ?_, ?_⟩
          · rw [numV_length, rowN_length]
            unfold ixN
            rw [if_pos (by omega), if_pos (by omega), e2]
          · exact Same.new s4 (nrs r (List.mem_of_getElem? hr1))
          · have e3 : ((part (Mu47.cell t) n x d q (d + x) (q + x / 2) : Nat) : Int) + (((Mu47.cell t d q : Nat) : Int) * ((bin n x : Nat) : Int)) = ((part (Mu47.cell t) n x d q (d + x) (q + x / 2) + Mu47.cell t d q * bin n x : Nat) : Int) := by
              rw [Int.natCast_add, Int.natCast_mul]
            dsimp only
            rw [e3]
            refine T4.put hr1 (fun d' p' => ?_)
            rw [part_step]
            by_cases c : d' = d + x ∧ p' = q + x / 2
            · rw [if_pos c, if_pos c, c.1, c.2]
            · rw [if_neg c, if_neg c]
        · rintro σ H4 ⟨v7, rfl, s4, T4⟩
          refine ⟨_, v7, rfl, s4, ?_⟩
          have e : part (Mu47.cell t) n x d ((M + 1 : Nat) : Int).toNat = part (Mu47.cell t) n x (d + 1) 0 := part_end (fun p hp => g.far _ _ (by omega))
          rw [← e]
          exact T4
      · rintro σ H3 ⟨v6, v7, rfl, s3, T3⟩
        refine ⟨_, _, v6, v7, rfl, s3, ?_⟩
        have e : part (Mu47.cell t) n x ((N + 1 : Nat) : Int).toNat 0 = upto (Mu47.cell t) n (x + 1) := part_done (fun d p hp => g.far _ _ (by omega))
        rw [← e]
        exact T3
    · rintro σ H2 ⟨v4, v5, v6, v7, rfl, s2, T2⟩
      refine ⟨_, rfl, ?_⟩
      rw [n1, upto_all g hn] at T2
      exact k _ _ _ s2 T2
end
end Sk

set_option Elab.async false
set_option maxRecDepth 100000
set_option maxHeartbeats 2000000
namespace Sk
open PySem PySem.Spec PyProof.Rows L2
theorem table_more {l : List Nat} {i n : Nat} (h : l[i]? = some n) : Mu47.table (l.take (i + 1)) = Mu47.more (Mu47.table (l.take i)) n := by
  unfold Mu47.table
  rw [take_more h, List.foldl_append]
  rfl
theorem sum_more {l : List Nat} {i n : Nat} (h : l[i]? = some n) : (l.take (i + 1)).sum = (l.take i).sum + n := by
  rw [take_more h, List.sum_append]
  simp
theorem pairs_more {l : List Nat} {i n : Nat} (h : l[i]? = some n) : Mu47.pairs (l.take (i + 1)) = Mu47.pairs (l.take i) + n / 2 := by
  rw [pairs_sum, pairs_sum, take_more h, List.map_append, List.sum_append]
  simp
theorem sum_take_le (l : List Nat) (i : Nat) : (l.take i).sum ≤ l.sum := by
  have := sum_drop (r := l) (p := i)
  omega
/-- xs[:p], xs[p:] of numbers -/
theorem cut_take (l : List Nat) (p : Nat) : cutV (numV l) none (some (p : Int)) = numV (l.take p) := by
  unfold cutV
  rw [HT.sIx_none, HT.sIx_nat, List.drop_zero, Nat.sub_zero]
  unfold numV
  rw [List.length_map, List.map_take]
  rcases Nat.le_total p l.length with h | h
  · rw [Nat.min_eq_left h]
  · rw [Nat.min_eq_right h, List.take_of_length_le (by rw [List.length_map]; omega), List.take_of_length_le (by rw [List.length_map]; omega)]
theorem cut_drop (l : List Nat) (p : Nat) : cutV (numV l) (some (p : Int)) none = numV (l.drop p) := by
  unfold cutV
  rw [HT.sIx_none, HT.sIx_nat]
  have e : (numV l).drop (min p (numV l).length) = numV (l.drop p) := by
    unfold numV
    rw [List.length_map, List.map_drop]
    rcases Nat.le_total p l.length with h | h
    · rw [Nat.min_eq_left h]
    · rw [Nat.min_eq_right h, List.drop_of_length_le (by rw [List.length_map]; omega), List.drop_of_length_le (by rw [List.length_map]; omega)]
  rw [e, List.take_of_length_le]
  rw [numV_length, numV_length, List.length_drop]
  omega
/-- a sum's question, of numbers -/
theorem sum_numV (l : List Nat) : (l.map fun (n : Nat) => (n : Int)).sum = ((l.sum : Nat) : Int) := sum_cast l
def pairV (x : Nat × Nat) : List V := [.int (x.1 : Int), .int (x.2 : Int)]
section
variable {P : Program} {w : World} {K : PySem.W.Frag} {mg : Str → Option Value} {base : Heap}
theorem sq_sum {H : Hp} {a : Addr} {l : List Nat} (h : H a = some (.lst (numV l))) : SqL K H a ((l.map fun (n : Nat) => (n : Int)).map V.int) := by
  rw [← numV_map]
  exact SqL.of h
/-! ### draw_table -/
def spDraw (K : PySem.W.Frag) : Sp := fun vs H Q _ => ∃ (a : Addr) (l : List Nat), vs = [.ref a] ∧ SqL K H a (numV l) ∧ l.sum ≤ 24 ∧
  ∀ (H' : Hp) (b : Addr) (rs : List Addr), Same H H' → TabAt H' b rs (l.sum + 1) (Mu47.pairs l + 1) (Mu47.cell (Mu47.table l)) → Q (.ref b) H'
theorem scDraw : FnScope ["inside", "ways", "count"] ["inside"] (defScope sDrawTable) := ⟨rfl, rfl, rfl, by decide +kernel, rfl, by decide +kernel, by decide +kernel⟩
theorem ok_draw {f fW : Addr} {fd fdW : FuncData} (F : Fun K "draw_table" "draw_table" sDrawTable f fd)
    (GW : FnOk P w K mg base CX0 2 fW fdW ["ways", "count"] spWith) (kW : PySem.W.keepIn K (.ref fW) = true) (bW : Binds K fdW ["ways", "count"] []) (gW : mg "with_colour" = some (.ref fW)) : FnOk P w K mg base CX0 3 f fd ["inside"] (spDraw K) := by
  refine F.ok scDraw (fun vs H Q E h => ?_) (fun cdv A outer s H vs Q E hr h => ?_)
  · obtain ⟨a, l, rfl, _⟩ := h
    rfl
  · obtain ⟨a, l, rfl, hS, h24, k⟩ := h
    refine ⟨_, pss_cons (ps_set (i := 1) scDraw.nd rfl (Or.inl rfl) (pe_lst (pa_cons (pe_lst (pa_cons pe_int pa_nil)) pa_nil)))
      (pss_cons (ps_for PassesOwn.never rfl (pi_list (pv 0)) (pg_name (i := 2) scDraw.nd rfl (Or.inl rfl))
        (pss_one (ps_set (i := 1) scDraw.nd rfl (Or.inl rfl) (pe_call GW hr rfl gW kW bW .nil pass0 (pa_cons (pv 1) (pa_cons (pv 2) pa_nil))))))
      (pss_one (ps_ret (pv 1)))), ?_⟩
    refine ⟨(by show 1 ≤ sizeLine; decide), fun p hp => ⟨(by show 1 ≤ sizeLine; decide), fun q hq => ?_⟩⟩
    have qp : q ≠ p := fun z => by rw [z, upd_same] at hq; cases hq
    have hq' : H q = none := by rw [upd_ne qp] at hq; exact hq
    have s0 : Same H (upd (upd H p (.lst [V.int 1])) q (.lst [V.ref p])) := Same.new (Same.fresh (Same.refl H) hp) hq'
    refine ⟨_, rfl, a, rfl, ⟨_, s0.seq hS⟩, for_list (K := K) (a := a) (xs := numV l) (fun i σ H' => ∃ (b : Addr) (rs : List Addr) (v : Option V), σ = [some (.ref a), some (.ref b), v] ∧ Same H H' ∧
      TabAt H' b rs ((l.take i).sum + 1) (Mu47.pairs (l.take i) + 1) (Mu47.cell (Mu47.table (l.take i)))) ⟨q, [p], none, rfl, s0, ?_⟩ (fun i σ H' _ ⟨_, _, _, _, s1, _⟩ => s1.seq hS) ?_ ?_⟩
    · refine ⟨rfl, by simp, by simpa using qp, upd_same, fun d r hr => ?_⟩
      cases d with
      | zero =>
        have e : p = r := Option.some.inj hr
        subst e
        rw [upd_ne (Ne.symm qp), upd_same]
        show _ = some (HO.lst (numV [Mu47.cell Mu47.start 0 0]))
        rw [cell_start]
        rfl
      | succ d => exact absurd (show (none : Option Addr) = some r from hr) (fun z => nomatch z)
    · rintro i y σ H' hi ⟨b, rs, v, rfl, s1, T1⟩
      obtain ⟨n, hn, rfl⟩ := get_numV hi
      have le := sum_take_le l (i + 1)
      rw [sum_more hn] at le
      refine ⟨_, rfl, _, rfl, b, n, rs, Mu47.table (l.take i), (l.take i).sum, Mu47.pairs (l.take i), rfl, T1, good_table (by omega), by omega, fun H2 b2 rs2 s2 T2 => ?_⟩
      refine ⟨b2, rs2, _, rfl, s1.trans s2, ?_⟩
      rw [table_more hn, sum_more hn, pairs_more hn]
      exact T2
    · rintro σ H' ⟨b, rs, v, rfl, s1, T1⟩
      rw [numV_length, List.take_length] at T1
      exact ⟨_, rfl, k _ _ _ s1 T1⟩
/-! ### common_divisor -/
def spGcd : Sp := fun vs H Q _ => ∃ (x y : Nat), vs = [.int x, .int y] ∧ Q (.int ((Nat.gcd x y : Nat) : Int)) H
theorem scGcd : FnScope ["one", "other", "rest"] ["one", "other"] (defScope sCommonDivisor) := ⟨rfl, rfl, rfl, by decide +kernel, rfl, by decide +kernel, by decide +kernel⟩
theorem ok_gcd {f : Addr} {fd : FuncData} (F : Fun K "common_divisor" "common_divisor" sCommonDivisor f fd) : FnOk P w K mg base CX0 1 f fd ["one", "other"] spGcd := by
  refine F.ok scGcd (fun vs H Q E h => ?_) (fun cdv A outer s H vs Q E hr h => ?_)
  · obtain ⟨n, x, rfl, _⟩ := h
    rfl
  · obtain ⟨x, y, rfl, k⟩ := h
    refine ⟨_, pss_cons (ps_while PassesOwn.never (pt_cmpR op_gt (pv 1) pe_int (nomark _))
      (pss_cons (ps_set (i := 2) scGcd.nd rfl (Or.inl rfl) (pe_op op_mod (pv 0) (pv 1)))
      (pss_cons (ps_set (i := 0) scGcd.nd rfl (Or.inl rfl) (pv 1))
      (pss_one (ps_set (i := 1) scGcd.nd rfl (Or.inl rfl) (pv 2))))))
      (pss_one (ps_ret (pv 0))), ?_⟩
    refine ⟨fun m σ H' => ∃ (a b : Nat) (v : Option V), σ = [some (.int a), some (.int b), v] ∧ H' = H ∧ Nat.gcd a b = Nat.gcd x y ∧ m = b, ⟨y, x, y, none, rfl, rfl, rfl, rfl⟩, ?_⟩
    rintro m σ H' ⟨a, b, v, rfl, rfl, e, rfl⟩
    refine ⟨_, rfl, _, _, rfl, rfl, _, rfl, ?_⟩
    by_cases c : 0 < m
    · refine if_true_of (decide_eq_true (show (0 : Int) < (m : Int) by omega)) ⟨fun σ' H2 => σ' = [some (.int m), some (.int ((a % m : Nat) : Int)), some (.int ((a % m : Nat) : Int))] ∧ H2 = H', ?_, ?_⟩
      · rintro σ' H2 ⟨rfl, rfl⟩
        refine ⟨a % m, Nat.mod_lt _ c, m, a % m, _, rfl, rfl, ?_, rfl⟩
        rw [← e, Nat.gcd_comm a m, Nat.gcd_rec m a, Nat.gcd_comm]
      · refine ⟨_, rfl, _, rfl, _, _, rfl, rfl, (by show (0 : Int) < (m : Int); omega), _, rfl, _, rfl, ?_, rfl⟩
        rw [Int.natCast_emod]
        rfl
    · refine if_false_of (decide_eq_false (show ¬ (0 : Int) < (m : Int) by omega)) ⟨_, rfl, ?_⟩
      have m0 : m = 0 := by omega
      subst m0
      rw [Nat.gcd_zero_right] at e
      rw [e]
      exact k
/-! ### fraction -/
def spFrac : Sp := fun vs H Q _ => ∃ (x y : Nat), vs = [.int x, .int y] ∧ 0 < y ∧ y < 2 ^ 9000 ∧ ∀ (H' : Hp) (p : Addr), Same H H' → H p = none → H' p = some (.lst (pairV (Mu47.lowest x y))) → Q (.ref p) H'
theorem scFrac : FnScope ["divided", "by", "divisor"] ["divided", "by"] (defScope sFraction) := ⟨rfl, rfl, rfl, by decide +kernel, rfl, by decide +kernel, by decide +kernel⟩
theorem ok_frac {f fG : Addr} {fd fdG : FuncData} (F : Fun K "fraction" "fraction" sFraction f fd) (FG : Fun K "common_divisor" "common_divisor" sCommonDivisor fG fdG) (bG : Binds K fdG ["one", "other"] []) (gG : mg "common_divisor" = some (.ref fG)) :
    FnOk P w K mg base CX0 2 f fd ["divided", "by"] spFrac := by
  have GG : FnOk P w K mg base CX0 1 fG fdG ["one", "other"] spGcd := ok_gcd FG
  refine F.ok scFrac (fun vs H Q E h => ?_) (fun cdv A outer s H vs Q E hr h => ?_)
  · obtain ⟨n, x, rfl, _⟩ := h
    rfl
  · obtain ⟨x, y, rfl, hy, hb, k⟩ := h
    refine ⟨_, pss_cons (ps_set (i := 2) scFrac.nd rfl (Or.inl rfl) (pe_call GG hr rfl gG FG.kp bG .nil pass0 (pa_cons (pv 0) (pa_cons (pv 1) pa_nil))))
      (pss_one (ps_ret (pe_lst (pa_cons (pe_op op_fdivW (pv 0) (pv 2)) (pa_cons (pe_op op_fdivW (pv 1) (pv 2)) pa_nil))))), ?_⟩
    have g0 : 0 < Nat.gcd x y := Nat.gcd_pos_of_pos_right x hy
    have gl : Nat.gcd x y ≤ y := Nat.le_of_dvd hy (Nat.gcd_dvd_right x y)
    have dv : ∀ z : Int, CDivW z ((Nat.gcd x y : Nat) : Int) := fun z => wide_div (b := 9000) (by omega) (by rw [Int.natAbs_natCast]; exact Nat.lt_of_le_of_lt gl hb) (by decide) (by decide)
    refine ⟨_, rfl, _, rfl, x, y, rfl, ?_⟩
    refine ⟨_, rfl, _, rfl, _, _, rfl, rfl, dv _, _, rfl, _, rfl, _, _, rfl, rfl, dv _, (by show 2 ≤ sizeLine; decide), fun p hp => ?_⟩
    refine k _ p (Same.fresh (Same.refl H) hp) hp ?_
    rw [upd_same, lowest_eq hy]
    unfold pairV
    rw [Int.natCast_ediv, Int.natCast_ediv]
/-! ### add_fractions -/
def spAddF (K : PySem.W.Frag) : Sp := fun vs H Q _ => ∃ (p q : Addr) (x y : Nat × Nat) (a b : Nat), vs = [.ref p, .ref q] ∧ SqL K H p (pairV x) ∧ SqL K H q (pairV y) ∧ Within x a ∧ Within y b ∧ 0 < a ∧ 0 < b ∧ a + b + 1 ≤ 9000 ∧
  ∀ (H' : Hp) (r : Addr), Same H H' → H r = none → H' r = some (.lst (pairV (Mu47.sum x y))) → Q (.ref r) H'
theorem scAddF : FnScope ["one", "other"] ["one", "other"] (defScope sAddFractions) := ⟨rfl, rfl, rfl, by decide +kernel, rfl, by decide +kernel, by decide +kernel⟩
theorem ok_addF {f fR : Addr} {fd fdR : FuncData} (F : Fun K "add_fractions" "add_fractions" sAddFractions f fd) (GR : FnOk P w K mg base CX0 2 fR fdR ["divided", "by"] spFrac) (kR : PySem.W.keepIn K (.ref fR) = true) (bR : Binds K fdR ["divided", "by"] []) (gR : mg "fraction" = some (.ref fR)) :
    FnOk P w K mg base CX0 3 f fd ["one", "other"] (spAddF K) := by
  refine F.ok scAddF (fun vs H Q E h => ?_) (fun cdv A outer s H vs Q E hr h => ?_)
  · obtain ⟨p, q, x, y, a, b, rfl, _⟩ := h
    rfl
  · obtain ⟨p, q, x, y, a, b, rfl, hp, hq, wx, wy, a0, b0, hab, k⟩ := h
    refine ⟨_, pss_one (ps_ret (pe_call GR hr rfl gR kR bR .nil pass0 (pa_cons (pe_op op_add (pe_op op_mulW (pe_ix ix_list (pv 0) pe_int (fun _ _ => rfl)) (pe_ix ix_list (pv 1) pe_int (fun _ _ => rfl))) (pe_op op_mulW (pe_ix ix_list (pv 1) pe_int (fun _ _ => rfl)) (pe_ix ix_list (pv 0) pe_int (fun _ _ => rfl))))
      (pa_cons (pe_op op_mulW (pe_ix ix_list (pv 0) pe_int (fun _ _ => rfl)) (pe_ix ix_list (pv 1) pe_int (fun _ _ => rfl))) pa_nil)))), ?_⟩
    have x1 : atI (pairV x) 0 = some (.int (x.1 : Int)) := atI_nat (j := 0) rfl
    have x2 : atI (pairV x) 1 = some (.int (x.2 : Int)) := atI_nat (j := 1) rfl
    have y1 : atI (pairV y) 0 = some (.int (y.1 : Int)) := atI_nat (j := 0) rfl
    have y2 : atI (pairV y) 1 = some (.int (y.2 : Int)) := atI_nat (j := 1) rfl
    have m1 : CMulW (x.1 : Int) (y.2 : Int) := wide_mul (a := a) (b := b) (by rw [Int.natAbs_natCast]; exact wx.num) (by rw [Int.natAbs_natCast]; exact wy.den) a0 b0 (by omega)
    have m2 : CMulW (y.1 : Int) (x.2 : Int) := wide_mul (a := b) (b := a) (by rw [Int.natAbs_natCast]; exact wy.num) (by rw [Int.natAbs_natCast]; exact wx.den) b0 a0 (by omega)
    have m3 : CMulW (x.2 : Int) (y.2 : Int) := wide_mul (a := a) (b := b) (by rw [Int.natAbs_natCast]; exact wx.den) (by rw [Int.natAbs_natCast]; exact wy.den) a0 b0 (by omega)
    refine ⟨_, rfl, p, _, _, _, rfl, rfl, hp, x1, _, rfl, q, _, _, _, rfl, rfl, hq, y2, _, _, rfl, rfl, m1, ?_⟩
    refine ⟨_, rfl, q, _, _, _, rfl, rfl, hq, y1, _, rfl, p, _, _, _, rfl, rfl, hp, x2, _, _, rfl, rfl, m2, _, _, rfl, rfl, ?_⟩
    refine ⟨_, rfl, p, _, _, _, rfl, rfl, hp, x2, _, rfl, q, _, _, _, rfl, rfl, hq, y2, _, _, rfl, rfl, m3, ?_⟩
    obtain ⟨b1, b2, b3⟩ := within_sum wx wy
    refine ⟨x.1 * y.2 + y.1 * x.2, x.2 * y.2, ?_, b3, Nat.lt_of_lt_of_le b2 (Nat.pow_le_pow_right (by decide) hab), k⟩
    rw [Int.natCast_add, Int.natCast_mul, Int.natCast_mul, Int.natCast_mul]
    rfl
end
end Sk

set_option Elab.async false
set_option maxRecDepth 100000
set_option maxHeartbeats 2000000
namespace Sk
open PySem PySem.Spec PyProof.Rows L2
theorem big_row {n k : Nat} (h : n ≤ 24) : bin n k < 2 ^ 9000 := Nat.lt_of_le_of_lt (bin_small h k) (Nat.lt_of_lt_of_le (show 16777216 < 2 ^ 25 by decide) (Nat.pow_le_pow_right (by decide) (by decide)))
section
variable {P : Program} {w : World} {K : PySem.W.Frag} {mg : Str → Option Value} {base : Heap}
/-! ### fewest_for -/
def spFewest (K : PySem.W.Frag) : Sp := fun vs H Q _ => ∃ (a : Addr) (l : List Nat) (p : Nat), vs = [.ref a, .int p] ∧ SqL K H a (numV l) ∧ l.sum ≤ 24 ∧ p ≤ Mu47.pairs l ∧
  ∀ (H' : Hp) (d : Nat), Same H H' → Mu47.surely l p = some d → Q (.int (d : Int)) H'
theorem scFewest : FnScope ["inside", "pairs", "ways", "socks"] ["inside", "pairs"] (defScope sFewestFor) := ⟨rfl, rfl, rfl, by decide +kernel, rfl, by decide +kernel, by decide +kernel⟩
theorem ok_fewest {f fD : Addr} {fd fdD : FuncData} (F : Fun K "fewest_for" "fewest_for" sFewestFor f fd) (mSum : mg "sum" = none)
    (GD : FnOk P w K mg base CX0 3 fD fdD ["inside"] (spDraw K)) (kD : PySem.W.keepIn K (.ref fD) = true) (bD : Binds K fdD ["inside"] []) (gD : mg "draw_table" = some (.ref fD)) : FnOk P w K mg base CX0 4 f fd ["inside", "pairs"] (spFewest K) := by
  refine F.ok scFewest (fun vs H Q E h => ?_) (fun cdv A outer s H vs Q E hr h => ?_)
  · obtain ⟨a, l, p, rfl, _⟩ := h
    rfl
  · obtain ⟨a, l, p, rfl, hS, h24, hp, k⟩ := h
    refine ⟨_, pss_cons (ps_set (i := 2) scFewest.nd rfl (Or.inl rfl) (pe_call GD hr rfl gD kD bD .nil pass0 (pa_cons (pv 0) pa_nil)))
      (pss_cons (ps_set (i := 3) scFewest.nd rfl (Or.inl rfl) pe_int)
      (pss_cons (ps_while PassesOwn.never (pt_cmpR op_gt (pe_callB (cr_sum rfl) (by rfl) mSum (by decide +kernel) (pa_cons (pe_slice sl_list (pe_ix ix_list (pv 2) (pv 3) (fun _ _ => rfl)) po_none (po_some (pv 1))) pa_nil)) pe_int (nomark _))
        (pss_one (ps_aug (i := 3) scFewest.nd rfl (Or.inl rfl) pe_int ip_add)))
      (pss_one (ps_ret (pv 3))))), ?_⟩
    refine ⟨_, rfl, a, l, rfl, hS, h24, fun H1 b rs s1 T1 => ?_⟩
    have g := good_table h24
    refine ⟨fun m σ H' => ∃ d : Nat, σ = [some (.ref a), some (.int p), some (.ref b), some (.int d)] ∧ Same H H' ∧ Same H1 H' ∧ (∀ j, j < d → 0 < Mu47.fewer (Mu47.table l) j p) ∧ d ≤ l.sum ∧ m = l.sum - d, ⟨l.sum, 0, rfl, s1, Same.refl H1, (fun j hj => by omega), Nat.zero_le _, rfl⟩, ?_⟩
    rintro m σ H2 ⟨d, rfl, s2, s3, hj, hd, rfl⟩
    have T2 := T1.same s3
    obtain ⟨r, hr1, hr2, hr3⟩ := T2.get (d := d) (by omega)
    refine ⟨_, rfl, _, rfl, b, _, _, _, rfl, rfl, SqL.of T2.tab, atI_nat hr2, _, rfl, _, rfl, r, _, rfl, SqL.of hr3, fun c hc => ?_⟩
    rw [cut_take]
    refine ⟨c, _, rfl, sq_sum upd_same, ?_⟩
    rw [sum_cast, g.row_take]
    refine ⟨_, _, rfl, rfl, _, rfl, ?_⟩
    by_cases z : 0 < Mu47.fewer (Mu47.table l) d p
    · have dn : d ≠ l.sum := fun e => by
        rw [e, g.fewer_top hp] at z
        omega
      refine if_true_of (decide_eq_true (by omega)) ⟨fun σ' H3 => σ' = [some (.ref a), some (.int p), some (.ref b), some (.int ((d + 1 : Nat) : Int))] ∧ Same H2 H3, ?_, ?_⟩
      · rintro σ' H3 ⟨rfl, s4⟩
        refine ⟨l.sum - (d + 1), by omega, d + 1, rfl, s2.trans s4, s3.trans s4, fun j h => ?_, by omega, rfl⟩
        by_cases e : j = d
        · rw [e]
          exact z
        · exact hj j (by omega)
      · refine ⟨_, rfl, _, _, rfl, rfl, ?_, Same.fresh (Same.refl H2) hc⟩
        rw [Int.natCast_add]
        rfl
    · refine if_false_of (decide_eq_false (by omega)) ⟨_, rfl, ?_⟩
      exact k _ d (Same.fresh s2 hc) (surely_some hd (by omega) hj)
/-! ### chance_of -/
def spChance (K : PySem.W.Frag) : Sp := fun vs H Q _ => ∃ (a : Addr) (l : List Nat) (d p : Nat), vs = [.ref a, .int d, .int p] ∧ SqL K H a (numV l) ∧ l.sum ≤ 24 ∧ d ≤ l.sum ∧
  ∀ (H' : Hp) (r : Addr), Same H H' → H r = none → H' r = some (.lst (pairV (Mu47.chance l d p))) → Q (.ref r) H'
theorem scChance : FnScope ["inside", "socks", "pairs", "row"] ["inside", "socks", "pairs"] (defScope sChanceOf) := ⟨rfl, rfl, rfl, by decide +kernel, rfl, by decide +kernel, by decide +kernel⟩
theorem ok_chance {f fD fR : Addr} {fd fdD fdR : FuncData} (F : Fun K "chance_of" "chance_of" sChanceOf f fd) (mSum : mg "sum" = none)
    (GD : FnOk P w K mg base CX0 3 fD fdD ["inside"] (spDraw K)) (kD : PySem.W.keepIn K (.ref fD) = true) (bD : Binds K fdD ["inside"] []) (gD : mg "draw_table" = some (.ref fD))
    (GR : FnOk P w K mg base CX0 2 fR fdR ["divided", "by"] spFrac) (kR : PySem.W.keepIn K (.ref fR) = true) (bR : Binds K fdR ["divided", "by"] []) (gR : mg "fraction" = some (.ref fR)) : FnOk P w K mg base CX0 4 f fd ["inside", "socks", "pairs"] (spChance K) := by
  refine F.ok scChance (fun vs H Q E h => ?_) (fun cdv A outer s H vs Q E hr h => ?_)
  · obtain ⟨a, l, d, p, rfl, _⟩ := h
    rfl
  · obtain ⟨a, l, d, p, rfl, hS, h24, hd, k⟩ := h
    have hr2 : Room 2 _ := hr.mono (by decide)
    refine ⟨_, pss_cons (ps_set (i := 3) scChance.nd rfl (Or.inl rfl) (pe_ix ix_list (pe_call GD hr rfl gD kD bD .nil pass0 (pa_cons (pv 0) pa_nil)) (pv 1) (fun _ _ => rfl)))
      (pss_one (ps_ret (pe_call GR hr2 rfl gR kR bR .nil pass0 (pa_cons (pe_callB (cr_sum rfl) (by rfl) mSum (by decide +kernel) (pa_cons (pe_slice sl_list (pv 3) (po_some (pv 2)) po_none) pa_nil))
        (pa_cons (pe_callB (cr_sum rfl) (by rfl) mSum (by decide +kernel) (pa_cons (pv 3) pa_nil)) pa_nil))))), ?_⟩
    refine ⟨_, rfl, a, l, rfl, hS, h24, fun H1 b rs s1 T1 => ?_⟩
    have g := good_table h24
    obtain ⟨r, hr1, hr2, hr3⟩ := T1.get (d := d) (by omega)
    refine ⟨_, rfl, b, _, _, _, rfl, rfl, SqL.of T1.tab, atI_nat hr2, ?_⟩
    refine ⟨_, rfl, _, rfl, _, rfl, r, _, rfl, SqL.of hr3, fun c hc => ?_⟩
    rw [cut_drop]
    refine ⟨c, _, rfl, sq_sum upd_same, _, rfl, r, _, rfl, sq_sum ((upd_ne (ne_of_none hr3 hc)).trans hr3), ?_⟩
    rw [sum_cast, sum_cast, g.row_drop, g.row_sum]
    refine ⟨_, _, rfl, bin_pos hd, big_row h24, fun H2 q s2 nq e => ?_⟩
    refine k H2 q ((Same.fresh s1 hc).trans s2) ((Same.fresh s1 hc).free nq) ?_
    rw [e]
    unfold Mu47.chance
    rw [choose_bin, total_sum]
/-! ### average_pairs -/
def spAverage (K : PySem.W.Frag) : Sp := fun vs H Q _ => ∃ (a : Addr) (l : List Nat) (d : Nat), vs = [.ref a, .int d] ∧ SqL K H a (numV l) ∧ l.sum ≤ 24 ∧ d ≤ l.sum ∧
  ∀ (H' : Hp) (r : Addr), Same H H' → H r = none → H' r = some (.lst (pairV (Mu47.average l d))) → Q (.ref r) H'
abbrev nAverage : List Str := ["inside", "socks", "row", "pairs", "ways"]
theorem scAverage : FnScope nAverage ["inside", "socks"] (defScope sAveragePairs) := ⟨rfl, rfl, rfl, by decide +kernel, rfl, by decide +kernel, by decide +kernel⟩
theorem ok_average {f fD fR : Addr} {fd fdD fdR : FuncData} (F : Fun K "average_pairs" "average_pairs" sAveragePairs f fd) (mSum : mg "sum" = none) (mEnum : mg "enumerate" = none)
    (GD : FnOk P w K mg base CX0 3 fD fdD ["inside"] (spDraw K)) (kD : PySem.W.keepIn K (.ref fD) = true) (bD : Binds K fdD ["inside"] []) (gD : mg "draw_table" = some (.ref fD))
    (GR : FnOk P w K mg base CX0 2 fR fdR ["divided", "by"] spFrac) (kR : PySem.W.keepIn K (.ref fR) = true) (bR : Binds K fdR ["divided", "by"] []) (gR : mg "fraction" = some (.ref fR)) : FnOk P w K mg base CX0 4 f fd ["inside", "socks"] (spAverage K) := by
  refine F.ok scAverage (fun vs H Q E h => ?_) (fun cdv A outer s H vs Q E hr h => ?_)
  · obtain ⟨a, l, d, rfl, _⟩ := h
    rfl
  · obtain ⟨a, l, d, rfl, hS, h24, hd, k⟩ := h
    have hr2 : Room 2 _ := hr.mono (by decide)
    refine ⟨_, pss_cons (ps_set (i := 2) scAverage.nd rfl (Or.inl rfl) (pe_ix ix_list (pe_call GD hr rfl gD kD bD .nil pass0 (pa_cons (pv 0) pa_nil)) (pv 1) (fun _ _ => rfl)))
      (pss_one (ps_ret (pe_call GR hr2 rfl gR kR bR .nil pass0 (pa_cons (pe_callB (cr_sum rfl) (by rfl) mSum (by decide +kernel) (pa_cons
        (pe_lc (own := [("pairs", 3), ("ways", 4)]) (g := gTup K 2 (gCons (gName 3) (gCons (gName 4) gNil))) (tt := tYes) rfl scAverage.nd (pi_enum (by rfl) mEnum (pa_cons (pv 2) pa_nil)) (blkOk_by (N := nAverage) (sc := defScope sAveragePairs) (by decide +kernel))
          (fun _ _ _ _ _ => pg_tup rfl (pgs_cons (pg_name (i := 3) scAverage.nd rfl (Or.inl rfl)) (pgs_cons (pg_name (i := 4) scAverage.nd rfl (Or.inl rfl)) pgs_nil))) (fun _ _ _ _ _ => pts_nil) (fun _ _ _ _ _ => pe_op op_mul (pv 3) (pv 4))) pa_nil))
        (pa_cons (pe_callB (cr_sum rfl) (by rfl) mSum (by decide +kernel) (pa_cons (pv 2) pa_nil)) pa_nil))))), ?_⟩
    refine ⟨_, rfl, a, l, rfl, hS, h24, fun H1 b rs s1 T1 => ?_⟩
    have g := good_table h24
    obtain ⟨r, hr1, hr2, hr3⟩ := T1.get (d := d) (by omega)
    have two := g.two
    refine ⟨_, rfl, b, _, _, _, rfl, rfl, SqL.of T1.tab, atI_nat hr2, ?_⟩
    refine ⟨_, rfl, r, _, rfl, SqL.of hr3, fun D hD => ?_⟩
    refine lc_it (walk_enum (K := K) (a := r) (xs := numV (rowN (Mu47.cell (Mu47.table l) d) (Mu47.pairs l + 1)))) (fun i H' => Same H1 H' ∧ H' D = some (.lst (numV (rowN (fun p => p * Mu47.cell (Mu47.table l) d p) i)))) ⟨Same.fresh (Same.refl H1) hD, upd_same⟩ (fun i H' _ h => SqL.of (h.1 _ _ hr3)) ?_ ?_
    · rintro i x H2 H3 hi ⟨s2, h2⟩ ⟨T, u, v, rfl, nT, rfl, eu, ev⟩
      rw [numV_length, rowN_length] at hi
      obtain rfl : V.int ((i : Nat) : Int) = u := Option.some.inj eu
      obtain rfl : V.int ((Mu47.cell (Mu47.table l) d i : Nat) : Int) = v := Option.some.inj ((numV_get (rowN_get hi)).symm.trans ev)
      refine ⟨T, _, rfl, SqT.of upd_same, rfl, _, _, rfl, _, _, rfl, rfl, ?_⟩
      refine ⟨rfl, ?_⟩
      refine yes_if ?_
      refine ⟨_, rfl, _, rfl, _, _, rfl, rfl, .inl ⟨by omega, by omega⟩, _, (upd_ne (ne_of_none h2 nT)).trans h2, ?_, Same.new (Same.fresh s2 nT) hD, ?_⟩
      · rw [numV_length, rowN_length]
        exact small1000 (by omega)
      · rw [upd_same]
        refine congrArg (fun q => some (HO.lst q)) ?_
        unfold rowN
        rw [List.range_succ, List.map_append, numV_append]
        show _ ++ [V.int _] = _ ++ [V.int _]
        rw [Int.natCast_mul]
    · rintro H2 ⟨s2, h2⟩
      rw [numV_length, rowN_length] at h2
      refine ⟨D, _, rfl, sq_sum h2, _, rfl, r, _, rfl, sq_sum (s2 _ _ hr3), ?_⟩
      rw [sum_cast, sum_cast, g.row_sum]
      refine ⟨_, _, rfl, bin_pos hd, big_row h24, fun H3 q s3 nq e => ?_⟩
      refine k H3 q (s1.trans (s2.trans s3)) ((s1.trans s2).free nq) ?_
      rw [e]
      unfold Mu47.average
      rw [choose_bin, total_sum l, ← g.row_weight, rowN, sum_range]
/-! ### average_draws -/
def spUntil (K : PySem.W.Frag) : Sp := fun vs H Q _ => ∃ (a : Addr) (l : List Nat) (p : Nat), vs = [.ref a, .int p] ∧ SqL K H a (numV l) ∧ l.sum ≤ 24 ∧
  ∀ (H' : Hp) (r : Addr), Same H H' → H r = none → H' r = some (.lst (pairV (Mu47.until_ l p))) → Q (.ref r) H'
theorem scUntil : FnScope ["inside", "pairs", "total", "row"] ["inside", "pairs"] (defScope sAverageDraws) := ⟨rfl, rfl, rfl, by decide +kernel, rfl, by decide +kernel, by decide +kernel⟩
theorem ok_until {f fD fR fA : Addr} {fd fdD fdR fdA : FuncData} (F : Fun K "average_draws" "average_draws" sAverageDraws f fd) (mSum : mg "sum" = none)
    (GD : FnOk P w K mg base CX0 3 fD fdD ["inside"] (spDraw K)) (kD : PySem.W.keepIn K (.ref fD) = true) (bD : Binds K fdD ["inside"] []) (gD : mg "draw_table" = some (.ref fD))
    (GR : FnOk P w K mg base CX0 2 fR fdR ["divided", "by"] spFrac) (kR : PySem.W.keepIn K (.ref fR) = true) (bR : Binds K fdR ["divided", "by"] []) (gR : mg "fraction" = some (.ref fR))
    (GA : FnOk P w K mg base CX0 3 fA fdA ["one", "other"] (spAddF K)) (kA : PySem.W.keepIn K (.ref fA) = true) (bA : Binds K fdA ["one", "other"] []) (gA : mg "add_fractions" = some (.ref fA)) : FnOk P w K mg base CX0 4 f fd ["inside", "pairs"] (spUntil K) := by
  refine F.ok scUntil (fun vs H Q E h => ?_) (fun cdv A outer s H vs Q E hr h => ?_)
  · obtain ⟨a, l, p, rfl, _⟩ := h
    rfl
  · obtain ⟨a, l, p, rfl, hS, h24, k⟩ := h
    have hr2 : Room 2 _ := hr.mono (by decide)
    refine ⟨_, pss_cons (ps_set (i := 2) scUntil.nd rfl (Or.inl rfl) (pe_lst (pa_cons pe_int (pa_cons pe_int pa_nil))))
      (pss_cons (ps_for PassesOwn.never rfl (pi_list (pe_call GD hr rfl gD kD bD .nil pass0 (pa_cons (pv 0) pa_nil))) (pg_name (i := 3) scUntil.nd rfl (Or.inl rfl))
        (pss_one (ps_set (i := 2) scUntil.nd rfl (Or.inl rfl) (pe_call GA hr rfl gA kA bA .nil pass0 (pa_cons (pv 2) (pa_cons (pe_call GR hr2 rfl gR kR bR .nil pass0
          (pa_cons (pe_callB (cr_sum rfl) (by rfl) mSum (by decide +kernel) (pa_cons (pe_slice sl_list (pv 3) po_none (po_some (pv 1))) pa_nil)) (pa_cons (pe_callB (cr_sum rfl) (by rfl) mSum (by decide +kernel) (pa_cons (pv 3) pa_nil)) pa_nil))) pa_nil))))))
      (pss_one (ps_ret (pv 2)))), ?_⟩
    refine ⟨(by show 2 ≤ sizeLine; decide), fun c hc => ?_⟩
    have s0 : Same H (upd H c (.lst [V.int 0, V.int 1])) := Same.fresh (Same.refl H) hc
    refine ⟨_, rfl, a, l, rfl, s0.seq hS, h24, fun H1 b rs s1 T1 => ?_⟩
    have g := good_table h24
    refine ⟨b, rfl, ⟨_, SqL.of T1.tab⟩, for_list (K := K) (a := b) (xs := rs.map V.ref) (fun i σ H' => ∃ (q : Addr) (v : Option V), σ = [some (.ref a), some (.int p), some (.ref q), v] ∧ Same H1 H' ∧ H q = none ∧ H' q = some (.lst (pairV (sofar l p i))))
      ⟨c, none, rfl, Same.refl H1, hc, s1 _ _ upd_same⟩ (fun i σ H' _ ⟨_, _, _, s2, _⟩ => SqL.of (s2 _ _ T1.tab)) ?_ ?_⟩
    · rintro i y σ H2 hi ⟨q, v, rfl, s2, nq, hq⟩
      have il : i < l.sum + 1 := by
        have := (List.getElem?_eq_some_iff.mp hi).1
        rw [List.length_map, T1.len] at this
        exact this
      obtain ⟨r, hr1, hr2, hr3⟩ := (T1.same s2).get (d := i) il
      rw [hr2] at hi
      obtain rfl := Option.some.inj hi
      refine ⟨_, rfl, _, rfl, _, rfl, _, rfl, r, _, rfl, SqL.of hr3, fun e he => ?_⟩
      rw [cut_take]
      refine ⟨e, _, rfl, sq_sum upd_same, _, rfl, r, _, rfl, sq_sum ((upd_ne (ne_of_none hr3 he)).trans hr3), ?_⟩
      rw [sum_cast, sum_cast, g.row_take, g.row_sum]
      have s3 : Same H2 (upd H2 e (.lst (numV (List.take p (rowN (Mu47.cell (Mu47.table l) i) (Mu47.pairs l + 1)))))) := Same.fresh (Same.refl H2) he
      refine ⟨_, _, rfl, bin_pos (by omega), big_row h24, fun H3 u s4 nu eu => ?_⟩
      refine ⟨q, u, sofar l p i, _, 26 * i + 1, 25, rfl, SqL.of (s4 _ _ (s3 _ _ hq)), SqL.of eu, within_sofar h24 p (by omega), within_row h24 p (by omega), by omega, by omega, by omega, fun H4 z s5 nz ez => ?_⟩
      have s6 : Same H2 H4 := s3.trans (s4.trans s5)
      refine ⟨z, _, rfl, s2.trans s6, (s0.trans (s1.trans (s2.trans (s3.trans s4)))).free nz, ?_⟩
      rw [sofar_succ]
      exact ez
    · rintro σ H2 ⟨q, v, rfl, s2, nq, hq⟩
      rw [List.length_map, T1.len, ← sofar_all] at hq
      exact ⟨_, rfl, k _ _ (s0.trans (s1.trans s2)) nq hq⟩
end
end Sk

set_option Elab.async false
set_option maxRecDepth 100000
set_option maxHeartbeats 2000000
namespace Sk
open PySem PySem.Spec PyProof.Rows L2
/-! ### the calls, parted -/
structure PartsAt (B H : Hp) (a : Addr) (rs : List Addr) (ps : List (Nat × List Nat)) : Prop where
  len : rs.length = ps.length
  new : B a = none
  lst : H a = some (.lst (rs.map V.ref))
  part : ∀ (i : Nat) (t : Addr) (q : Nat × List Nat), rs[i]? = some t → ps[i]? = some q → ∃ h, B t = none ∧ B h = none ∧ H t = some (.tup [.int (q.1 : Int), .ref h]) ∧ H h = some (.lst (numV q.2))
theorem snoc_get {α : Type} {l : List α} {x y : α} {i : Nat} (h : (l ++ [x])[i]? = some y) : (i < l.length ∧ l[i]? = some y) ∨ (i = l.length ∧ x = y) := by
  by_cases c : i < l.length
  · rw [List.getElem?_append_left c] at h
    exact .inl ⟨c, h⟩
  · rw [List.getElem?_append_right (by omega)] at h
    have e : i - l.length = 0 := by
      have := (List.getElem?_eq_some_iff.mp h).1
      rw [List.length_singleton] at this
      omega
    rw [e] at h
    exact .inr ⟨by omega, Option.some.inj h⟩
theorem PartsAt.push {B H : Hp} {b : Addr} {rs : List Addr} {ps : List (Nat × List Nat)} (T : PartsAt B H b rs ps) (sB : Same B H) (q : Nat × List Nat) {p t : Addr} (hp : H p = none) (ht : upd H p (.lst (numV q.2)) t = none) :
    PartsAt B (upd (upd (upd H p (.lst (numV q.2))) t (.tup [.int (q.1 : Int), .ref p])) b (.lst (rs.map V.ref ++ [.ref t]))) b (rs ++ [t]) (ps ++ [q]) := by
  have tp : t ≠ p := fun z => by rw [z, upd_same] at ht; cases ht
  have ht' : H t = none := by rw [upd_ne tp] at ht; exact ht
  have bp : b ≠ p := ne_of_none T.lst hp
  have bt : b ≠ t := ne_of_none T.lst ht'
  refine ⟨?_, T.new, ?_, fun i u r h1 h2 => ?_⟩
  · rw [List.length_append, List.length_append, T.len]
    rfl
  · rw [upd_same, List.map_append]
    rfl
  · rcases snoc_get h1 with ⟨c, h1⟩ | ⟨c, e1⟩
    · rcases snoc_get h2 with ⟨c2, h2⟩ | ⟨c2, e2⟩
      · obtain ⟨h, n1, n2, e1, e2⟩ := T.part i u r h1 h2
        have ub : u ≠ b := ne_of e1 T.lst (fun z => by cases z)
        refine ⟨h, n1, n2, ?_, ?_⟩
        · rw [upd_ne ub, upd_ne (ne_of_none e1 ht'), upd_ne (ne_of_none e1 hp)]
          exact e1
        · have hb : h ≠ b := fun z => by
            rw [z, T.lst] at e2
            have e3 : rs.map V.ref = numV r.2 := by injection (Option.some.inj e2)
            have e4 : (rs.map V.ref)[i]? = some (.ref u) := by rw [List.getElem?_map, h1]; rfl
            rw [e3] at e4
            obtain ⟨n, _, e5⟩ := get_numV e4
            cases e5
          rw [upd_ne hb, upd_ne (ne_of_none e2 ht'), upd_ne (ne_of_none e2 hp)]
          exact e2
      · rw [T.len] at c
        omega
    · rcases snoc_get h2 with ⟨c2, h2⟩ | ⟨c2, e2⟩
      · rw [T.len] at c
        omega
      · subst e1
        subst e2
        refine ⟨p, sB.free ht', sB.free hp, ?_, ?_⟩
        · rw [upd_ne (Ne.symm bt), upd_same]
        · rw [upd_ne (Ne.symm bp), upd_ne (Ne.symm tp), upd_same]
theorem flat_split {ps : List (Nat × List Nat)} {i : Nat} {q : Nat × List Nat} (h : ps[i]? = some q) : flatN ps = flatN (ps.take i) ++ (encN q ++ flatN (ps.drop (i + 1))) := by
  have hi : i < ps.length := (List.getElem?_eq_some_iff.mp h).1
  have e : ps = ps.take i ++ q :: ps.drop (i + 1) := by
    have e1 : ps.drop i = q :: ps.drop (i + 1) := by
      rw [List.drop_eq_getElem_cons hi]
      congr 1
      exact (List.getElem?_eq_some_iff.mp h).2
    rw [← e1, List.take_append_drop]
  have e2 : flatN ps = flatN (ps.take i ++ q :: ps.drop (i + 1)) := congrArg flatN e
  rw [e2]
  unfold flatN
  rw [List.flatMap_append, List.flatMap_cons]
theorem flat_more {ps : List (Nat × List Nat)} {i : Nat} {q : Nat × List Nat} (h : ps[i]? = some q) : (flatN (ps.take (i + 1))).length = (flatN (ps.take i)).length + (encN q).length := by
  rw [take_one h]
  unfold flatN
  rw [List.flatMap_append, List.length_append]
  simp
/-- xs[s:e] of numbers: the middle of three -/
theorem cut_mid {a b c : List Nat} {s e : Nat} (hs : s = a.length) (he : e = a.length + b.length) : cutV (numV (a ++ (b ++ c))) (some (s : Int)) (some (e : Int)) = numV b := by
  unfold cutV
  rw [HT.sIx_nat, HT.sIx_nat]
  have l : (numV (a ++ (b ++ c))).length = a.length + (b.length + c.length) := by
    rw [numV_length, List.length_append, List.length_append]
  rw [l, Nat.min_eq_left (by omega), Nat.min_eq_left (by omega), numV_append, hs, ← numV_length a, List.drop_left, numV_append, he]
  rw [numV_length, Nat.add_sub_cancel_left, ← numV_length b, List.take_left]
theorem at_mid {a c : List Nat} {x k : Nat} (h : k = a.length) : (numV (a ++ x :: c))[k]? = some (V.int (x : Int)) := by
  refine numV_get ?_
  rw [h, List.getElem?_append_right (Nat.le_refl _), Nat.sub_self]
  rfl
/-- how many numbers each call is handed -/
def handed : List Nat := [0, 1, 1, 2, 1, 1, 1, 0, 0, 2, 2, 0, 0, 0]
theorem req_handed {p : Nat} {a : List Nat} {m : Mu47.Call} (r : Req p a m) : ∃ n, handed[p]? = some n ∧ (p ≠ 0 → n = a.length) := by
  cases r <;> exact ⟨_, rfl, fun _ => by first | rfl | contradiction⟩
abbrev sSplit : Stmt := top 55
section
variable {P : Program} {w : World} {K : PySem.W.Frag} {mg : Str → Option Value} {base : Heap}
def spSplit (K : PySem.W.Frag) : Sp := fun vs H Q _ => ∃ (a : Addr) (ps : List (Nat × List Nat)) (ms : List Mu47.Call), vs = [.ref a] ∧ SqL K H a (numV (flatN ps)) ∧ Reqs ps ms ∧ ps.length ≤ 60 ∧ (flatN ps).length ≤ 600 ∧
  ∀ (H' : Hp) (b : Addr) (rs : List Addr), Same H H' → PartsAt H H' b rs ps → Q (.ref b) H'
abbrev nSplit : List Str := ["calls", "parted", "at", "number", "start", "size"]
theorem scSplit : FnScope nSplit ["calls"] (defScope sSplit) := ⟨rfl, rfl, rfl, by decide +kernel, rfl, by decide +kernel, by decide +kernel⟩
theorem ok_split {f aH : Addr} {fd : FuncData} {tB : Tok} (F : Fun K "split_calls" "split_calls" sSplit f fd) (mLen : mg "len" = none) (gB : mg "BEGIN" = some (.int 0 tB)) (gH : mg "HANDED" = some (.ref aH)) (hH : ∀ H, SqT K H aH (numV handed)) :
    FnOk P w K mg base CX0 1 f fd ["calls"] (spSplit K) := by
  refine F.ok scSplit (fun vs H Q E h => ?_) (fun cdv A outer s H vs Q E hr h => ?_)
  · obtain ⟨a, ps, ms, rfl, _⟩ := h
    rfl
  · obtain ⟨a, ps, ms, rfl, hS, rq, h60, h600, k⟩ := h
    refine ⟨_, pss_cons (ps_set (i := 1) scSplit.nd rfl (Or.inl rfl) (pe_lst pa_nil))
      (pss_cons (ps_set (i := 2) scSplit.nd rfl (Or.inl rfl) pe_int)
      (pss_cons (ps_while PassesOwn.never (pt_cmpR op_lt (pv 2) (pe_callB call_len_seq (by rfl) mLen PySem.boot_len (pa_cons (pv 0) pa_nil)) (nomark _))
        (pss_cons (ps_set (i := 3) scSplit.nd rfl (Or.inl rfl) (pe_ix ix_list (pv 0) (pv 2) (fun _ _ => rfl)))
        (pss_cons (ps_set (i := 4) scSplit.nd rfl (Or.inl rfl) (pe_op op_add (pv 2) pe_int))
        (pss_cons (ps_set (i := 5) scSplit.nd rfl (Or.inl rfl) (pe_ix ix_tup (pe_glob (v := .ref aH) rfl gH rfl) (pv 3) (fun _ _ => rfl)))
        (pss_cons (ps_if (pt_cmpR op_eq (pv 3) (pe_glob (v := .int 0) rfl gB ⟨_, rfl⟩) (nomark _))
          (pss_cons (ps_set (i := 4) scSplit.nd rfl (Or.inl rfl) (pe_op op_add (pv 2) pe_int))
          (pss_one (ps_set (i := 5) scSplit.nd rfl (Or.inl rfl) (pe_ix ix_list (pv 0) (pe_op op_add (pv 2) pe_int) (fun _ _ => rfl))))) pss_nil)
        (pss_cons (ps_expr (pe_bm PySem.F.plainAttrs_list PySem.F.slot_list_append PySem.F.type_list_append mt_append (pv 1)
          (pa_cons (pe_tup (pa_cons (pv 3) (pa_cons (pe_slice sl_list (pv 0) (po_some (pv 4)) (po_some (pe_op op_add (pv 4) (pv 5)))) pa_nil))) pa_nil)))
        (pss_one (ps_set (i := 2) scSplit.nd rfl (Or.inl rfl) (pe_op op_add (pv 4) (pv 5))))))))))
      (pss_one (ps_ret (pv 1))))), ?_⟩
    refine ⟨(by show 0 ≤ sizeLine; decide), fun b hb => ?_⟩
    refine ⟨fun m σ H' => ∃ (i : Nat) (rs : List Addr) (v3 v4 v5 : Option V), σ = [some (.ref a), some (.ref b), some (.int (((flatN (ps.take i)).length : Nat) : Int)), v3, v4, v5] ∧ i ≤ ps.length ∧ Same H H' ∧ PartsAt H H' b rs (ps.take i) ∧ m = ps.length - i,
      ⟨ps.length, 0, [], none, none, none, rfl, Nat.zero_le _, Same.fresh (Same.refl H) hb, ⟨rfl, hb, upd_same, fun i t q h1 _ => absurd (List.getElem?_nil.symm.trans h1) (fun z => nomatch z)⟩, rfl⟩, ?_⟩
    rintro m σ H' ⟨i, rs, v3, v4, v5, rfl, hi, s1, T, rfl⟩
    refine ⟨_, rfl, _, rfl, a, _, rfl, .inl (s1.seq hS), _, _, rfl, rfl, _, rfl, ?_⟩
    rw [numV_length]
    by_cases c : i < ps.length
    · obtain ⟨q, hq⟩ : ∃ q, ps[i]? = some q := ⟨_, List.getElem?_eq_getElem c⟩
      obtain ⟨m, hm, r⟩ := rq.get hq
      have fs := flat_split hq
      have fm := flat_more hq
      have fl : (flatN ps).length = (flatN (ps.take i)).length + ((encN q).length + (flatN (ps.drop (i + 1))).length) := by
        have := congrArg List.length fs
        rw [List.length_append, List.length_append] at this
        exact this
      have e1 : 0 < (encN q).length := by
        unfold encN
        split
        · show 0 < q.2.length + 1 + 1
          omega
        · show 0 < q.2.length + 1
          omega
      obtain ⟨n, hn, en⟩ := req_handed r
      -- the state behind one turn
      refine if_true_of (decide_eq_true (by omega)) ⟨fun σ' H2 => ∃ (rs : List Addr) (v3 v4 v5 : Option V), σ' = [some (.ref a), some (.ref b), some (.int (((flatN (ps.take (i + 1))).length : Nat) : Int)), v3, v4, v5] ∧ Same H H2 ∧ PartsAt H H2 b rs (ps.take (i + 1)), ?_, ?_⟩
      · rintro σ' H2 ⟨rs, v3, v4, v5, rfl, s2, T2⟩
        exact ⟨ps.length - (i + 1), by omega, i + 1, rs, v3, v4, v5, rfl, by omega, s2, T2, rfl⟩
      have fin : ∀ p, H' p = none → ∀ t, upd H' p (.lst (numV q.2)) t = none → Same H (upd (upd (upd H' p (.lst (numV q.2))) t (.tup [.int (q.1 : Int), .ref p])) b (.lst (rs.map V.ref ++ [.ref t]))) ∧
            PartsAt H (upd (upd (upd H' p (.lst (numV q.2))) t (.tup [.int (q.1 : Int), .ref p])) b (.lst (rs.map V.ref ++ [.ref t]))) b (rs ++ [t]) (ps.take (i + 1)) := fun p hp t ht => by
        refine ⟨Same.new (Same.fresh (Same.fresh s1 hp) ht) hb, ?_⟩
        rw [take_one hq]
        exact T.push s1 q hp ht
      have bl : ∀ p, H' p = none → ∀ t, upd H' p (.lst (numV q.2)) t = none → upd (upd H' p (.lst (numV q.2))) t (.tup [.int (q.1 : Int), .ref p]) b = some (.lst (rs.map V.ref)) := fun p hp t ht => by
        have e1 : upd H' p (.lst (numV q.2)) b = some (.lst (rs.map V.ref)) := (upd_ne (ne_of_none T.lst hp)).trans T.lst
        rw [upd_ne (ne_of_none e1 ht)]
        exact e1
      have bz : (rs.map V.ref).length < sizeLine := by
        rw [List.length_map, T.len, List.length_take]
        exact small1000 (by omega)
      by_cases z : q.1 = 0
      · have eq : encN q = 0 :: q.2.length :: q.2 := if_pos z
        have fs0 : flatN ps = flatN (ps.take i) ++ q.1 :: (q.2.length :: (q.2 ++ flatN (ps.drop (i + 1)))) := by rw [fs, eq, z]; rfl
        have fs1 : flatN ps = (flatN (ps.take i) ++ [q.1]) ++ q.2.length :: (q.2 ++ flatN (ps.drop (i + 1))) := by rw [fs0, List.append_assoc]; rfl
        have fs2 : flatN ps = (flatN (ps.take i) ++ [q.1, q.2.length]) ++ (q.2 ++ flatN (ps.drop (i + 1))) := by rw [fs0, List.append_assoc]; rfl
        have x0 : (numV (flatN ps))[(flatN (ps.take i)).length]? = some (V.int (q.1 : Int)) := by rw [fs0]; exact at_mid rfl
        have x1 : (numV (flatN ps))[(flatN (ps.take i)).length + 1]? = some (V.int (q.2.length : Int)) := by rw [fs1]; exact at_mid (by rw [List.length_append]; rfl)
        have x2 : cutV (numV (flatN ps)) (some ((((flatN (ps.take i)).length + 2 : Nat)) : Int)) (some ((((flatN (ps.take i)).length + 2 + q.2.length : Nat)) : Int)) = numV q.2 := by
          rw [fs2]
          exact cut_mid (by rw [List.length_append]; rfl) (by rw [List.length_append]; rfl)
        have el : (encN q).length = q.2.length + 2 := by rw [eq]; rfl
        refine ⟨_, rfl, _, rfl, a, _, _, _, rfl, rfl, s1.seq hS, atI_nat x0, _, rfl, _, _, rfl, rfl, _, rfl, aH, _, _, _, rfl, rfl, hH _, atI_nat (numV_get hn), _, rfl, rfl, _, rfl, ?_⟩
        refine if_true_of (decide_eq_true (by rw [z]; rfl)) ?_
        refine ⟨_, rfl, _, _, rfl, rfl, _, rfl, _, rfl, _, _, rfl, rfl, a, _, _, _, rfl, rfl, s1.seq hS, atI_nat (j := (flatN (ps.take i)).length + 1) x1, ?_⟩
        refine ⟨_, rfl, .inl ⟨rfl, _, SqL.of T.lst⟩, _, rfl, _, rfl, _, rfl, _, rfl, _, rfl, _, rfl, _, _, rfl, rfl, _, rfl, a, _, rfl, s1.seq hS, fun p hp => ?_⟩
        have x3 : cutV (numV (flatN ps)) (some ((((flatN (ps.take i)).length : Nat) : Int) + 2)) (some ((((flatN (ps.take i)).length : Nat) : Int) + 2 + ((q.2.length : Nat) : Int))) = numV q.2 := x2
        dsimp only
        rw [x3]
        refine ⟨(by show 2 ≤ sizeLine; decide), fun t ht => ⟨b, _, _, rfl, rfl, bl p hp t ht, bz, ?_⟩⟩
        obtain ⟨f1, f2⟩ := fin p hp t ht
        refine ⟨_, rfl, _, rfl, _, _, rfl, rfl, rs ++ [t], some (.int (q.1 : Int)), some (.int (((flatN (ps.take i)).length : Int) + 2)), some (.int (q.2.length : Int)), ?_, f1, f2⟩
        have e4 : ((flatN (ps.take i)).length : Int) + 2 + (q.2.length : Int) = ((flatN (ps.take (i + 1))).length : Int) := by omega
        rw [← e4]
        rfl
      · have eq : encN q = q.1 :: q.2 := if_neg z
        have fs0 : flatN ps = flatN (ps.take i) ++ q.1 :: (q.2 ++ flatN (ps.drop (i + 1))) := by rw [fs, eq]; rfl
        have fs1 : flatN ps = (flatN (ps.take i) ++ [q.1]) ++ (q.2 ++ flatN (ps.drop (i + 1))) := by rw [fs0, List.append_assoc]; rfl
        have x0 : (numV (flatN ps))[(flatN (ps.take i)).length]? = some (V.int (q.1 : Int)) := by rw [fs0]; exact at_mid rfl
        have x2 : cutV (numV (flatN ps)) (some ((((flatN (ps.take i)).length + 1 : Nat)) : Int)) (some ((((flatN (ps.take i)).length + 1 + q.2.length : Nat)) : Int)) = numV q.2 := by
          rw [fs1]
          exact cut_mid (by rw [List.length_append]; rfl) (by rw [List.length_append]; rfl)
        have el : (encN q).length = q.2.length + 1 := by rw [eq]; rfl
        obtain rfl := en z
        refine ⟨_, rfl, _, rfl, a, _, _, _, rfl, rfl, s1.seq hS, atI_nat x0, _, rfl, _, _, rfl, rfl, _, rfl, aH, _, _, _, rfl, rfl, hH _, atI_nat (numV_get hn), _, rfl, rfl, _, rfl, ?_⟩
        refine if_false_of (decide_eq_false (fun e => z (by injection e with e; omega))) ?_
        refine ⟨_, rfl, .inl ⟨rfl, _, SqL.of T.lst⟩, _, rfl, _, rfl, _, rfl, _, rfl, _, rfl, _, rfl, _, _, rfl, rfl, _, rfl, a, _, rfl, s1.seq hS, fun p hp => ?_⟩
        have x3 : cutV (numV (flatN ps)) (some ((((flatN (ps.take i)).length : Nat) : Int) + 1)) (some ((((flatN (ps.take i)).length : Nat) : Int) + 1 + ((q.2.length : Nat) : Int))) = numV q.2 := x2
        dsimp only
        rw [x3]
        refine ⟨(by show 2 ≤ sizeLine; decide), fun t ht => ⟨b, _, _, rfl, rfl, bl p hp t ht, bz, ?_⟩⟩
        obtain ⟨f1, f2⟩ := fin p hp t ht
        refine ⟨_, rfl, _, rfl, _, _, rfl, rfl, rs ++ [t], some (.int (q.1 : Int)), some (.int (((flatN (ps.take i)).length : Int) + 1)), some (.int (q.2.length : Int)), ?_, f1, f2⟩
        have e4 : ((flatN (ps.take i)).length : Int) + 1 + (q.2.length : Int) = ((flatN (ps.take (i + 1))).length : Int) := by omega
        rw [← e4]
        rfl
    · have e : i = ps.length := by omega
      subst e
      rw [List.take_length] at T ⊢
      refine if_false_of (decide_eq_false (by omega)) ⟨_, rfl, ?_⟩
      exact k _ _ _ s1 T
end
end Sk

set_option Elab.async false
set_option maxRecDepth 100000
set_option maxHeartbeats 2000000
namespace Sk
open PySem PySem.Spec PyProof.Rows L2
/-! ### answers, whatever the drawer is like -/
def intV (l : List Int) : List V := l.map V.int
/-- how a drawer lies in the heap: at x, its cells fp, what it holds -/
abbrev Lies := Hp → Addr → List Addr → Mu47.Abs → Prop
structure LiesOk (D : Lies) : Prop where
  loc : ∀ {H H' : Hp} {x : Addr} {fp : List Addr} {o : Mu47.Abs}, D H x fp o → (∀ b, b ∈ fp → H' b = H b) → D H' x fp o
  trk : ∀ {H : Hp} {x : Addr} {fp : List Addr} {o : Mu47.Abs} {b : Addr}, D H x fp o → b ∈ fp → ∃ u, H b = some u
def spInit (C : Addr) (D : Lies) : Sp := fun vs H Q _ => ∃ (x dx : Addr), vs = [.ref x] ∧ H x = some (.ins C dx []) ∧
  ∀ (H' : Hp) (fp : List Addr), D H' x fp none → (∀ b, b ∈ fp → b = x ∨ H b = none) → (∀ b u, H b = some u → b ≠ x → H' b = some u) → Q .non H'
def spCall (D : Lies) : Sp := fun vs H Q _ => ∃ (x h : Addr) (fp : List Addr) (o : Mu47.Abs) (n : Nat) (l : List Nat) (m : Mu47.Call), vs = [.ref x, .int n, .ref h] ∧ D H x fp o ∧ InvO o ∧ Req n l m ∧ H h = some (.lst (numV l)) ∧ h ∉ fp ∧
  ∀ (H' : Hp) (fp' : List Addr) (p : Addr), D H' x fp' (Mu47.step o m).1 → (∀ b, b ∈ fp' → b ∈ fp ∨ H b = none) → (∀ b u, H b = some u → b ∉ fp → H' b = some u) → H p = none → p ∉ fp' → H' p = some (.lst (intV (Mu47.step o m).2)) → Q (.ref p) H'
def spAns (K : PySem.W.Frag) : Sp := fun vs H Q _ => ∃ (a : Addr) (ns : List Int), vs = [.ref a] ∧ SqL K H a (intV ns) ∧ ns.length ≤ 600 ∧ PyMu47.answers_asked ns = true ∧
  ∀ (H' : Hp) (p : Addr), H' p = some (.lst (intV (PyMu47.answers ns))) → Q (.ref p) H'
theorem numV_cast (l : List Nat) : numV l = intV (cast l) := numV_map l
abbrev sAns : Stmt := top 56
section
variable {P : Program} {w : World} {K : PySem.W.Frag} {mg : Str → Option Value} {base : Heap}
abbrev nAns : List Str := ["calls", "drawer", "told", "number", "handed", "answer"]
theorem scAns : FnScope nAns ["calls"] (defScope sAns) := ⟨rfl, rfl, rfl, by decide +kernel, rfl, by decide +kernel, by decide +kernel⟩
theorem ok_ans {D : Lies} (hD : LiesOk D) {kA : Nat} (hk : 2 ≤ kA) {f fI fS fA C : Addr} {fd fdI fdS fdA : FuncData} (F : Fun K "answers" "answers" sAns f fd) (mLen : mg "len" = none)
    (M : Mk K C fI) (GI : FnOk P w K mg base CX0 1 fI fdI ["self"] (spInit C D)) (bI : Binds K fdI ["self"] []) (gC : mg "Drawer" = some (.ref C))
    (GS : FnOk P w K mg base CX0 1 fS fdS ["calls"] (spSplit K)) (kS : PySem.W.keepIn K (.ref fS) = true) (bS : Binds K fdS ["calls"] []) (gS : mg "split_calls" = some (.ref fS))
    (GA : FnOk P w K mg base CX0 kA fA fdA ["drawer", "number", "handed"] (spCall D)) (kAk : PySem.W.keepIn K (.ref fA) = true) (bA : Binds K fdA ["drawer", "number", "handed"] []) (gA : mg "answer_call" = some (.ref fA)) :
    FnOk P w K mg base CX0 (kA + 1) f fd ["calls"] (spAns K) := by
  refine F.ok scAns (fun vs H Q E h => ?_) (fun cdv A outer s H vs Q E hr h => ?_)
  · obtain ⟨a, ns, rfl, _⟩ := h
    rfl
  · obtain ⟨a, ns, rfl, hS, h600, hask, k⟩ := h
    have hr2 : Room 2 _ := hr.mono hk
    have hr1 : Room 1 _ := hr.mono (by omega)
    refine ⟨_, pss_cons (ps_set (i := 1) scAns.nd rfl (Or.inl rfl) (pe_make0 M GI hr2 rfl gC bI .nil pass0))
      (pss_cons (ps_set (i := 2) scAns.nd rfl (Or.inl rfl) (pe_lst pa_nil))
      (pss_cons (ps_for PassesOwn.never rfl (pi_list (pe_call GS hr1 rfl gS kS bS .nil pass0 (pa_cons (pv 0) pa_nil))) (pg_tup rfl (pgs_cons (pg_name (i := 3) scAns.nd rfl (Or.inl rfl)) (pgs_cons (pg_name (i := 4) scAns.nd rfl (Or.inl rfl)) pgs_nil)))
        (pss_cons (ps_set (i := 5) scAns.nd rfl (Or.inl rfl) (pe_call GA hr rfl gA kAk bA .nil pass0 (pa_cons (pv 1) (pa_cons (pv 3) (pa_cons (pv 4) pa_nil)))))
        (pss_cons (ps_expr (pe_bm PySem.F.plainAttrs_list PySem.F.slot_list_append PySem.F.type_list_append mt_append (pv 2) (pa_cons (pe_callB call_len_seq (by rfl) mLen PySem.boot_len (pa_cons (pv 5) pa_nil)) pa_nil)))
        (pss_one (ps_expr (pe_bm PySem.F.plainAttrs_list PySem.F.slot_list_extend PySem.F.type_list_extend mt_extend (pv 2) (pa_cons (pv 5) pa_nil)))))))
      (pss_one (ps_ret (pv 2))))), ?_⟩
    obtain ⟨ps, ms, rq, ef, h60, ea⟩ := asked_reqs hask
    -- drawer = Drawer()
    intro x dx nx ndx nex
    refine ⟨x, dx, rfl, upd_same, fun H1 fp0 D1 n1 s1 => ⟨rfl, ?_⟩⟩
    have s1' : Same H H1 := fun b u e => by
      have bx : b ≠ x := ne_of_none e nx
      refine s1 b u ?_ bx
      rw [upd_ne bx, upd_ne (ne_of_none e ndx)]
      exact e
    -- told = []
    refine ⟨(by show 0 ≤ sizeLine; decide), fun q hq => ?_⟩
    have s2 : Same H1 (upd H1 q (.lst [])) := Same.fresh (Same.refl H1) hq
    have qfp : q ∉ fp0 := fun z => by
      obtain ⟨u, hu⟩ := hD.trk D1 z
      rw [hq] at hu
      cases hu
    -- split_calls
    refine ⟨_, rfl, a, ps, ms, rfl, ?_, rq, h60, ?_, fun H2 pb rs s3 T => ?_⟩
    · rw [numV_cast, ef]
      exact (s1'.trans s2).seq hS
    · have := congrArg List.length ef
      rw [cast, List.length_map] at this
      omega
    have D2 : D H2 x fp0 none := hD.loc D1 fun b hb => by
      obtain ⟨u, hu⟩ := hD.trk D1 hb
      rw [hu]
      exact s3 _ _ (s2 _ _ hu)
    refine ⟨pb, rfl, ⟨_, SqL.of T.lst⟩, ?_⟩
    have far : ∀ b, upd H1 q (.lst []) b = none → b ∉ fp0 ∧ b ≠ q := fun b hb => by
      constructor
      · intro z
        obtain ⟨u, hu⟩ := hD.trk D1 z
        rw [s2 _ _ hu] at hb
        cases hb
      · intro z
        rw [z, upd_same] at hb
        cases hb
    refine for_list (K := K) (a := pb) (xs := rs.map V.ref) (fun i σ H' => ∃ (fp : List Addr) (v3 v4 v5 : Option V), σ = [some (.ref a), some (.ref x), some (.ref q), v3, v4, v5] ∧ D H' x fp (after none (ms.take i)) ∧
      (∀ b, b ∈ fp → b ∈ fp0 ∨ H2 b = none) ∧ (∀ b u, H2 b = some u → b ∉ fp0 → b ≠ q → H' b = some u) ∧ H' q = some (.lst (intV (toldN ms i))))
      ⟨fp0, none, none, none, rfl, D2, fun b hb => .inl hb, fun b u e _ _ => e, s3 _ _ upd_same⟩ ?_ ?_ ?_
    · rintro i σ H' _ ⟨fp, v3, v4, v5, rfl, _, _, hk, _⟩
      obtain ⟨f1, f2⟩ := far pb T.new
      exact SqL.of (hk _ _ T.lst f1 f2)
    · rintro i y σ H' hi ⟨fp, v3, v4, v5, rfl, Di, fpi, hk, hq'⟩
      rw [List.getElem?_map] at hi
      obtain ⟨t, ht, rfl⟩ : ∃ t, rs[i]? = some t ∧ V.ref t = y := by
        cases e : rs[i]? with
        | none =>
          rw [e] at hi
          cases hi
        | some t =>
          rw [e] at hi
          exact ⟨t, rfl, Option.some.inj hi⟩
      have il : i < ps.length := by
        have := (List.getElem?_eq_some_iff.mp ht).1
        rw [T.len] at this
        exact this
      obtain ⟨c, hc⟩ : ∃ c, ps[i]? = some c := ⟨_, List.getElem?_eq_getElem il⟩
      obtain ⟨h, nt, nh, et, eh⟩ := T.part i t c ht hc
      obtain ⟨m, hm, r⟩ := rq.get hc
      have et' := hk _ _ et (far t nt).1 (far t nt).2
      have eh' := hk _ _ eh (far h nh).1 (far h nh).2
      have hfp : h ∉ fp := fun z => by
        rcases fpi h z with y | y
        · exact (far h nh).1 y
        · rw [eh] at y
          cases y
      have qfp' : ∀ b, b ∈ fp → b ≠ q := fun b hb z => by
        subst z
        rcases fpi b hb with y | y
        · exact qfp y
        · rw [s3 _ _ upd_same] at y
          cases y
      refine ⟨t, _, rfl, SqT.of et', rfl, _, _, rfl, _, _, rfl, rfl, ?_⟩
      -- answer
      refine ⟨_, rfl, _, rfl, _, rfl, x, h, fp, _, c.1, c.2, m, rfl, Di, inv_after _ trivial, r, eh', hfp, fun H3 fp' p D3 nfp s4 np pfp ep => ?_⟩
      have qH3 : H3 q = some (.lst (intV (toldN ms i))) := s4 _ _ hq' (fun z => qfp' q z rfl)
      have pq : p ≠ q := fun z => by
        rw [z, hq'] at np
        cases np
      have lt := len_toldN (ms := ms) (i := i) (by rw [← rq.len]; omega)
      have ls := len_step (inv_after (ms.take i) (o := none) trivial) m
      have z1 : (intV (toldN ms i)).length < sizeLine := by
        unfold intV
        rw [List.length_map]
        exact Nat.lt_of_le_of_lt (show _ ≤ 1620 by omega) (by decide)
      -- told.append(len(answer))
      refine ⟨_, rfl, .inl ⟨rfl, _, SqL.of qH3⟩, _, rfl, p, _, rfl, .inl (SqL.of ep), q, _, _, rfl, rfl, qH3, z1, ?_⟩
      -- told.extend(answer)
      refine ⟨_, rfl, .inl ⟨rfl, _, SqL.of upd_same⟩, _, rfl, q, p, _, _, rfl, rfl, upd_same, (upd_ne pq).trans ep, ?_, ?_⟩
      · unfold intV
        rw [List.length_append, List.length_map, List.length_map]
        exact Nat.le_trans (show _ ≤ 1650 by simp; omega) (by decide)
      rw [upd_upd]
      have qfp3 : ∀ b, b ∈ fp' → b ≠ q := fun b hb z => by
        subst z
        rcases nfp b hb with y | y
        · exact qfp' b y rfl
        · rw [hq'] at y
          cases y
      refine ⟨fp', _, _, _, rfl, ?_, ?_, ?_, ?_⟩
      · rw [after_succ hm]
        exact hD.loc D3 fun b hb => upd_ne (qfp3 b hb)
      · intro b hb
        rcases nfp b hb with y | y
        · exact fpi b y
        · by_cases z : b ∈ fp0
          · exact .inl z
          · refine .inr ?_
            cases e : H2 b with
            | none => rfl
            | some u =>
              rw [hk b u e z (qfp3 b hb)] at y
              cases y
      · intro b u e z1 z2
        rw [upd_ne z2]
        refine s4 _ _ (hk b u e z1 z2) fun z => ?_
        rcases fpi b z with y | y
        · exact z1 y
        · rw [e] at y
          cases y
      · rw [upd_same, toldN_succ hm]
        unfold intV
        rw [List.map_append, List.map_cons, List.append_assoc, List.length_map]
        rfl
    · rintro σ H' ⟨fp, v3, v4, v5, rfl, Di, fpi, hk, hq'⟩
      refine ⟨_, rfl, k _ q ?_⟩
      rw [hq', List.length_map, T.len, rq.len]
      unfold toldN
      rw [List.take_length, ea]
end
end Sk

set_option Elab.async false
set_option maxRecDepth 100000
set_option maxHeartbeats 2000000
namespace Sk
open PySem PySem.Spec PyProof.Rows L2
/-! ### what the drawer's own calls see of it -/
def Sees (C : Addr) (H : Hp) (x : Addr) (l : List Nat) : Prop := ∃ dx fs i, H x = some (.ins C dx fs) ∧ fs.lookup ("inside" : Str) = some (.ref i) ∧ H i = some (.lst (numV l)) ∧ fs.lookup ("has_colour" : Str) = none
def ansSurely (l : List Nat) (p : Nat) : List Int := if Mu47.PAIRS < p then [-1] else match Mu47.surely l p with
  | none => [-6]
  | some d => [(d : Int)]
def ansColour (l : List Nat) (c : Nat) : List Int := if l.length ≤ c then [-2] else if l.getD c 0 < 2 then [-6] else [((Mu47.total l - l.getD c 0 + 2 : Nat) : Int)]
def ansChance (l : List Nat) (d p : Nat) : List Int := if Mu47.PAIRS < p ∨ Mu47.total l < d then [-1] else Mu47.nums [(Mu47.chance l d p).1, (Mu47.chance l d p).2]
def ansAverage (l : List Nat) (d : Nat) : List Int := if Mu47.total l < d then [-1] else Mu47.nums [(Mu47.average l d).1, (Mu47.average l d).2]
def ansUntil (l : List Nat) (p : Nat) : List Int := if Mu47.PAIRS < p then [-1] else if Mu47.pairs l < p then [-6] else Mu47.nums [(Mu47.until_ l p).1, (Mu47.until_ l p).2]
theorem pair_nums (x : Nat × Nat) : pairV x = intV (Mu47.nums [x.1, x.2]) := rfl
theorem get_getD {l : List Nat} {c : Nat} (h : c < l.length) : l[c]? = some (l.getD c 0) := by
  rw [List.getD_eq_getElem?_getD, List.getElem?_eq_getElem h]
  rfl
/-- the module's numbers -/
structure Nums (mg : Str → Option Value) : Prop where
  notGranted : ∃ t, mg "NOT_GRANTED" = some (.int (-1) t)
  noColour : ∃ t, mg "NO_COLOUR" = some (.int (-2) t)
  notThere : ∃ t, mg "NOT_THERE" = some (.int (-6) t)
  noDrawer : ∃ t, mg "NO_DRAWER" = some (.int (-9) t)
  mostColours : ∃ t, mg "MOST_COLOURS" = some (.int 5 t)
  mostOf : ∃ t, mg "MOST_OF_COLOUR" = some (.int 8 t)
  mostSocks : ∃ t, mg "MOST_SOCKS" = some (.int 24 t)
  mostPairs : ∃ t, mg "MOST_PAIRS" = some (.int 12 t)
section
variable {X : Cx}
/-- a number of the module's -/
theorem pe_num {x : Str} {n : Int} {pos : Pos} (h : ∃ t, X.mg x = some (.int n t)) (hg : Gl X x) (hdb : (x == ("__debug__" : Str)) = false := by decide) : PE X (.Name x pos) (tC (.int n)) := by
  obtain ⟨t, e⟩ := h
  exact pe_glob (v := .int n) hg e ⟨_, rfl⟩ hdb
end
abbrev sHas : Stmt := inClass (top 37) 2
abbrev sMay : Stmt := top 38
abbrev sSurely : Stmt := top 40
abbrev sColour : Stmt := top 41
abbrev sChance : Stmt := top 42
abbrev sAverage : Stmt := top 43
abbrev sUntil : Stmt := top 44
section
variable {P : Program} {w : World} {K : PySem.W.Frag} {mg : Str → Option Value} {base : Heap} {C : Addr}
/-! ### has_colour -/
def spHas (C : Addr) : Sp := fun vs H Q _ => ∃ (x : Addr) (l : List Nat) (c : Nat), vs = [.ref x, .int c] ∧ Sees C H x l ∧ Q (.bl (decide (c < l.length))) H
theorem scHas : FnScope ["self", "colour"] ["self", "colour"] (defScope sHas) := ⟨rfl, rfl, rfl, by decide +kernel, rfl, by decide +kernel, by decide +kernel⟩
theorem ok_has {f : Addr} {fd : FuncData} (F : Fun K "has_colour" "Drawer.has_colour" sHas f fd) (cl : Cls K C) (nI : NoAttr K C "inside") (mLen : mg "len" = none) : FnOk P w K mg base CX0 1 f fd ["self", "colour"] (spHas C) := by
  refine F.ok scHas (fun vs H Q E h => ?_) (fun cdv A outer s H vs Q E hr h => ?_)
  · obtain ⟨x, l, c, rfl, _⟩ := h
    rfl
  · obtain ⟨x, l, c, rfl, ⟨dx, fs, i, hx, hi, hl, _⟩, k⟩ := h
    refine ⟨_, pss_one (ps_ret (pe_cmpR op_lt (pv 1) (pe_callB call_len_seq (by rfl) mLen PySem.boot_len (pa_cons (pe_fld (pv 0) rfl) pa_nil)) (nomark _))), ?_⟩
    refine ⟨_, rfl, _, rfl, x, C, dx, _, _, rfl, hx, cl, nI, hi, i, _, rfl, .inl (SqL.of hl), _, _, rfl, rfl, ?_⟩
    rw [numV_length]
    have e : decide ((c : Int) < ((l.length : Nat) : Int)) = decide (c < l.length) := by
      rw [decide_eq_decide]
      omega
    dsimp only
    rw [e]
    exact k
/-! ### may_begin -/
def okBegin (l : List Nat) : Bool := !decide (l.isEmpty = true ∨ Mu47.COLOURS < l.length ∨ l.any (fun (n : Nat) => decide (Mu47.MANY < n)) = true ∨ Mu47.SOCKS < Mu47.total l)
def spMay (K : PySem.W.Frag) : Sp := fun vs H Q _ => ∃ (h : Addr) (l : List Nat), vs = [.ref h] ∧ SqL K H h (numV l) ∧ Q (.bl (okBegin l)) H
theorem scMay : FnScope ["socks"] ["socks"] (defScope sMay) := ⟨rfl, rfl, rfl, by decide +kernel, rfl, by decide +kernel, by decide +kernel⟩
theorem ok_may {f : Addr} {fd : FuncData} (F : Fun K "may_begin" "may_begin" sMay f fd) (N : Nums mg) (mLen : mg "len" = none) (mSum : mg "sum" = none) (mMax : mg "max" = none) : FnOk P w K mg base CX0 1 f fd ["socks"] (spMay K) := by
  refine F.ok scMay (fun vs H Q E h => ?_) (fun cdv A outer s H vs Q E hr h => ?_)
  · obtain ⟨x, l, rfl, _⟩ := h
    rfl
  · obtain ⟨h, l, rfl, hl, k⟩ := h
    refine ⟨_, pss_cons (ps_if (PW.pt (pw_or (pt_cmpR op_lt (pe_callB call_len_seq (by rfl) mLen PySem.boot_len (pa_cons (pv 0) pa_nil)) pe_int (nomark _)) (pw_or1 (pt_cmpR op_gt (pe_callB call_len_seq (by rfl) mLen PySem.boot_len (pa_cons (pv 0) pa_nil)) (pe_num N.mostColours (by rfl)) (nomark _)))))
        (pss_one (ps_ret pe_bl)) pss_nil)
      (pss_one (ps_ret (pe_and (pe_cmpR op_le (pe_callB (cr_max rfl) (by rfl) mMax (by decide +kernel) (pa_cons (pv 0) pa_nil)) (pe_num N.mostOf (by rfl)) (nomark _)) (pe_one (pe_cmpR op_le (pe_callB (cr_sum rfl) (by rfl) mSum (by decide +kernel) (pa_cons (pv 0) pa_nil)) (pe_num N.mostSocks (by rfl)) (nomark _)))))), ?_⟩
    have len0 : ∀ n : Nat, decide (((l.length : Nat) : Int) < ((n : Nat) : Int)) = decide (l.length < n) := fun n => by
      rw [decide_eq_decide]
      omega
    refine ⟨_, rfl, h, _, rfl, .inl hl, _, _, rfl, rfl, _, rfl, ?_⟩
    rw [numV_length]
    by_cases c1 : l.length < 1
    · refine if_true_of (decide_eq_true (by omega)) ?_
      refine if_true_of rfl ?_
      have e : okBegin l = false := by
        have : l = [] := List.eq_nil_of_length_eq_zero (by omega)
        subst this
        rfl
      rw [e] at k
      exact k
    refine if_false_of (decide_eq_false (by omega)) ?_
    refine ⟨_, rfl, h, _, rfl, .inl hl, _, _, rfl, rfl, _, rfl, ?_⟩
    rw [numV_length]
    by_cases c2 : 5 < l.length
    · refine if_true_of (decide_eq_true (by omega)) ?_
      have e : okBegin l = false := by
        unfold okBegin
        rw [decide_eq_true (.inr (.inl c2))]
        rfl
      rw [e] at k
      exact k
    refine if_false_of (decide_eq_false (by omega)) ?_
    have hl' : SqL K H h ((l.map fun (n : Nat) => (n : Int)).map V.int) := by
      rw [← numV_map]
      exact hl
    refine ⟨_, rfl, h, _, rfl, hl', by rw [List.length_map]; omega, fun m hm hle => ?_⟩
    obtain ⟨n, hn, rfl⟩ := List.mem_map.mp hm
    refine ⟨_, _, rfl, rfl, _, rfl, ?_⟩
    by_cases c3 : n ≤ 8
    · refine if_true_of (decide_eq_true (by omega)) ?_
      refine ⟨_, rfl, h, _, rfl, hl', _, _, rfl, rfl, ?_⟩
      rw [sum_cast]
      have e : okBegin l = decide (((l.sum : Nat) : Int) ≤ 24) := by
        have a1 : ¬ l.isEmpty = true := fun z => c1 (by rw [List.isEmpty_iff.mp z]; decide)
        have a2 : ¬ l.any (fun (n : Nat) => decide (Mu47.MANY < n)) = true := fun z => by
          obtain ⟨y, hy, q⟩ := List.any_eq_true.mp z
          have q : 8 < y := of_decide_eq_true q
          have := hle (y : Int) (List.mem_map.mpr ⟨y, hy, rfl⟩)
          omega
        unfold okBegin
        rw [total_sum]
        by_cases c4 : l.sum ≤ 24
        · rw [decide_eq_true (show ((l.sum : Nat) : Int) ≤ 24 by omega), decide_eq_false]
          · rfl
          · rintro (z | z | z | z)
            · exact a1 z
            · exact c2 z
            · exact a2 z
            · exact absurd z (Nat.not_lt.mpr c4)
        · rw [decide_eq_false (show ¬ ((l.sum : Nat) : Int) ≤ 24 by omega), decide_eq_true (.inr (.inr (.inr (Nat.lt_of_not_le c4))))]
          rfl
      rw [e] at k
      exact k
    · refine if_false_of (decide_eq_false (by omega)) ?_
      have e : okBegin l = false := by
        unfold okBegin
        rw [decide_eq_true (.inr (.inr (.inl (List.any_eq_true.mpr ⟨n, hn, decide_eq_true (Nat.lt_of_not_le c3)⟩))))]
        rfl
      rw [e] at k
      exact k
/-! ### surely -/
def spTell (C : Addr) (n : Nat) (ans : List Nat → List Nat → List Int) : Sp := fun vs H Q _ => ∃ (x : Addr) (l a : List Nat), a.length = n ∧ vs = .ref x :: numV a ∧ Sees C H x l ∧ l.sum ≤ 24 ∧ l.length ≤ 5 ∧
  ∀ (H' : Hp) (r : Addr), Same H H' → H r = none → H' r = some (.lst (intV (ans l a))) → Q (.ref r) H'
abbrev spSurely (C : Addr) : Sp := spTell C 1 fun l a => ansSurely l (a.getD 0 0)
theorem scSurely : FnScope ["drawer", "pairs"] ["drawer", "pairs"] (defScope sSurely) := ⟨rfl, rfl, rfl, by decide +kernel, rfl, by decide +kernel, by decide +kernel⟩
theorem one_of {a : List Nat} (h : a.length = 1) : ∃ p, a = [p] := by
  match a, h with
  | [p], _ => exact ⟨p, rfl⟩
theorem two_of {a : List Nat} (h : a.length = 2) : ∃ p q, a = [p, q] := by
  match a, h with
  | [p, q], _ => exact ⟨p, q, rfl⟩
theorem ok_surely {f fP fF : Addr} {fd fdP fdF : FuncData} (F : Fun K "tell_surely" "tell_surely" sSurely f fd) (cl : Cls K C) (nI : NoAttr K C "inside") (N : Nums mg)
    (GP : FnOk P w K mg base CX0 1 fP fdP ["inside"] (spPairsOf K)) (kP : PySem.W.keepIn K (.ref fP) = true) (bP : Binds K fdP ["inside"] []) (gP : mg "pairs_of" = some (.ref fP))
    (GF : FnOk P w K mg base CX0 4 fF fdF ["inside", "pairs"] (spFewest K)) (kF : PySem.W.keepIn K (.ref fF) = true) (bF : Binds K fdF ["inside", "pairs"] []) (gF : mg "fewest_for" = some (.ref fF)) :
    FnOk P w K mg base CX0 5 f fd ["drawer", "pairs"] (spSurely C) := by
  refine F.ok scSurely (fun vs H Q E h => ?_) (fun cdv A outer s H vs Q E hr h => ?_)
  · obtain ⟨x, l, a, ha, rfl, _⟩ := h
    rw [List.length_cons, numV_length, ha]
    rfl
  · obtain ⟨x, l, a, ha, rfl, ⟨dx, fs, i, hx, hi, hl, _⟩, h24, h5, k⟩ := h
    obtain ⟨p, rfl⟩ := one_of ha
    have hr1 : Room 1 _ := hr.mono (by decide)
    refine ⟨_, pss_cons (ps_if (pt_cmpR op_gt (pv 1) (pe_num N.mostPairs (by rfl)) (nomark _)) (pss_one (ps_ret (pe_lst (pa_cons (pe_num N.notGranted (by rfl)) pa_nil)))) pss_nil)
      (pss_cons (ps_if (pt_cmpR op_gt (pv 1) (pe_call GP hr1 rfl gP kP bP .nil pass0 (pa_cons (pe_fld (pv 0) rfl) pa_nil)) (nomark _)) (pss_one (ps_ret (pe_lst (pa_cons (pe_num N.notThere (by rfl)) pa_nil)))) pss_nil)
      (pss_one (ps_ret (pe_lst (pa_cons (pe_call GF hr rfl gF kF bF .nil pass0 (pa_cons (pe_fld (pv 0) rfl) (pa_cons (pv 1) pa_nil))) pa_nil))))), ?_⟩
    refine ⟨_, rfl, _, _, rfl, rfl, _, rfl, ?_⟩
    by_cases c1 : 12 < p
    · refine if_true_of (decide_eq_true (by omega)) ⟨(by show 1 ≤ sizeLine; decide), fun r hr => k _ r (Same.fresh (Same.refl H) hr) hr ?_⟩
      rw [upd_same]
      show _ = some (HO.lst (intV (ansSurely l p)))
      unfold ansSurely
      rw [if_pos (show Mu47.PAIRS < p from c1)]
      rfl
    refine if_false_of (decide_eq_false (by omega)) ?_
    refine ⟨_, rfl, _, rfl, x, C, dx, _, _, rfl, hx, cl, nI, hi, i, l, rfl, SqL.of hl, by omega, fun H1 s1 => ?_⟩
    refine ⟨_, _, rfl, rfl, _, rfl, ?_⟩
    by_cases c2 : Mu47.pairs l < p
    · refine if_true_of (decide_eq_true (by omega)) ⟨(by show 1 ≤ sizeLine; decide), fun r hr => k _ r (Same.fresh s1 hr) (s1.free hr) ?_⟩
      rw [upd_same]
      show _ = some (HO.lst (intV (ansSurely l p)))
      unfold ansSurely
      rw [if_neg (show ¬ Mu47.PAIRS < p from c1), surely_none h24 c2]
      rfl
    refine if_false_of (decide_eq_false (by omega)) ?_
    refine ⟨_, rfl, x, C, dx, _, _, rfl, s1 _ _ hx, cl, nI, hi, _, rfl, i, l, p, rfl, SqL.of (s1 _ _ hl), h24, by omega, fun H2 d s2 e => ?_⟩
    refine ⟨(by show 1 ≤ sizeLine; decide), fun r hr => k _ r (Same.fresh (s1.trans s2) hr) ((s1.trans s2).free hr) ?_⟩
    rw [upd_same]
    show _ = some (HO.lst (intV (ansSurely l p)))
    unfold ansSurely
    rw [if_neg (show ¬ Mu47.PAIRS < p from c1), e]
    rfl
/-! ### colour -/
abbrev spColour (C : Addr) : Sp := spTell C 1 fun l a => ansColour l (a.getD 0 0)
theorem scColour : FnScope ["drawer", "colour"] ["drawer", "colour"] (defScope sColour) := ⟨rfl, rfl, rfl, by decide +kernel, rfl, by decide +kernel, by decide +kernel⟩
theorem ok_colour {f fH : Addr} {fd fdH : FuncData} (F : Fun K "tell_colour" "tell_colour" sColour f fd) (cl : Cls K C) (nI : NoAttr K C "inside") (N : Nums mg) (mSum : mg "sum" = none)
    (GH : FnOk P w K mg base CX0 1 fH fdH ["self", "colour"] (spHas C)) (mH : Meth K C "has_colour" fH) (bH : Binds K fdH ["self", "colour"] []) :
    FnOk P w K mg base CX0 2 f fd ["drawer", "colour"] (spColour C) := by
  refine F.ok scColour (fun vs H Q E h => ?_) (fun cdv A outer s H vs Q E hr h => ?_)
  · obtain ⟨x, l, a, ha, rfl, _⟩ := h
    rw [List.length_cons, numV_length, ha]
    rfl
  · obtain ⟨x, l, a, ha, rfl, ⟨dx, fs, i, hx, hi, hl, hh⟩, h24, h5, k⟩ := h
    obtain ⟨c, rfl⟩ := one_of ha
    refine ⟨_, pss_cons (ps_if (pt_not (pt_val (pe_meth (pv 0) cl mH GH hr bH .nil pass0 (pa_cons (pv 1) pa_nil)))) (pss_one (ps_ret (pe_lst (pa_cons (pe_num N.noColour (by rfl)) pa_nil)))) pss_nil)
      (pss_cons (ps_if (pt_cmpR op_lt (pe_ix ix_list (pe_fld (pv 0) rfl) (pv 1) (fun _ _ => rfl)) pe_int (nomark _)) (pss_one (ps_ret (pe_lst (pa_cons (pe_num N.notThere (by rfl)) pa_nil)))) pss_nil)
      (pss_one (ps_ret (pe_lst (pa_cons (pe_op op_add (pe_op op_sub (pe_callB (cr_sum rfl) (by rfl) mSum (by decide +kernel) (pa_cons (pe_fld (pv 0) rfl) pa_nil)) (pe_ix ix_list (pe_fld (pv 0) rfl) (pv 1) (fun _ _ => rfl))) pe_int) pa_nil))))), ?_⟩
    refine ⟨_, rfl, x, dx, _, rfl, hx, hh, _, rfl, x, l, c, rfl, ⟨dx, fs, i, hx, hi, hl, hh⟩, _, rfl, ?_⟩
    by_cases c1 : c < l.length
    · refine if_false_of (by rw [decide_eq_true c1]; rfl) ?_
      have hg := get_getD c1
      refine ⟨_, rfl, x, C, dx, _, _, rfl, hx, cl, nI, hi, _, rfl, i, _, _, _, rfl, rfl, SqL.of hl, atI_nat (numV_get hg), _, _, rfl, rfl, _, rfl, ?_⟩
      by_cases c2 : l.getD c 0 < 2
      · refine if_true_of (decide_eq_true (by omega)) ⟨(by show 1 ≤ sizeLine; decide), fun r hr => k _ r (Same.fresh (Same.refl H) hr) hr ?_⟩
        rw [upd_same]
        show _ = some (HO.lst (intV (ansColour l c)))
        unfold ansColour
        rw [if_neg (by omega), if_pos c2]
        rfl
      refine if_false_of (decide_eq_false (by omega)) ?_
      refine ⟨_, rfl, x, C, dx, _, _, rfl, hx, cl, nI, hi, i, _, rfl, sq_sum hl, _, rfl, x, C, dx, _, _, rfl, hx, cl, nI, hi, _, rfl, i, _, _, _, rfl, rfl, SqL.of hl, atI_nat (numV_get hg), _, _, rfl, rfl, _, _, rfl, rfl, (by show 1 ≤ sizeLine; decide), fun r hr => k _ r (Same.fresh (Same.refl H) hr) hr ?_⟩
      rw [upd_same]
      show _ = some (HO.lst (intV (ansColour l c)))
      unfold ansColour
      rw [if_neg (by omega), if_neg c2, sum_cast, total_sum]
      have := getD_le_sum l c
      have e : ((l.sum : Nat) : Int) - ((l.getD c 0 : Nat) : Int) + 2 = ((l.sum - l.getD c 0 + 2 : Nat) : Int) := by omega
      dsimp only
      rw [e]
      rfl
    · refine if_true_of (by rw [decide_eq_false c1]; rfl) ⟨(by show 1 ≤ sizeLine; decide), fun r hr => k _ r (Same.fresh (Same.refl H) hr) hr ?_⟩
      rw [upd_same]
      show _ = some (HO.lst (intV (ansColour l c)))
      unfold ansColour
      rw [if_pos (by omega)]
      rfl
/-! ### chance -/
abbrev spTChance (C : Addr) : Sp := spTell C 2 fun l a => ansChance l (a.getD 0 0) (a.getD 1 0)
theorem scTChance : FnScope ["drawer", "socks", "pairs"] ["drawer", "socks", "pairs"] (defScope sChance) := ⟨rfl, rfl, rfl, by decide +kernel, rfl, by decide +kernel, by decide +kernel⟩
theorem ok_tchance {f fF : Addr} {fd fdF : FuncData} (F : Fun K "tell_chance" "tell_chance" sChance f fd) (cl : Cls K C) (nI : NoAttr K C "inside") (N : Nums mg) (mSum : mg "sum" = none)
    (GF : FnOk P w K mg base CX0 4 fF fdF ["inside", "socks", "pairs"] (spChance K)) (kF : PySem.W.keepIn K (.ref fF) = true) (bF : Binds K fdF ["inside", "socks", "pairs"] []) (gF : mg "chance_of" = some (.ref fF)) :
    FnOk P w K mg base CX0 5 f fd ["drawer", "socks", "pairs"] (spTChance C) := by
  refine F.ok scTChance (fun vs H Q E h => ?_) (fun cdv A outer s H vs Q E hr h => ?_)
  · obtain ⟨x, l, a, ha, rfl, _⟩ := h
    rw [List.length_cons, numV_length, ha]
    rfl
  · obtain ⟨x, l, a, ha, rfl, ⟨dx, fs, i, hx, hi, hl, _⟩, h24, h5, k⟩ := h
    obtain ⟨d, p, rfl⟩ := two_of ha
    refine ⟨_, pss_cons (ps_if (PW.pt (pw_or (pt_cmpR op_gt (pv 2) (pe_num N.mostPairs (by rfl)) (nomark _)) (pw_or1 (pt_cmpR op_gt (pv 1) (pe_callB (cr_sum rfl) (by rfl) mSum (by decide +kernel) (pa_cons (pe_fld (pv 0) rfl) pa_nil)) (nomark _))))) (pss_one (ps_ret (pe_lst (pa_cons (pe_num N.notGranted (by rfl)) pa_nil)))) pss_nil)
      (pss_one (ps_ret (pe_call GF hr rfl gF kF bF .nil pass0 (pa_cons (pe_fld (pv 0) rfl) (pa_cons (pv 1) (pa_cons (pv 2) pa_nil)))))), ?_⟩
    refine ⟨_, rfl, _, _, rfl, rfl, _, rfl, ?_⟩
    have ref : 12 < p ∨ l.sum < d → ansChance l d p = [-1] := fun z => by
      unfold ansChance
      rw [total_sum]
      exact if_pos z
    by_cases c1 : 12 < p
    · refine if_true_of (decide_eq_true (by omega)) ?_
      refine if_true_of rfl ⟨(by show 1 ≤ sizeLine; decide), fun r hr => k _ r (Same.fresh (Same.refl H) hr) hr ?_⟩
      rw [upd_same]
      show _ = some (HO.lst (intV (ansChance l d p)))
      rw [ref (.inl c1)]
      rfl
    refine if_false_of (decide_eq_false (by omega)) ?_
    refine ⟨_, rfl, _, rfl, x, C, dx, _, _, rfl, hx, cl, nI, hi, i, _, rfl, sq_sum hl, _, _, rfl, rfl, _, rfl, ?_⟩
    rw [sum_cast]
    by_cases c2 : l.sum < d
    · refine if_true_of (decide_eq_true (by omega)) ⟨(by show 1 ≤ sizeLine; decide), fun r hr => k _ r (Same.fresh (Same.refl H) hr) hr ?_⟩
      rw [upd_same]
      show _ = some (HO.lst (intV (ansChance l d p)))
      rw [ref (.inr c2)]
      rfl
    refine if_false_of (decide_eq_false (by omega)) ?_
    refine ⟨_, rfl, x, C, dx, _, _, rfl, hx, cl, nI, hi, _, rfl, _, rfl, i, l, d, p, rfl, SqL.of hl, h24, by omega, fun H' r s1 nr e => k H' r s1 nr ?_⟩
    rw [e, pair_nums]
    show _ = some (HO.lst (intV (ansChance l d p)))
    unfold ansChance
    rw [total_sum, if_neg (by rintro (z | z); exact c1 z; exact c2 z)]
/-! ### average -/
abbrev spTAverage (C : Addr) : Sp := spTell C 1 fun l a => ansAverage l (a.getD 0 0)
theorem scTAverage : FnScope ["drawer", "socks"] ["drawer", "socks"] (defScope sAverage) := ⟨rfl, rfl, rfl, by decide +kernel, rfl, by decide +kernel, by decide +kernel⟩
theorem ok_taverage {f fF : Addr} {fd fdF : FuncData} (F : Fun K "tell_average" "tell_average" sAverage f fd) (cl : Cls K C) (nI : NoAttr K C "inside") (N : Nums mg) (mSum : mg "sum" = none)
    (GF : FnOk P w K mg base CX0 4 fF fdF ["inside", "socks"] (spAverage K)) (kF : PySem.W.keepIn K (.ref fF) = true) (bF : Binds K fdF ["inside", "socks"] []) (gF : mg "average_pairs" = some (.ref fF)) :
    FnOk P w K mg base CX0 5 f fd ["drawer", "socks"] (spTAverage C) := by
  refine F.ok scTAverage (fun vs H Q E h => ?_) (fun cdv A outer s H vs Q E hr h => ?_)
  · obtain ⟨x, l, a, ha, rfl, _⟩ := h
    rw [List.length_cons, numV_length, ha]
    rfl
  · obtain ⟨x, l, a, ha, rfl, ⟨dx, fs, i, hx, hi, hl, _⟩, h24, h5, k⟩ := h
    obtain ⟨d, rfl⟩ := one_of ha
    refine ⟨_, pss_cons (ps_if (pt_cmpR op_gt (pv 1) (pe_callB (cr_sum rfl) (by rfl) mSum (by decide +kernel) (pa_cons (pe_fld (pv 0) rfl) pa_nil)) (nomark _)) (pss_one (ps_ret (pe_lst (pa_cons (pe_num N.notGranted (by rfl)) pa_nil)))) pss_nil)
      (pss_one (ps_ret (pe_call GF hr rfl gF kF bF .nil pass0 (pa_cons (pe_fld (pv 0) rfl) (pa_cons (pv 1) pa_nil))))), ?_⟩
    refine ⟨_, rfl, _, rfl, x, C, dx, _, _, rfl, hx, cl, nI, hi, i, _, rfl, sq_sum hl, _, _, rfl, rfl, _, rfl, ?_⟩
    rw [sum_cast]
    by_cases c2 : l.sum < d
    · refine if_true_of (decide_eq_true (by omega)) ⟨(by show 1 ≤ sizeLine; decide), fun r hr => k _ r (Same.fresh (Same.refl H) hr) hr ?_⟩
      rw [upd_same]
      show _ = some (HO.lst (intV (ansAverage l d)))
      unfold ansAverage
      rw [total_sum, if_pos c2]
      rfl
    refine if_false_of (decide_eq_false (by omega)) ?_
    refine ⟨_, rfl, x, C, dx, _, _, rfl, hx, cl, nI, hi, _, rfl, i, l, d, rfl, SqL.of hl, h24, by omega, fun H' r s1 nr e => k H' r s1 nr ?_⟩
    rw [e, pair_nums]
    show _ = some (HO.lst (intV (ansAverage l d)))
    unfold ansAverage
    rw [total_sum, if_neg c2]
/-! ### until -/
abbrev spTUntil (C : Addr) : Sp := spTell C 1 fun l a => ansUntil l (a.getD 0 0)
theorem scTUntil : FnScope ["drawer", "pairs"] ["drawer", "pairs"] (defScope sUntil) := ⟨rfl, rfl, rfl, by decide +kernel, rfl, by decide +kernel, by decide +kernel⟩
theorem ok_tuntil {f fP fF : Addr} {fd fdP fdF : FuncData} (F : Fun K "tell_until" "tell_until" sUntil f fd) (cl : Cls K C) (nI : NoAttr K C "inside") (N : Nums mg)
    (GP : FnOk P w K mg base CX0 1 fP fdP ["inside"] (spPairsOf K)) (kP : PySem.W.keepIn K (.ref fP) = true) (bP : Binds K fdP ["inside"] []) (gP : mg "pairs_of" = some (.ref fP))
    (GF : FnOk P w K mg base CX0 4 fF fdF ["inside", "pairs"] (spUntil K)) (kF : PySem.W.keepIn K (.ref fF) = true) (bF : Binds K fdF ["inside", "pairs"] []) (gF : mg "average_draws" = some (.ref fF)) :
    FnOk P w K mg base CX0 5 f fd ["drawer", "pairs"] (spTUntil C) := by
  refine F.ok scTUntil (fun vs H Q E h => ?_) (fun cdv A outer s H vs Q E hr h => ?_)
  · obtain ⟨x, l, a, ha, rfl, _⟩ := h
    rw [List.length_cons, numV_length, ha]
    rfl
  · obtain ⟨x, l, a, ha, rfl, ⟨dx, fs, i, hx, hi, hl, _⟩, h24, h5, k⟩ := h
    obtain ⟨p, rfl⟩ := one_of ha
    have hr1 : Room 1 _ := hr.mono (by decide)
    refine ⟨_, pss_cons (ps_if (pt_cmpR op_gt (pv 1) (pe_num N.mostPairs (by rfl)) (nomark _)) (pss_one (ps_ret (pe_lst (pa_cons (pe_num N.notGranted (by rfl)) pa_nil)))) pss_nil)
      (pss_cons (ps_if (pt_cmpR op_gt (pv 1) (pe_call GP hr1 rfl gP kP bP .nil pass0 (pa_cons (pe_fld (pv 0) rfl) pa_nil)) (nomark _)) (pss_one (ps_ret (pe_lst (pa_cons (pe_num N.notThere (by rfl)) pa_nil)))) pss_nil)
      (pss_one (ps_ret (pe_call GF hr rfl gF kF bF .nil pass0 (pa_cons (pe_fld (pv 0) rfl) (pa_cons (pv 1) pa_nil)))))), ?_⟩
    refine ⟨_, rfl, _, _, rfl, rfl, _, rfl, ?_⟩
    by_cases c1 : 12 < p
    · refine if_true_of (decide_eq_true (by omega)) ⟨(by show 1 ≤ sizeLine; decide), fun r hr => k _ r (Same.fresh (Same.refl H) hr) hr ?_⟩
      rw [upd_same]
      show _ = some (HO.lst (intV (ansUntil l p)))
      unfold ansUntil
      rw [if_pos (show Mu47.PAIRS < p from c1)]
      rfl
    refine if_false_of (decide_eq_false (by omega)) ?_
    refine ⟨_, rfl, _, rfl, x, C, dx, _, _, rfl, hx, cl, nI, hi, i, l, rfl, SqL.of hl, by omega, fun H1 s1 => ?_⟩
    refine ⟨_, _, rfl, rfl, _, rfl, ?_⟩
    by_cases c2 : Mu47.pairs l < p
    · refine if_true_of (decide_eq_true (by omega)) ⟨(by show 1 ≤ sizeLine; decide), fun r hr => k _ r (Same.fresh s1 hr) (s1.free hr) ?_⟩
      rw [upd_same]
      show _ = some (HO.lst (intV (ansUntil l p)))
      unfold ansUntil
      rw [if_neg (show ¬ Mu47.PAIRS < p from c1), if_pos c2]
      rfl
    refine if_false_of (decide_eq_false (by omega)) ?_
    refine ⟨_, rfl, x, C, dx, _, _, rfl, s1 _ _ hx, cl, nI, hi, _, rfl, i, l, p, rfl, SqL.of (s1 _ _ hl), h24, fun H2 r s2 nr e => k H2 r (s1.trans s2) (s1.free nr) ?_⟩
    rw [e, pair_nums]
    show _ = some (HO.lst (intV (ansUntil l p)))
    unfold ansUntil
    rw [if_neg (show ¬ Mu47.PAIRS < p from c1), if_neg c2]
end
end Sk

set_option Elab.async false
set_option maxRecDepth 100000
set_option maxHeartbeats 2000000
namespace Sk
open PySem PySem.Spec PyProof.Rows L2
/-! ### the drawer in the heap -/
theorem lk_here {k : Str} {v : V} {r : List (Str × V)} : List.lookup k ((k, v) :: r) = some v := by
  have e : (k == k) = true := beq_self_eq_true k
  simp only [List.lookup, e]
theorem lk_past {k g : Str} {v : V} {r : List (Str × V)} (h : (k == g) = false) : List.lookup k ((g, v) :: r) = List.lookup k r := by
  simp only [List.lookup, h]
theorem put_here {f : Str} {v x : V} {r : List (Str × V)} : putF f v ((f, x) :: r) = (f, v) :: r := if_pos rfl
theorem put_past {f g : Str} {v x : V} {r : List (Str × V)} (h : ¬ g = f) : putF f v ((g, x) :: r) = (g, x) :: putF f v r := if_neg h
/-- the fields, in the order in which __init__ sets them -/
def dF (b : Bool) (i n w l c : Addr) : List (Str × V) := [("there", .bl b), ("inside", .ref i), ("worn", .ref n), ("washing", .ref w), ("lost", .ref l), ("come", .ref c)]
theorem lk_on {k g : Str} {v : V} {r : List (Str × V)} {o : Option V} (e : List.lookup k r = o) (h : (k == g) = false := by decide +kernel) : List.lookup k ((g, v) :: r) = o := (lk_past h).trans e
theorem put_on {f g : Str} {v x : V} {r q : List (Str × V)} (e : putF f v r = q) (h : ¬ g = f := by decide +kernel) : putF f v ((g, x) :: r) = (g, x) :: q := (put_past h).trans (congrArg _ e)
section
variable (b : Bool) (i n w l c : Addr)
theorem dF_there : (dF b i n w l c).lookup ("there" : Str) = some (.bl b) := lk_here
theorem dF_inside : (dF b i n w l c).lookup ("inside" : Str) = some (.ref i) := lk_on lk_here
theorem dF_worn : (dF b i n w l c).lookup ("worn" : Str) = some (.ref n) := lk_on (lk_on lk_here)
theorem dF_washing : (dF b i n w l c).lookup ("washing" : Str) = some (.ref w) := lk_on (lk_on (lk_on lk_here))
theorem dF_lost : (dF b i n w l c).lookup ("lost" : Str) = some (.ref l) := lk_on (lk_on (lk_on (lk_on lk_here)))
theorem dF_come : (dF b i n w l c).lookup ("come" : Str) = some (.ref c) := lk_on (lk_on (lk_on (lk_on (lk_on lk_here))))
theorem dF_fill : (dF b i n w l c).lookup ("fill" : Str) = none := lk_on (lk_on (lk_on (lk_on (lk_on (lk_on rfl)))))
theorem dF_has : (dF b i n w l c).lookup ("has_colour" : Str) = none := lk_on (lk_on (lk_on (lk_on (lk_on (lk_on rfl)))))
theorem dF_places : (dF b i n w l c).lookup ("places" : Str) = none := lk_on (lk_on (lk_on (lk_on (lk_on (lk_on rfl)))))
theorem dF_notLost : (dF b i n w l c).lookup ("not_lost" : Str) = none := lk_on (lk_on (lk_on (lk_on (lk_on (lk_on rfl)))))
theorem dF_bring : (dF b i n w l c).lookup ("bring" : Str) = none := lk_on (lk_on (lk_on (lk_on (lk_on (lk_on rfl)))))
theorem dF_putThere (y : Bool) : putF "there" (.bl y) (dF b i n w l c) = dF y i n w l c := put_here
theorem dF_putInside (y : Addr) : putF "inside" (.ref y) (dF b i n w l c) = dF b y n w l c := put_on put_here
theorem dF_putWorn (y : Addr) : putF "worn" (.ref y) (dF b i n w l c) = dF b i y w l c := put_on (put_on put_here)
theorem dF_putWashing (y : Addr) : putF "washing" (.ref y) (dF b i n w l c) = dF b i n y l c := put_on (put_on (put_on put_here))
theorem dF_putLost (y : Addr) : putF "lost" (.ref y) (dF b i n w l c) = dF b i n w y c := put_on (put_on (put_on (put_on put_here)))
theorem dF_putCome (y : Addr) : putF "come" (.ref y) (dF b i n w l c) = dF b i n w l y := put_on (put_on (put_on (put_on (put_on put_here))))
theorem dF_new : putF "come" (.ref c) (putF "lost" (.ref l) (putF "washing" (.ref w) (putF "worn" (.ref n) (putF "inside" (.ref i) (putF "there" (.bl b) []))))) = dF b i n w l c := by
  have e1 : putF "inside" (.ref i) (putF "there" (.bl b) []) = ([("there", .bl b), ("inside", .ref i)] : List (Str × V)) := put_on rfl
  have e2 : putF "worn" (.ref n) [("there", .bl b), ("inside", .ref i)] = ([("there", .bl b), ("inside", .ref i), ("worn", .ref n)] : List (Str × V)) := put_on (put_on rfl)
  have e3 : putF "washing" (.ref w) [("there", .bl b), ("inside", .ref i), ("worn", .ref n)] = ([("there", .bl b), ("inside", .ref i), ("worn", .ref n), ("washing", .ref w)] : List (Str × V)) := put_on (put_on (put_on rfl))
  have e4 : putF "lost" (.ref l) [("there", .bl b), ("inside", .ref i), ("worn", .ref n), ("washing", .ref w)] = ([("there", .bl b), ("inside", .ref i), ("worn", .ref n), ("washing", .ref w), ("lost", .ref l)] : List (Str × V)) := put_on (put_on (put_on (put_on rfl)))
  rw [e1, e2, e3, e4]
  exact put_on (put_on (put_on (put_on (put_on rfl))))
end
/-- where it lies -/
structure At where
  dx : Addr
  i : Addr
  n : Addr
  w : Addr
  l : Addr
  c : Addr
def At.fp (p : At) (x : Addr) : List Addr := [x, p.i, p.n, p.w, p.l, p.c]
def At.fs (p : At) (b : Bool) : List (Str × V) := dF b p.i p.n p.w p.l p.c
structure DrawerAt (C : Addr) (H : Hp) (x : Addr) (b : Bool) (p : At) (s : Mu47.State) : Prop where
  ins : H x = some (.ins C p.dx (p.fs b))
  hI : H p.i = some (.lst (numV s.drawer))
  hN : H p.n = some (.lst (numV s.worn))
  hW : H p.w = some (.lst (numV s.wash))
  hL : H p.l = some (.lst (numV s.lost))
  hC : H p.c = some (.lst (numV s.came))
  nd : (¬ p.i = p.n ∧ ¬ p.i = p.w ∧ ¬ p.i = p.l ∧ ¬ p.i = p.c) ∧ (¬ p.n = p.w ∧ ¬ p.n = p.l ∧ ¬ p.n = p.c) ∧ (¬ p.w = p.l ∧ ¬ p.w = p.c) ∧ ¬ p.l = p.c
theorem upd_free {H : Hp} {p q : Addr} {o : HO} (h : upd H p o q = none) : q ≠ p ∧ H q = none := by
  have e : q ≠ p := fun z => by
    rw [z, upd_same] at h
    cases h
  rw [upd_ne e] at h
  exact ⟨e, h⟩
/-- what a call may do to the heap: the cells fp of a drawer, which are fp' then -/
structure Moves (B H : Hp) (fp fp' : List Addr) : Prop where
  near : ∀ b, b ∈ fp' → b ∈ fp ∨ B b = none
  keep : ∀ b u, B b = some u → b ∉ fp → H b = some u
  grow : ∀ b, H b = none → B b = none
theorem Moves.refl (H : Hp) (fp : List Addr) : Moves H H fp fp := ⟨fun _ h => .inl h, fun _ _ h _ => h, fun _ h => h⟩
theorem Moves.same {B H H' : Hp} {fp fp' : List Addr} (m : Moves B H fp fp') (s : Same H H') : Moves B H' fp fp' := ⟨m.near, fun b u e n => s _ _ (m.keep b u e n), fun _ h => m.grow _ (s.free h)⟩
theorem Moves.put {B H : Hp} {fp fp' : List Addr} (m : Moves B H fp fp') {p : Addr} {o : HO} (h : p ∈ fp') : Moves B (upd H p o) fp fp' := by
  refine ⟨m.near, fun b u e n => ?_, fun b e => m.grow b (upd_free e).2⟩
  have bp : b ≠ p := fun z => by
    subst z
    rcases m.near b h with y | y
    · exact n y
    · rw [e] at y
      cases y
  rw [upd_ne bp]
  exact m.keep b u e n
theorem Moves.to {B H : Hp} {fp fp' fp2 : List Addr} (m : Moves B H fp fp') (h : ∀ b, b ∈ fp2 → b ∈ fp' ∨ B b = none) : Moves B H fp fp2 := ⟨fun b hb => by
  rcases h b hb with y | y
  · exact m.near b y
  · exact .inr y, m.keep, m.grow⟩
section
variable {C : Addr} {H H' : Hp} {x : Addr} {b : Bool} {p : At} {s : Mu47.State}
theorem DrawerAt.loc (d : DrawerAt C H x b p s) (e : ∀ q, q ∈ p.fp x → H' q = H q) : DrawerAt C H' x b p s := by
  have m : ∀ q, q ∈ p.fp x → ∀ {u}, H q = some u → H' q = some u := fun q hq u hu => (e q hq).trans hu
  unfold At.fp at m
  exact ⟨m x (by simp) d.ins, m p.i (by simp) d.hI, m p.n (by simp) d.hN, m p.w (by simp) d.hW, m p.l (by simp) d.hL, m p.c (by simp) d.hC, d.nd⟩
theorem DrawerAt.trk (d : DrawerAt C H x b p s) {q : Addr} (h : q ∈ p.fp x) : ∃ u, H q = some u := by
  unfold At.fp at h
  simp only [List.mem_cons, List.not_mem_nil, or_false] at h
  rcases h with rfl | rfl | rfl | rfl | rfl | rfl
  · exact ⟨_, d.ins⟩
  · exact ⟨_, d.hI⟩
  · exact ⟨_, d.hN⟩
  · exact ⟨_, d.hW⟩
  · exact ⟨_, d.hL⟩
  · exact ⟨_, d.hC⟩
theorem DrawerAt.same (d : DrawerAt C H x b p s) (e : Same H H') : DrawerAt C H' x b p s := d.loc fun q hq => by
  obtain ⟨u, hu⟩ := d.trk hq
  rw [hu, e _ _ hu]
theorem DrawerAt.nex (d : DrawerAt C H x b p s) : ¬ x = p.i ∧ ¬ x = p.n ∧ ¬ x = p.w ∧ ¬ x = p.l ∧ ¬ x = p.c := by
  have no : ∀ {q : Addr} {ys : List V}, H q = some (.lst ys) → ¬ x = q := fun e z => by
    subst z
    rw [d.ins] at e
    cases e
  exact ⟨no d.hI, no d.hN, no d.hW, no d.hL, no d.hC⟩
/-- a list's numbers change -/
theorem DrawerAt.setI (d : DrawerAt C H x b p s) (l : List Nat) : DrawerAt C (upd H p.i (.lst (numV l))) x b p { s with drawer := l } := by
  obtain ⟨⟨a1, a2, a3, a4⟩, ⟨a5, a6, a7⟩, ⟨a8, a9⟩, a10⟩ := d.nd
  obtain ⟨x1, x2, x3, x4, x5⟩ := d.nex
  exact ⟨(upd_ne x1).trans d.ins, upd_same, (upd_ne (Ne.symm a1)).trans d.hN, (upd_ne (Ne.symm a2)).trans d.hW, (upd_ne (Ne.symm a3)).trans d.hL, (upd_ne (Ne.symm a4)).trans d.hC, d.nd⟩
theorem DrawerAt.setN (d : DrawerAt C H x b p s) (l : List Nat) : DrawerAt C (upd H p.n (.lst (numV l))) x b p { s with worn := l } := by
  obtain ⟨⟨a1, a2, a3, a4⟩, ⟨a5, a6, a7⟩, ⟨a8, a9⟩, a10⟩ := d.nd
  obtain ⟨x1, x2, x3, x4, x5⟩ := d.nex
  exact ⟨(upd_ne x2).trans d.ins, (upd_ne a1).trans d.hI, upd_same, (upd_ne (Ne.symm a5)).trans d.hW, (upd_ne (Ne.symm a6)).trans d.hL, (upd_ne (Ne.symm a7)).trans d.hC, d.nd⟩
theorem DrawerAt.setW (d : DrawerAt C H x b p s) (l : List Nat) : DrawerAt C (upd H p.w (.lst (numV l))) x b p { s with wash := l } := by
  obtain ⟨⟨a1, a2, a3, a4⟩, ⟨a5, a6, a7⟩, ⟨a8, a9⟩, a10⟩ := d.nd
  obtain ⟨x1, x2, x3, x4, x5⟩ := d.nex
  exact ⟨(upd_ne x3).trans d.ins, (upd_ne a2).trans d.hI, (upd_ne a5).trans d.hN, upd_same, (upd_ne (Ne.symm a8)).trans d.hL, (upd_ne (Ne.symm a9)).trans d.hC, d.nd⟩
theorem DrawerAt.setL (d : DrawerAt C H x b p s) (l : List Nat) : DrawerAt C (upd H p.l (.lst (numV l))) x b p { s with lost := l } := by
  obtain ⟨⟨a1, a2, a3, a4⟩, ⟨a5, a6, a7⟩, ⟨a8, a9⟩, a10⟩ := d.nd
  obtain ⟨x1, x2, x3, x4, x5⟩ := d.nex
  exact ⟨(upd_ne x4).trans d.ins, (upd_ne a3).trans d.hI, (upd_ne a6).trans d.hN, (upd_ne a8).trans d.hW, upd_same, (upd_ne (Ne.symm a10)).trans d.hC, d.nd⟩
theorem DrawerAt.setC (d : DrawerAt C H x b p s) (l : List Nat) : DrawerAt C (upd H p.c (.lst (numV l))) x b p { s with came := l } := by
  obtain ⟨⟨a1, a2, a3, a4⟩, ⟨a5, a6, a7⟩, ⟨a8, a9⟩, a10⟩ := d.nd
  obtain ⟨x1, x2, x3, x4, x5⟩ := d.nex
  exact ⟨(upd_ne x5).trans d.ins, (upd_ne a4).trans d.hI, (upd_ne a7).trans d.hN, (upd_ne a9).trans d.hW, (upd_ne a10).trans d.hL, upd_same, d.nd⟩
/-- another list is put into a field: q was free ahead of e -/
theorem DrawerAt.far (d : DrawerAt C H x b p s) {q : Addr} (nq : H q = none) : ¬ q = x ∧ ¬ q = p.i ∧ ¬ q = p.n ∧ ¬ q = p.w ∧ ¬ q = p.l ∧ ¬ q = p.c :=
  ⟨Ne.symm (ne_of_none d.ins nq), Ne.symm (ne_of_none d.hI nq), Ne.symm (ne_of_none d.hN nq), Ne.symm (ne_of_none d.hW nq), Ne.symm (ne_of_none d.hL nq), Ne.symm (ne_of_none d.hC nq)⟩
theorem DrawerAt.putT (d : DrawerAt C H x b p s) (y : Bool) : DrawerAt C (upd H x (.ins C p.dx (putF "there" (.bl y) (p.fs b)))) x y p s := by
  obtain ⟨x1, x2, x3, x4, x5⟩ := d.nex
  exact ⟨upd_same.trans (congrArg (fun q => some (HO.ins C p.dx q)) (dF_putThere ..)), (upd_ne (Ne.symm x1)).trans d.hI, (upd_ne (Ne.symm x2)).trans d.hN, (upd_ne (Ne.symm x3)).trans d.hW, (upd_ne (Ne.symm x4)).trans d.hL, (upd_ne (Ne.symm x5)).trans d.hC, d.nd⟩
theorem DrawerAt.putI (d : DrawerAt C H x b p s) (e : Same H H') {q : Addr} {l : List Nat} (nq : H q = none) (hq : H' q = some (.lst (numV l))) :
    DrawerAt C (upd H' x (.ins C p.dx (putF "inside" (.ref q) (p.fs b)))) x b { p with i := q } { s with drawer := l } := by
  obtain ⟨⟨a1, a2, a3, a4⟩, ⟨a5, a6, a7⟩, ⟨a8, a9⟩, a10⟩ := d.nd
  obtain ⟨x1, x2, x3, x4, x5⟩ := d.nex
  obtain ⟨q0, q1, q2, q3, q4, q5⟩ := d.far nq
  have d := d.same e
  exact ⟨upd_same.trans (congrArg (fun q => some (HO.ins C p.dx q)) (dF_putInside ..)), (upd_ne q0).trans hq, (upd_ne (Ne.symm x2)).trans d.hN, (upd_ne (Ne.symm x3)).trans d.hW, (upd_ne (Ne.symm x4)).trans d.hL, (upd_ne (Ne.symm x5)).trans d.hC, ⟨q2, q3, q4, q5⟩, ⟨a5, a6, a7⟩, ⟨a8, a9⟩, a10⟩
theorem DrawerAt.putN (d : DrawerAt C H x b p s) (e : Same H H') {q : Addr} {l : List Nat} (nq : H q = none) (hq : H' q = some (.lst (numV l))) :
    DrawerAt C (upd H' x (.ins C p.dx (putF "worn" (.ref q) (p.fs b)))) x b { p with n := q } { s with worn := l } := by
  obtain ⟨⟨a1, a2, a3, a4⟩, ⟨a5, a6, a7⟩, ⟨a8, a9⟩, a10⟩ := d.nd
  obtain ⟨x1, x2, x3, x4, x5⟩ := d.nex
  obtain ⟨q0, q1, q2, q3, q4, q5⟩ := d.far nq
  have d := d.same e
  exact ⟨upd_same.trans (congrArg (fun q => some (HO.ins C p.dx q)) (dF_putWorn ..)), (upd_ne (Ne.symm x1)).trans d.hI, (upd_ne q0).trans hq, (upd_ne (Ne.symm x3)).trans d.hW, (upd_ne (Ne.symm x4)).trans d.hL, (upd_ne (Ne.symm x5)).trans d.hC, ⟨Ne.symm q1, a2, a3, a4⟩, ⟨q3, q4, q5⟩, ⟨a8, a9⟩, a10⟩
theorem DrawerAt.putW (d : DrawerAt C H x b p s) (e : Same H H') {q : Addr} {l : List Nat} (nq : H q = none) (hq : H' q = some (.lst (numV l))) :
    DrawerAt C (upd H' x (.ins C p.dx (putF "washing" (.ref q) (p.fs b)))) x b { p with w := q } { s with wash := l } := by
  obtain ⟨⟨a1, a2, a3, a4⟩, ⟨a5, a6, a7⟩, ⟨a8, a9⟩, a10⟩ := d.nd
  obtain ⟨x1, x2, x3, x4, x5⟩ := d.nex
  obtain ⟨q0, q1, q2, q3, q4, q5⟩ := d.far nq
  have d := d.same e
  exact ⟨upd_same.trans (congrArg (fun q => some (HO.ins C p.dx q)) (dF_putWashing ..)), (upd_ne (Ne.symm x1)).trans d.hI, (upd_ne (Ne.symm x2)).trans d.hN, (upd_ne q0).trans hq, (upd_ne (Ne.symm x4)).trans d.hL, (upd_ne (Ne.symm x5)).trans d.hC, ⟨a1, Ne.symm q1, a3, a4⟩, ⟨Ne.symm q2, a6, a7⟩, ⟨q4, q5⟩, a10⟩
theorem DrawerAt.putL (d : DrawerAt C H x b p s) (e : Same H H') {q : Addr} {l : List Nat} (nq : H q = none) (hq : H' q = some (.lst (numV l))) :
    DrawerAt C (upd H' x (.ins C p.dx (putF "lost" (.ref q) (p.fs b)))) x b { p with l := q } { s with lost := l } := by
  obtain ⟨⟨a1, a2, a3, a4⟩, ⟨a5, a6, a7⟩, ⟨a8, a9⟩, a10⟩ := d.nd
  obtain ⟨x1, x2, x3, x4, x5⟩ := d.nex
  obtain ⟨q0, q1, q2, q3, q4, q5⟩ := d.far nq
  have d := d.same e
  exact ⟨upd_same.trans (congrArg (fun q => some (HO.ins C p.dx q)) (dF_putLost ..)), (upd_ne (Ne.symm x1)).trans d.hI, (upd_ne (Ne.symm x2)).trans d.hN, (upd_ne (Ne.symm x3)).trans d.hW, (upd_ne q0).trans hq, (upd_ne (Ne.symm x5)).trans d.hC, ⟨a1, a2, Ne.symm q1, a4⟩, ⟨a5, Ne.symm q2, a7⟩, ⟨Ne.symm q3, a9⟩, q5⟩
theorem DrawerAt.putC (d : DrawerAt C H x b p s) (e : Same H H') {q : Addr} {l : List Nat} (nq : H q = none) (hq : H' q = some (.lst (numV l))) :
    DrawerAt C (upd H' x (.ins C p.dx (putF "come" (.ref q) (p.fs b)))) x b { p with c := q } { s with came := l } := by
  obtain ⟨⟨a1, a2, a3, a4⟩, ⟨a5, a6, a7⟩, ⟨a8, a9⟩, a10⟩ := d.nd
  obtain ⟨x1, x2, x3, x4, x5⟩ := d.nex
  obtain ⟨q0, q1, q2, q3, q4, q5⟩ := d.far nq
  have d := d.same e
  exact ⟨upd_same.trans (congrArg (fun q => some (HO.ins C p.dx q)) (dF_putCome ..)), (upd_ne (Ne.symm x1)).trans d.hI, (upd_ne (Ne.symm x2)).trans d.hN, (upd_ne (Ne.symm x3)).trans d.hW, (upd_ne (Ne.symm x4)).trans d.hL, (upd_ne q0).trans hq, ⟨a1, a2, a3, Ne.symm q1⟩, ⟨a5, a6, Ne.symm q2⟩, ⟨a8, Ne.symm q3⟩, Ne.symm q4⟩
theorem DrawerAt.sees (d : DrawerAt C H x b p s) : Sees C H x s.drawer := ⟨p.dx, p.fs b, p.i, d.ins, dF_inside .., d.hI, dF_has ..⟩
end
/-- a drawer that has come from the heap B, where its cells were fp -/
structure Now (C : Addr) (B : Hp) (x : Addr) (fp : List Addr) (H : Hp) (b : Bool) (p : At) (s : Mu47.State) : Prop where
  at_ : DrawerAt C H x b p s
  mv : Moves B H fp (p.fp x)
section
variable {C : Addr} {B H H' : Hp} {x : Addr} {fp : List Addr} {b : Bool} {p : At} {s : Mu47.State}
theorem DrawerAt.now (d : DrawerAt C H x b p s) : Now C H x (p.fp x) H b p s := ⟨d, .refl ..⟩
theorem Now.same (n : Now C B x fp H b p s) (e : Same H H') : Now C B x fp H' b p s := ⟨n.at_.same e, n.mv.same e⟩
theorem Now.fresh (n : Now C B x fp H b p s) {q : Addr} {o : HO} (h : H q = none) : Now C B x fp (upd H q o) b p s := n.same (Same.fresh (Same.refl H) h)
theorem Now.setI (n : Now C B x fp H b p s) (l : List Nat) : Now C B x fp (upd H p.i (.lst (numV l))) b p { s with drawer := l } := ⟨n.at_.setI l, n.mv.put (by simp [At.fp])⟩
theorem Now.setN (n : Now C B x fp H b p s) (l : List Nat) : Now C B x fp (upd H p.n (.lst (numV l))) b p { s with worn := l } := ⟨n.at_.setN l, n.mv.put (by simp [At.fp])⟩
theorem Now.setW (n : Now C B x fp H b p s) (l : List Nat) : Now C B x fp (upd H p.w (.lst (numV l))) b p { s with wash := l } := ⟨n.at_.setW l, n.mv.put (by simp [At.fp])⟩
theorem Now.setL (n : Now C B x fp H b p s) (l : List Nat) : Now C B x fp (upd H p.l (.lst (numV l))) b p { s with lost := l } := ⟨n.at_.setL l, n.mv.put (by simp [At.fp])⟩
theorem Now.setC (n : Now C B x fp H b p s) (l : List Nat) : Now C B x fp (upd H p.c (.lst (numV l))) b p { s with came := l } := ⟨n.at_.setC l, n.mv.put (by simp [At.fp])⟩
theorem Now.putT (n : Now C B x fp H b p s) (y : Bool) : Now C B x fp (upd H x (.ins C p.dx (putF "there" (.bl y) (p.fs b)))) y p s := ⟨n.at_.putT y, n.mv.put (by simp [At.fp])⟩
theorem Now.mvTo (n : Now C B x fp H b p s) (e : Same H H') {q : Addr} {o : HO} (nq : H q = none) (p' : At) (h : ∀ y, y ∈ p'.fp x → y ∈ p.fp x ∨ y = q) : Moves B (upd H' x o) fp (p'.fp x) :=
  ((n.mv.same e).put (o := o) (show x ∈ p.fp x by simp [At.fp])).to fun y hy => by
    rcases h y hy with z | z
    · exact .inl z
    · subst z
      exact .inr (n.mv.grow _ nq)
theorem Now.putI (n : Now C B x fp H b p s) (e : Same H H') {q : Addr} {l : List Nat} (nq : H q = none) (hq : H' q = some (.lst (numV l))) :
    Now C B x fp (upd H' x (.ins C p.dx (putF "inside" (.ref q) (p.fs b)))) b { p with i := q } { s with drawer := l } :=
  ⟨n.at_.putI e nq hq, n.mvTo e nq _ (by simp [At.fp]; try grind)⟩
theorem Now.putN (n : Now C B x fp H b p s) (e : Same H H') {q : Addr} {l : List Nat} (nq : H q = none) (hq : H' q = some (.lst (numV l))) :
    Now C B x fp (upd H' x (.ins C p.dx (putF "worn" (.ref q) (p.fs b)))) b { p with n := q } { s with worn := l } :=
  ⟨n.at_.putN e nq hq, n.mvTo e nq _ (by simp [At.fp]; try grind)⟩
theorem Now.putW (n : Now C B x fp H b p s) (e : Same H H') {q : Addr} {l : List Nat} (nq : H q = none) (hq : H' q = some (.lst (numV l))) :
    Now C B x fp (upd H' x (.ins C p.dx (putF "washing" (.ref q) (p.fs b)))) b { p with w := q } { s with wash := l } :=
  ⟨n.at_.putW e nq hq, n.mvTo e nq _ (by simp [At.fp]; try grind)⟩
theorem Now.putL (n : Now C B x fp H b p s) (e : Same H H') {q : Addr} {l : List Nat} (nq : H q = none) (hq : H' q = some (.lst (numV l))) :
    Now C B x fp (upd H' x (.ins C p.dx (putF "lost" (.ref q) (p.fs b)))) b { p with l := q } { s with lost := l } :=
  ⟨n.at_.putL e nq hq, n.mvTo e nq _ (by simp [At.fp]; try grind)⟩
theorem Now.putC (n : Now C B x fp H b p s) (e : Same H H') {q : Addr} {l : List Nat} (nq : H q = none) (hq : H' q = some (.lst (numV l))) :
    Now C B x fp (upd H' x (.ins C p.dx (putF "come" (.ref q) (p.fs b)))) b { p with c := q } { s with came := l } :=
  ⟨n.at_.putC e nq hq, n.mvTo e nq _ (by simp [At.fp]; try grind)⟩
end
/-- no drawer: as if all were empty -/
def stOf : Mu47.Abs → Mu47.State
  | none => ⟨[], [], [], [], []⟩
  | some s => s
def lies (C : Addr) : Lies := fun H x fp o => ∃ p : At, fp = p.fp x ∧ DrawerAt C H x o.isSome p (stOf o)
theorem lies_ok (C : Addr) : LiesOk (lies C) where
  loc := fun {H H' x fp o} h e => by
    obtain ⟨p, rfl, d⟩ := h
    exact ⟨p, rfl, d.loc e⟩
  trk := fun {H x fp o b} h hb => by
    obtain ⟨p, rfl, d⟩ := h
    exact d.trk hb
/-- how a call goes on: the state o', the answer r -/
def Out (C : Addr) (B : Hp) (x : Addr) (fp : List Addr) (o' : Mu47.Abs) (r : List Int) (Q : VK) : Prop :=
  ∀ (H' : Hp) (fp' : List Addr) (p : Addr), lies C H' x fp' o' → (∀ b, b ∈ fp' → b ∈ fp ∨ B b = none) → (∀ b u, B b = some u → b ∉ fp → H' b = some u) → B p = none → p ∉ fp' → H' p = some (.lst (intV r)) → Q (.ref p) H'
/-- a new list is answered -/
theorem Out.new {C : Addr} {B H : Hp} {x : Addr} {fp : List Addr} {p : At} {o : Mu47.Abs} {r : List Int} {Q : VK} (k : Out C B x fp o r Q) (n : Now C B x fp H o.isSome p (stOf o)) {q : Addr} {ys : List V} (hq : H q = none) (e : ys = intV r) : Q (.ref q) (upd H q (.lst ys)) := by
  have n' := n.fresh (o := .lst ys) hq
  refine k _ (p.fp x) q ⟨p, rfl, n'.at_⟩ n'.mv.near n'.mv.keep (n.mv.grow _ hq) (fun z => ?_) ?_
  · obtain ⟨u, hu⟩ := n.at_.trk z
    rw [hq] at hu
    cases hu
  · rw [upd_same, e]
/-- .. that lies there already, behind a heap that stays -/
theorem Out.told {C : Addr} {B H H' : Hp} {x : Addr} {fp : List Addr} {p : At} {o : Mu47.Abs} {r : List Int} {Q : VK} (k : Out C B x fp o r Q) (n : Now C B x fp H o.isSome p (stOf o)) (e : Same H H') {q : Addr} (hq : H q = none) (h : H' q = some (.lst (intV r))) : Q (.ref q) H' := by
  have n' := n.same e
  refine k _ (p.fp x) q ⟨p, rfl, n'.at_⟩ n'.mv.near n'.mv.keep (n.mv.grow _ hq) (fun z => ?_) h
  obtain ⟨u, hu⟩ := n.at_.trk z
  rw [hq] at hu
  cases hu
theorem Moves.from {B0 B H : Hp} {fp fp' : List Addr} (m : Moves B H fp fp') (s : Same B0 B) : Moves B0 H fp fp' := ⟨fun b hb => by
  rcases m.near b hb with y | y
  · exact .inl y
  · exact .inr (s.free y), fun b u e n => m.keep b u (s _ _ e) n, fun b e => s.free (m.grow b e)⟩
theorem Now.from {C : Addr} {B0 B H : Hp} {x : Addr} {fp : List Addr} {b : Bool} {p : At} {s : Mu47.State} (n : Now C B x fp H b p s) (e : Same B0 B) : Now C B0 x fp H b p s := ⟨n.at_, n.mv.from e⟩
structure Txt (K : PySem.W.Frag) (C : Addr) : Prop where
  cl : Cls K C
  nT : NoAttr K C "there"
  nI : NoAttr K C "inside"
  nN : NoAttr K C "worn"
  nW : NoAttr K C "washing"
  nL : NoAttr K C "lost"
  nC : NoAttr K C "come"
end Sk

set_option Elab.async false
set_option maxRecDepth 100000
set_option maxHeartbeats 2000000
namespace Sk
open PySem PySem.Spec PyProof.Rows L2
abbrev sAdd : Stmt := top 36
abbrev sInit : Stmt := inClass (top 37) 0
abbrev sFill : Stmt := inClass (top 37) 1
abbrev sPlaces : Stmt := inClass (top 37) 3
abbrev sNot : Stmt := inClass (top 37) 4
abbrev sBring : Stmt := inClass (top 37) 5
theorem ixN_nat {n c : Nat} (h : c < n) : ixN n (c : Int) = some c := by
  unfold ixN
  rw [if_pos (by omega), if_pos (by omega)]
  rfl
theorem numV_set (l : List Nat) (c m : Nat) : (numV l).set c (V.int ((m : Nat) : Int)) = numV (l.set c m) := by
  unfold numV
  rw [List.map_set]
theorem num_at {l : List Nat} {c : Nat} (h : c < l.length) : (numV l)[((c : Nat) : Int).toNat]? = some (V.int ((l.getD c 0 : Nat) : Int)) := numV_get (get_getD (c := c) h)
theorem rep_none (l : List Nat) : (List.replicate l.length [V.int 0]).flatten = numV (Mu47.none_ l) := by
  rw [rep_flat]
  unfold numV Mu47.none_
  rw [List.map_map]
  induction l with
  | nil => rfl
  | cons a r ih =>
    rw [List.length_cons, List.replicate_succ, List.map_cons, ih]
    rfl
theorem both_get {a b : List Nat} {i x y : Nat} (ha : a[i]? = some x) (hb : b[i]? = some y) : (Mu47.both a b)[i]? = some (x + y) := by
  unfold Mu47.both
  rw [List.getElem?_zipWith, ha, hb]
section
variable {P : Program} {w : World} {K : PySem.W.Frag} {mg : Str → Option Value} {base : Heap} {C : Addr}
/-! ### add_rows -/
def spAdd (K : PySem.W.Frag) : Sp := fun vs H Q _ => ∃ (a b : Addr) (A B : List Nat), vs = [.ref a, .ref b] ∧ SqL K H a (numV A) ∧ SqL K H b (numV B) ∧ B.length = A.length ∧ A.length ≤ 100 ∧
  ∀ (H' : Hp) (p : Addr), Same H H' → H p = none → H' p = some (.lst (numV (Mu47.both A B))) → Q (.ref p) H'
abbrev nAdd : List Str := ["one", "other", "count", "more"]
theorem scAdd : FnScope nAdd ["one", "other"] (defScope sAdd) := ⟨rfl, rfl, rfl, by decide +kernel, rfl, by decide +kernel, by decide +kernel⟩
theorem ok_add {f : Addr} {fd : FuncData} (F : Fun K "add_rows" "add_rows" sAdd f fd) (mZip : mg "zip" = none) : FnOk P w K mg base CX0 1 f fd ["one", "other"] (spAdd K) := by
  refine F.ok scAdd (fun vs H Q E h => ?_) (fun cdv A outer s H vs Q E hr h => ?_)
  · obtain ⟨a, b, A, B, rfl, _⟩ := h
    rfl
  · obtain ⟨a, b, A, B, rfl, hA, hB, hl, h100, k⟩ := h
    refine ⟨_, pss_one (ps_ret
      (pe_lc (own := [("count", 2), ("more", 3)]) (g := gTup K 2 (gCons (gName 2) (gCons (gName 3) gNil))) (tt := tYes) rfl scAdd.nd (pi_zip (by rfl) mZip (pa_cons (pv 0) (pa_cons (pv 1) pa_nil))) (blkOk_by (N := nAdd) (sc := defScope sAdd) (by decide +kernel))
        (fun _ _ _ _ _ => pg_tup rfl (pgs_cons (pg_name (i := 2) scAdd.nd rfl (Or.inl rfl)) (pgs_cons (pg_name (i := 3) scAdd.nd rfl (Or.inl rfl)) pgs_nil))) (fun _ _ _ _ _ => pts_nil) (fun _ _ _ _ _ => pe_op op_add (pv 2) (pv 3)))), ?_⟩
    refine ⟨_, rfl, _, rfl, a, b, _, _, rfl, hA, hB, fun D hD => ?_⟩
    refine lc_it (walk_zip (K := K) (a := a) (b := b) (xs := numV A) (ys := numV B) (n := A.length) (by rw [numV_length, numV_length]; omega)) (fun i H' => Same H H' ∧ H' D = some (.lst (numV ((Mu47.both A B).take i)))) ⟨Same.fresh (Same.refl H) hD, upd_same⟩ (fun i H' _ h => ⟨h.1.seq hA, h.1.seq hB⟩) ?_ ?_
    · rintro i x H2 H3 hi ⟨s2, h2⟩ ⟨T, u, v, rfl, nT, rfl, eu, ev⟩
      obtain ⟨y, hy, rfl⟩ := get_numV eu
      obtain ⟨z, hz, rfl⟩ := get_numV ev
      refine ⟨T, _, rfl, SqT.of upd_same, rfl, _, _, rfl, _, _, rfl, rfl, ?_⟩
      refine ⟨rfl, ?_⟩
      refine yes_if ?_
      refine ⟨_, rfl, _, rfl, _, _, rfl, rfl, _, (upd_ne (ne_of_none h2 nT)).trans h2, ?_, Same.new (Same.fresh s2 nT) hD, ?_⟩
      · rw [numV_length, List.length_take]
        exact small1000 (by omega)
      · rw [upd_same, take_more (both_get hy hz), numV_append]
        rfl
    · rintro H2 ⟨s2, h2⟩
      rw [List.take_of_length_le (by rw [len_both (by omega)]; omega)] at h2
      exact k H2 D s2 hD h2
/-! ### __init__ -/
theorem scInit : FnScope ["self"] ["self"] (defScope sInit) := ⟨rfl, rfl, rfl, by decide +kernel, rfl, by decide +kernel, by decide +kernel⟩
theorem ok_init {f : Addr} {fd : FuncData} (F : Fun K "__init__" "Drawer.__init__" sInit f fd) (T : Txt K C) : FnOk P w K mg base CX0 1 f fd ["self"] (spInit C (lies C)) := by
  refine F.ok scInit (fun vs H Q E h => ?_) (fun cdv A outer s H vs Q E hr h => ?_)
  · obtain ⟨x, dx, rfl, _⟩ := h
    rfl
  · obtain ⟨x, dx, rfl, hx, k⟩ := h
    refine ⟨_, pss_cons (ps_fld (pv 0) pe_bl rfl) (pss_cons (ps_fld (pv 0) (pe_lst pa_nil) rfl) (pss_cons (ps_fld (pv 0) (pe_lst pa_nil) rfl) (pss_cons (ps_fld (pv 0) (pe_lst pa_nil) rfl) (pss_cons (ps_fld (pv 0) (pe_lst pa_nil) rfl) (pss_one (ps_fld (pv 0) (pe_lst pa_nil) rfl)))))), ?_⟩
    refine ⟨_, rfl, x, C, dx, [], rfl, hx, T.cl, T.nT, (by show 0 < 1000; decide), ?_⟩
    refine ⟨(by show 0 ≤ sizeLine; decide), fun i hi => ?_⟩
    obtain ⟨i_x, hi⟩ := upd_free hi
    refine ⟨_, rfl, x, C, dx, _, rfl, (upd_ne (Ne.symm i_x)).trans upd_same, T.cl, T.nI, (by show 1 < 1000; decide), ?_⟩
    refine ⟨(by show 0 ≤ sizeLine; decide), fun n hn => ?_⟩
    obtain ⟨n_x, hn⟩ := upd_free hn
    obtain ⟨n_i, hn⟩ := upd_free hn
    obtain ⟨_, hn⟩ := upd_free hn
    refine ⟨_, rfl, x, C, dx, _, rfl, (upd_ne (Ne.symm n_x)).trans upd_same, T.cl, T.nN, (by show 2 < 1000; decide), ?_⟩
    refine ⟨(by show 0 ≤ sizeLine; decide), fun w hw => ?_⟩
    obtain ⟨w_x, hw⟩ := upd_free hw
    obtain ⟨w_n, hw⟩ := upd_free hw
    obtain ⟨_, hw⟩ := upd_free hw
    obtain ⟨w_i, hw⟩ := upd_free hw
    obtain ⟨_, hw⟩ := upd_free hw
    refine ⟨_, rfl, x, C, dx, _, rfl, (upd_ne (Ne.symm w_x)).trans upd_same, T.cl, T.nW, (by show 3 < 1000; decide), ?_⟩
    refine ⟨(by show 0 ≤ sizeLine; decide), fun l hl => ?_⟩
    obtain ⟨l_x, hl⟩ := upd_free hl
    obtain ⟨l_w, hl⟩ := upd_free hl
    obtain ⟨_, hl⟩ := upd_free hl
    obtain ⟨l_n, hl⟩ := upd_free hl
    obtain ⟨_, hl⟩ := upd_free hl
    obtain ⟨l_i, hl⟩ := upd_free hl
    obtain ⟨_, hl⟩ := upd_free hl
    refine ⟨_, rfl, x, C, dx, _, rfl, (upd_ne (Ne.symm l_x)).trans upd_same, T.cl, T.nL, (by show 4 < 1000; decide), ?_⟩
    refine ⟨(by show 0 ≤ sizeLine; decide), fun c hc => ?_⟩
    obtain ⟨c_x, hc⟩ := upd_free hc
    obtain ⟨c_l, hc⟩ := upd_free hc
    obtain ⟨_, hc⟩ := upd_free hc
    obtain ⟨c_w, hc⟩ := upd_free hc
    obtain ⟨_, hc⟩ := upd_free hc
    obtain ⟨c_n, hc⟩ := upd_free hc
    obtain ⟨_, hc⟩ := upd_free hc
    obtain ⟨c_i, hc⟩ := upd_free hc
    obtain ⟨_, hc⟩ := upd_free hc
    refine ⟨_, rfl, x, C, dx, _, rfl, (upd_ne (Ne.symm c_x)).trans upd_same, T.cl, T.nC, (by show 5 < 1000; decide), ?_⟩
    refine k _ [x, i, n, w, l, c] ⟨⟨dx, i, n, w, l, c⟩, rfl, ?_, ?_, ?_, ?_, ?_, ?_, ⟨Ne.symm n_i, Ne.symm w_i, Ne.symm l_i, Ne.symm c_i⟩, ⟨Ne.symm w_n, Ne.symm l_n, Ne.symm c_n⟩, ⟨Ne.symm l_w, Ne.symm c_w⟩, Ne.symm c_l⟩ ?_ ?_
    · rw [upd_same]
      exact congrArg (fun q => some (HO.ins C dx q)) (dF_new false i n w l c)
    · simp only [upd_same, upd_ne i_x, upd_ne (Ne.symm c_i), upd_ne (Ne.symm l_i), upd_ne (Ne.symm w_i), upd_ne (Ne.symm n_i)]
      rfl
    · simp only [upd_same, upd_ne n_x, upd_ne (Ne.symm c_n), upd_ne (Ne.symm l_n), upd_ne (Ne.symm w_n)]
      rfl
    · simp only [upd_same, upd_ne w_x, upd_ne (Ne.symm c_w), upd_ne (Ne.symm l_w)]
      rfl
    · simp only [upd_same, upd_ne l_x, upd_ne (Ne.symm c_l)]
      rfl
    · simp only [upd_same, upd_ne c_x]
      rfl
    · intro b hb
      simp only [List.mem_cons, List.not_mem_nil, or_false] at hb
      rcases hb with rfl | rfl | rfl | rfl | rfl | rfl
      · exact .inl rfl
      · exact .inr hi
      · exact .inr hn
      · exact .inr hw
      · exact .inr hl
      · exact .inr hc
    · intro b u e hb
      simp only [upd_ne hb, upd_ne (ne_of_none e hi), upd_ne (ne_of_none e hn), upd_ne (ne_of_none e hw), upd_ne (ne_of_none e hl), upd_ne (ne_of_none e hc)]
      exact e
/-! ### fill -/
def spFill (C : Addr) : Sp := fun vs H Q _ => ∃ (x h : Addr) (b : Bool) (p : At) (s : Mu47.State) (l : List Nat), vs = [.ref x, .ref h] ∧ DrawerAt C H x b p s ∧ H h = some (.lst (numV l)) ∧ h ∉ p.fp x ∧ l.length ≤ 100 ∧
  ∀ (H' : Hp) (p' : At), Now C H x (p.fp x) H' true p' ⟨l, Mu47.none_ l, Mu47.none_ l, Mu47.none_ l, l⟩ → Q .non H'
theorem scFill : FnScope ["self", "socks"] ["self", "socks"] (defScope sFill) := ⟨rfl, rfl, rfl, by decide +kernel, rfl, by decide +kernel, by decide +kernel⟩
theorem ok_fill {f : Addr} {fd : FuncData} (F : Fun K "fill" "Drawer.fill" sFill f fd) (T : Txt K C) (mLen : mg "len" = none) (mList : mg "list" = none) : FnOk P w K mg base CX0 1 f fd ["self", "socks"] (spFill C) := by
  refine F.ok scFill (fun vs H Q E h => ?_) (fun cdv A outer s H vs Q E hr h => ?_)
  · obtain ⟨x, h, b, p, s, l, rfl, _⟩ := h
    rfl
  · obtain ⟨x, h, b, p, s, l, rfl, d, hh, hfp, h100, k⟩ := h
    refine ⟨_, pss_cons (ps_fld (pv 0) pe_bl rfl)
      (pss_cons (ps_fld (pv 0) (pe_callTy call_list_of (by rfl) mList (by decide +kernel) (pa_cons (pv 1) pa_nil)) rfl)
      (pss_cons (ps_fld (pv 0) (pe_op op_rep (pe_lst (pa_cons pe_int pa_nil)) (pe_callB call_len_seq (by rfl) mLen PySem.boot_len (pa_cons (pv 1) pa_nil))) rfl)
      (pss_cons (ps_fld (pv 0) (pe_op op_rep (pe_lst (pa_cons pe_int pa_nil)) (pe_callB call_len_seq (by rfl) mLen PySem.boot_len (pa_cons (pv 1) pa_nil))) rfl)
      (pss_cons (ps_fld (pv 0) (pe_op op_rep (pe_lst (pa_cons pe_int pa_nil)) (pe_callB call_len_seq (by rfl) mLen PySem.boot_len (pa_cons (pv 1) pa_nil))) rfl)
      (pss_one (ps_fld (pv 0) (pe_callTy call_list_of (by rfl) mList (by decide +kernel) (pa_cons (pv 1) pa_nil)) rfl)))))), ?_⟩
    have big : ∀ {ys : List V} {k : Nat}, ys.length = 1 → k ≤ 100 → ys.length * ((k : Nat) : Int).toNat ≤ sizeLine := fun {ys k} e h => by
      rw [e]
      exact small (by omega)
    have zs : (List.replicate (((numV l).length : Nat) : Int).toNat [V.int 0]).flatten = numV (Mu47.none_ l) := by
      rw [← rep_none l, numV_length]
      rfl
    -- there
    refine ⟨_, rfl, x, C, p.dx, _, rfl, d.ins, T.cl, T.nT, (by show 6 < 1000; decide), ?_⟩
    have N := d.now.putT true
    -- inside
    refine ⟨_, rfl, h, _, rfl, .inl (SqL.of (N.mv.keep _ _ hh hfp)), fun q hq => ?_⟩
    have N1 := N.putI (Same.fresh (o := .lst (numV l)) (Same.refl _) hq) hq upd_same
    refine ⟨_, rfl, x, C, p.dx, _, rfl, (N.fresh hq).at_.ins, T.cl, T.nI, (by show 6 < 1000; decide), ?_⟩
    -- worn
    refine ⟨(by show 1 ≤ sizeLine; decide), fun t2 ht2 => ⟨_, rfl, h, _, rfl, .inl (SqL.of ((N1.fresh ht2).mv.keep _ _ hh hfp)), t2, _, _, rfl, rfl, upd_same, by omega, by rw [numV_length]; omega, big rfl (by rw [numV_length]; omega), fun q2 hq2 => ?_⟩⟩
    have s2 := Same.fresh (o := .lst (List.replicate (((numV l).length : Nat) : Int).toNat [V.int 0]).flatten) (Same.fresh (o := .lst [V.int 0]) (Same.refl _) ht2) hq2
    have N2 := N1.putN s2 (upd_free hq2).2 (upd_same.trans (congrArg (fun q => some (HO.lst q)) zs))
    refine ⟨_, rfl, x, C, p.dx, _, rfl, (N1.same s2).at_.ins, T.cl, T.nN, (by show 6 < 1000; decide), ?_⟩
    -- washing
    refine ⟨(by show 1 ≤ sizeLine; decide), fun t3 ht3 => ⟨_, rfl, h, _, rfl, .inl (SqL.of ((N2.fresh ht3).mv.keep _ _ hh hfp)), t3, _, _, rfl, rfl, upd_same, by omega, by rw [numV_length]; omega, big rfl (by rw [numV_length]; omega), fun q3 hq3 => ?_⟩⟩
    have s3 := Same.fresh (o := .lst (List.replicate (((numV l).length : Nat) : Int).toNat [V.int 0]).flatten) (Same.fresh (o := .lst [V.int 0]) (Same.refl _) ht3) hq3
    have N3 := N2.putW s3 (upd_free hq3).2 (upd_same.trans (congrArg (fun q => some (HO.lst q)) zs))
    refine ⟨_, rfl, x, C, p.dx, _, rfl, (N2.same s3).at_.ins, T.cl, T.nW, (by show 6 < 1000; decide), ?_⟩
    -- lost
    refine ⟨(by show 1 ≤ sizeLine; decide), fun t4 ht4 => ⟨_, rfl, h, _, rfl, .inl (SqL.of ((N3.fresh ht4).mv.keep _ _ hh hfp)), t4, _, _, rfl, rfl, upd_same, by omega, by rw [numV_length]; omega, big rfl (by rw [numV_length]; omega), fun q4 hq4 => ?_⟩⟩
    have s4 := Same.fresh (o := .lst (List.replicate (((numV l).length : Nat) : Int).toNat [V.int 0]).flatten) (Same.fresh (o := .lst [V.int 0]) (Same.refl _) ht4) hq4
    have N4 := N3.putL s4 (upd_free hq4).2 (upd_same.trans (congrArg (fun q => some (HO.lst q)) zs))
    refine ⟨_, rfl, x, C, p.dx, _, rfl, (N3.same s4).at_.ins, T.cl, T.nL, (by show 6 < 1000; decide), ?_⟩
    -- come
    refine ⟨_, rfl, h, _, rfl, .inl (SqL.of (N4.mv.keep _ _ hh hfp)), fun q5 hq5 => ?_⟩
    have N5 := N4.putC (Same.fresh (o := .lst (numV l)) (Same.refl _) hq5) hq5 upd_same
    refine ⟨_, rfl, x, C, p.dx, _, rfl, (N4.fresh hq5).at_.ins, T.cl, T.nC, (by show 6 < 1000; decide), ?_⟩
    exact k _ _ N5
/-! ### places -/
def spPlaces (C : Addr) : Sp := fun vs H Q _ => ∃ (x : Addr) (b : Bool) (p : At) (s : Mu47.State), vs = [.ref x] ∧ DrawerAt C H x b p s ∧ ∀ q, H q = none → Q (.ref q) (upd H q (.lst [.ref p.i, .ref p.n, .ref p.w]))
theorem scPlaces : FnScope ["self"] ["self"] (defScope sPlaces) := ⟨rfl, rfl, rfl, by decide +kernel, rfl, by decide +kernel, by decide +kernel⟩
theorem ok_places {f : Addr} {fd : FuncData} (F : Fun K "places" "Drawer.places" sPlaces f fd) (T : Txt K C) : FnOk P w K mg base CX0 1 f fd ["self"] (spPlaces C) := by
  refine F.ok scPlaces (fun vs H Q E h => ?_) (fun cdv A outer s H vs Q E hr h => ?_)
  · obtain ⟨x, b, p, s, rfl, _⟩ := h
    rfl
  · obtain ⟨x, b, p, s, rfl, d, k⟩ := h
    refine ⟨_, pss_one (ps_ret (pe_lst (pa_cons (pe_fld (pv 0) rfl) (pa_cons (pe_fld (pv 0) rfl) (pa_cons (pe_fld (pv 0) rfl) pa_nil))))), ?_⟩
    exact ⟨_, rfl, x, C, p.dx, _, _, rfl, d.ins, T.cl, T.nI, dF_inside .., _, rfl, x, C, p.dx, _, _, rfl, d.ins, T.cl, T.nN, dF_worn .., _, rfl, x, C, p.dx, _, _, rfl, d.ins, T.cl, T.nW, dF_washing .., (by show 3 ≤ sizeLine; decide), k⟩
/-! ### not_lost -/
def spNot (C : Addr) : Sp := fun vs H Q _ => ∃ (x : Addr) (b : Bool) (p : At) (s : Mu47.State), vs = [.ref x] ∧ DrawerAt C H x b p s ∧ s.worn.length = s.drawer.length ∧ s.wash.length = s.drawer.length ∧ s.drawer.length ≤ 100 ∧
  ∀ (H' : Hp) (q : Addr), Same H H' → H q = none → H' q = some (.lst (numV (Mu47.both (Mu47.both s.drawer s.worn) s.wash))) → Q (.ref q) H'
theorem scNot : FnScope ["self"] ["self"] (defScope sNot) := ⟨rfl, rfl, rfl, by decide +kernel, rfl, by decide +kernel, by decide +kernel⟩
theorem ok_not {f fA : Addr} {fd fdA : FuncData} (F : Fun K "not_lost" "Drawer.not_lost" sNot f fd) (T : Txt K C)
    (GA : FnOk P w K mg base CX0 1 fA fdA ["one", "other"] (spAdd K)) (kA : PySem.W.keepIn K (.ref fA) = true) (bA : Binds K fdA ["one", "other"] []) (gA : mg "add_rows" = some (.ref fA)) : FnOk P w K mg base CX0 2 f fd ["self"] (spNot C) := by
  refine F.ok scNot (fun vs H Q E h => ?_) (fun cdv A outer s H vs Q E hr h => ?_)
  · obtain ⟨x, b, p, s, rfl, _⟩ := h
    rfl
  · obtain ⟨x, b, p, s, rfl, d, e1, e2, h100, k⟩ := h
    refine ⟨_, pss_one (ps_ret (pe_call GA hr rfl gA kA bA .nil pass0 (pa_cons (pe_call GA hr rfl gA kA bA .nil pass0 (pa_cons (pe_fld (pv 0) rfl) (pa_cons (pe_fld (pv 0) rfl) pa_nil))) (pa_cons (pe_fld (pv 0) rfl) pa_nil)))), ?_⟩
    refine ⟨_, rfl, x, C, p.dx, _, _, rfl, d.ins, T.cl, T.nI, dF_inside .., _, rfl, x, C, p.dx, _, _, rfl, d.ins, T.cl, T.nN, dF_worn .., p.i, p.n, _, _, rfl, SqL.of d.hI, SqL.of d.hN, e1, h100, fun H1 q1 s1 n1 h1 => ?_⟩
    have d1 := d.same s1
    refine ⟨_, rfl, x, C, p.dx, _, _, rfl, d1.ins, T.cl, T.nW, dF_washing .., q1, p.w, _, _, rfl, SqL.of h1, SqL.of d1.hW, by rw [len_both (by omega)]; exact e2, by rw [len_both (by omega)]; exact h100, fun H2 q2 s2 n2 h2 => ?_⟩
    exact k H2 q2 (s1.trans s2) (s1.free n2) h2
/-! ### bring -/
def spBring (C : Addr) : Sp := fun vs H Q _ => ∃ (x : Addr) (b : Bool) (p : At) (s : Mu47.State) (c n : Nat), vs = [.ref x, .int c, .int n] ∧ DrawerAt C H x b p s ∧ c < s.drawer.length ∧ c < s.came.length ∧
  Q .non (upd (upd H p.i (.lst (numV (Mu47.alter s.drawer c fun (k : Nat) => k + n)))) p.c (.lst (numV (Mu47.alter s.came c fun (k : Nat) => k + n))))
theorem scBring : FnScope ["self", "colour", "n"] ["self", "colour", "n"] (defScope sBring) := ⟨rfl, rfl, rfl, by decide +kernel, rfl, by decide +kernel, by decide +kernel⟩
theorem ok_bring {f : Addr} {fd : FuncData} (F : Fun K "bring" "Drawer.bring" sBring f fd) (T : Txt K C) : FnOk P w K mg base CX0 1 f fd ["self", "colour", "n"] (spBring C) := by
  refine F.ok scBring (fun vs H Q E h => ?_) (fun cdv A outer s H vs Q E hr h => ?_)
  · obtain ⟨x, b, p, s, c, n, rfl, _⟩ := h
    rfl
  · obtain ⟨x, b, p, s, c, n, rfl, d, h1, h2, k⟩ := h
    refine ⟨_, pss_cons (ps_augS (pe_fld (pv 0) rfl) (pv 1) get_list (pv 2) ip_add set_list) (pss_one (ps_augS (pe_fld (pv 0) rfl) (pv 1) get_list (pv 2) ip_add set_list)), ?_⟩
    refine ⟨_, rfl, x, C, p.dx, _, _, rfl, d.ins, T.cl, T.nI, dF_inside .., _, rfl, p.i, _, _, _, rfl, rfl, SqL.of d.hI, by omega, num_at h1, _, rfl, _, _, rfl, rfl, p.i, _, _, c, rfl, rfl, d.hI, ixN_nat (by rw [numV_length]; exact h1), ?_⟩
    have e1 : (numV s.drawer).set c (.int (((s.drawer.getD c 0 : Nat) : Int) + (n : Int))) = numV (Mu47.alter s.drawer c fun (k : Nat) => k + n) := numV_set _ _ _
    have e2 : (numV s.came).set c (.int (((s.came.getD c 0 : Nat) : Int) + (n : Int))) = numV (Mu47.alter s.came c fun (k : Nat) => k + n) := numV_set _ _ _
    dsimp only
    rw [e1]
    have d := d.setI (Mu47.alter s.drawer c fun (k : Nat) => k + n)
    refine ⟨_, rfl, x, C, p.dx, _, _, rfl, d.ins, T.cl, T.nC, dF_come .., _, rfl, p.c, _, _, _, rfl, rfl, SqL.of d.hC, by omega, num_at h2, _, rfl, _, _, rfl, rfl, p.c, _, _, c, rfl, rfl, d.hC, ixN_nat (by rw [numV_length]; exact h2), ?_⟩
    dsimp only
    rw [e2]
    exact k
end
end Sk

set_option Elab.async false
set_option maxRecDepth 100000
set_option maxHeartbeats 2000000
namespace Sk
open PySem PySem.Spec PyProof.Rows L2
abbrev sBegin : Stmt := top 39
abbrev sWear : Stmt := top 45
abbrev sUndress : Stmt := top 46
abbrev sWash : Stmt := top 47
abbrev sLose : Stmt := top 48
section
variable {P : Program} {w : World} {K : PySem.W.Frag} {mg : Str → Option Value} {base : Heap} {C : Addr}
/-! ### begin -/
def spBegin (C : Addr) : Sp := fun vs H Q _ => ∃ (x h : Addr) (p : At) (o : Mu47.Abs) (l : List Nat), vs = [.ref x, .ref h] ∧ DrawerAt C H x o.isSome p (stOf o) ∧ H h = some (.lst (numV l)) ∧ h ∉ p.fp x ∧ l.length ≤ 8 ∧
  Out C H x (p.fp x) (Mu47.step o (.begin_ l)).1 (Mu47.step o (.begin_ l)).2 Q
theorem scBegin : FnScope ["drawer", "socks"] ["drawer", "socks"] (defScope sBegin) := ⟨rfl, rfl, rfl, by decide +kernel, rfl, by decide +kernel, by decide +kernel⟩
theorem ok_begin {f fM fF : Addr} {fd fdM fdF : FuncData} (F : Fun K "begin" "begin" sBegin f fd) (T : Txt K C) (N : Nums mg)
    (GM : FnOk P w K mg base CX0 1 fM fdM ["socks"] (spMay K)) (kM : PySem.W.keepIn K (.ref fM) = true) (bM : Binds K fdM ["socks"] []) (gM : mg "may_begin" = some (.ref fM))
    (GF : FnOk P w K mg base CX0 1 fF fdF ["self", "socks"] (spFill C)) (mF : Meth K C "fill" fF) (bF : Binds K fdF ["self", "socks"] []) :
    FnOk P w K mg base CX0 2 f fd ["drawer", "socks"] (spBegin C) := by
  refine F.ok scBegin (fun vs H Q E h => ?_) (fun cdv A outer s H vs Q E hr h => ?_)
  · obtain ⟨x, h, p, o, l, rfl, _⟩ := h
    rfl
  · obtain ⟨x, h, p, o, l, rfl, d, hh, hfp, h8, k⟩ := h
    refine ⟨_, pss_cons (ps_if (pt_not (pt_val (pe_call GM hr rfl gM kM bM .nil pass0 (pa_cons (pv 1) pa_nil)))) (pss_one (ps_ret (pe_lst (pa_cons (pe_num N.notGranted (by rfl)) pa_nil)))) pss_nil)
      (pss_cons (ps_expr (pe_meth (pv 0) T.cl mF GF hr bF .nil pass0 (pa_cons (pv 1) pa_nil)))
      (pss_one (ps_ret (pe_lst (pa_cons pe_int pa_nil))))), ?_⟩
    refine ⟨_, rfl, h, l, rfl, SqL.of hh, _, rfl, ?_⟩
    cases e : okBegin l with
    | false =>
      refine if_true_of rfl ⟨(by show 1 ≤ sizeLine; decide), fun q hq => ?_⟩
      have c : l.isEmpty = true ∨ Mu47.COLOURS < l.length ∨ l.any (fun (n : Nat) => decide (Mu47.MANY < n)) = true ∨ Mu47.SOCKS < Mu47.total l := by
        unfold okBegin at e
        rw [Bool.not_eq_eq_eq_not] at e
        exact of_decide_eq_true e
      have e2 : Mu47.step o (.begin_ l) = (o, [-1]) := if_pos c
      rw [e2] at k
      exact Out.new k d.now hq rfl
    | true =>
      refine if_false_of rfl ?_
      have c : ¬ (l.isEmpty = true ∨ Mu47.COLOURS < l.length ∨ l.any (fun (n : Nat) => decide (Mu47.MANY < n)) = true ∨ Mu47.SOCKS < Mu47.total l) := by
        unfold okBegin at e
        rw [Bool.not_eq_eq_eq_not] at e
        exact of_decide_eq_false e
      have e2 : Mu47.step o (.begin_ l) = (some ⟨l, Mu47.none_ l, Mu47.none_ l, Mu47.none_ l, l⟩, [0]) := if_neg c
      rw [e2] at k
      refine ⟨_, rfl, x, p.dx, _, rfl, d.ins, dF_fill .., _, rfl, x, h, _, p, _, l, rfl, d, hh, hfp, by omega, fun H1 p1 n1 => ?_⟩
      refine ⟨(by show 1 ≤ sizeLine; decide), fun q hq => ?_⟩
      exact Out.new k n1 hq rfl
/-! ### what a call with numbers does -/
def spAct (C : Addr) (n : Nat) (mk : List Nat → Mu47.Call) : Sp := fun vs H Q _ => ∃ (x : Addr) (p : At) (s : Mu47.State) (a : List Nat), a.length = n ∧ vs = .ref x :: numV a ∧ DrawerAt C H x true p s ∧ Inv s ∧
  Out C H x (p.fp x) (Mu47.step (some s) (mk a)).1 (Mu47.step (some s) (mk a)).2 Q
theorem set_sub {l : List Nat} {c m : Nat} (h : m ≤ l.getD c 0) : (numV l).set c (V.int (((l.getD c 0 : Nat) : Int) - ((m : Nat) : Int))) = numV (Mu47.alter l c fun (k : Nat) => k - m) := by
  have e : ((l.getD c 0 : Nat) : Int) - ((m : Nat) : Int) = ((l.getD c 0 - m : Nat) : Int) := by omega
  rw [e]
  exact numV_set _ _ _
theorem set_add {l : List Nat} {c m : Nat} : (numV l).set c (V.int (((l.getD c 0 : Nat) : Int) + ((m : Nat) : Int))) = numV (Mu47.alter l c fun (k : Nat) => k + m) := numV_set _ _ _
theorem alter_get {l : List Nat} {c : Nat} {g : Nat → Nat} (h : c < l.length) : (Mu47.alter l c g)[c]? = some (g (l.getD c 0)) := by
  unfold Mu47.alter
  rw [List.getElem?_set_self h]
/-! ### wear -/
abbrev spWear (C : Addr) : Sp := spAct C 1 fun a => .wear (a.getD 0 0)
theorem scWear : FnScope ["drawer", "colour"] ["drawer", "colour"] (defScope sWear) := ⟨rfl, rfl, rfl, by decide +kernel, rfl, by decide +kernel, by decide +kernel⟩
theorem ok_wear {f fH : Addr} {fd fdH : FuncData} (F : Fun K "wear" "wear" sWear f fd) (T : Txt K C) (N : Nums mg)
    (GH : FnOk P w K mg base CX0 1 fH fdH ["self", "colour"] (spHas C)) (mH : Meth K C "has_colour" fH) (bH : Binds K fdH ["self", "colour"] []) :
    FnOk P w K mg base CX0 2 f fd ["drawer", "colour"] (spWear C) := by
  refine F.ok scWear (fun vs H Q E h => ?_) (fun cdv A outer s H vs Q E hr h => ?_)
  · obtain ⟨x, p, s, a, ha, rfl, _⟩ := h
    rw [List.length_cons, numV_length, ha]
    rfl
  · obtain ⟨x, p, s, a, ha, rfl, d, iv, k⟩ := h
    obtain ⟨c, rfl⟩ := one_of ha
    have k : Out C H x (p.fp x) (Mu47.step (some s) (.wear c)).1 (Mu47.step (some s) (.wear c)).2 Q := k
    refine ⟨_, pss_cons (ps_if (pt_not (pt_val (pe_meth (pv 0) T.cl mH GH hr bH .nil pass0 (pa_cons (pv 1) pa_nil)))) (pss_one (ps_ret (pe_lst (pa_cons (pe_num N.noColour (by rfl)) pa_nil)))) pss_nil)
      (pss_cons (ps_if (pt_cmpR op_lt (pe_ix ix_list (pe_fld (pv 0) rfl) (pv 1) (fun _ _ => rfl)) pe_int (nomark _)) (pss_one (ps_ret (pe_lst (pa_cons (pe_num N.notThere (by rfl)) pa_nil)))) pss_nil)
      (pss_cons (ps_augS (pe_fld (pv 0) rfl) (pv 1) get_list pe_int ip_sub set_list)
      (pss_cons (ps_augS (pe_fld (pv 0) rfl) (pv 1) get_list pe_int ip_add set_list)
      (pss_one (ps_ret (pe_lst (pa_cons (pe_ix ix_list (pe_fld (pv 0) rfl) (pv 1) (fun _ _ => rfl)) pa_nil))))))), ?_⟩
    refine ⟨_, rfl, x, p.dx, _, rfl, d.ins, dF_has .., _, rfl, x, s.drawer, c, rfl, d.sees, _, rfl, ?_⟩
    by_cases c1 : c < s.drawer.length
    · refine if_false_of (by rw [decide_eq_true c1]; rfl) ?_
      have c1n : c < s.worn.length := by
        rw [iv.worn]
        exact c1
      refine ⟨_, rfl, x, C, p.dx, _, _, rfl, d.ins, T.cl, T.nI, dF_inside .., _, rfl, p.i, _, _, _, rfl, rfl, SqL.of d.hI, atI_nat (numV_get (get_getD c1)), _, _, rfl, rfl, _, rfl, ?_⟩
      by_cases c2 : s.drawer.getD c 0 < 2
      · refine if_true_of (decide_eq_true (by omega)) ⟨(by show 1 ≤ sizeLine; decide), fun q hq => ?_⟩
        have e : Mu47.step (some s) (.wear c) = (some s, [-6]) := (if_neg (Nat.not_le.mpr c1)).trans (if_pos c2)
        rw [e] at k
        exact Out.new k d.now hq rfl
      refine if_false_of (decide_eq_false (by omega)) ?_
      have e : Mu47.step (some s) (.wear c) = (some { s with drawer := Mu47.alter s.drawer c fun (n : Nat) => n - 2, worn := Mu47.alter s.worn c fun (n : Nat) => n + 2 }, [((s.drawer.getD c 0 - 2 : Nat) : Int)]) := (if_neg (Nat.not_le.mpr c1)).trans (if_neg c2)
      rw [e] at k
      have n0 := d.now
      have n1 := n0.setI (Mu47.alter s.drawer c fun (n : Nat) => n - 2)
      have n2 := n1.setN (Mu47.alter s.worn c fun (n : Nat) => n + 2)
      refine ⟨_, rfl, x, C, p.dx, _, _, rfl, d.ins, T.cl, T.nI, dF_inside .., _, rfl, p.i, _, _, _, rfl, rfl, SqL.of d.hI, by omega, num_at c1, _, _, rfl, rfl, p.i, _, _, c, rfl, rfl, d.hI, ixN_nat (by rw [numV_length]; exact c1), ?_⟩
      have e1 := set_sub (l := s.drawer) (c := c) (m := 2) (by omega)
      have e2 := set_add (l := s.worn) (c := c) (m := 2)
      have e1 : (numV s.drawer).set c (V.int (((s.drawer.getD c 0 : Nat) : Int) - 2)) = _ := e1
      have e2 : (numV s.worn).set c (V.int (((s.worn.getD c 0 : Nat) : Int) + 2)) = _ := e2
      dsimp only
      rw [e1]
      have d1 := n1.at_
      refine ⟨_, rfl, x, C, p.dx, _, _, rfl, d1.ins, T.cl, T.nN, dF_worn .., _, rfl, p.n, _, _, _, rfl, rfl, SqL.of d1.hN, by omega, num_at c1n, _, _, rfl, rfl, p.n, _, _, c, rfl, rfl, d1.hN, ixN_nat (by rw [numV_length]; exact c1n), ?_⟩
      dsimp only
      rw [e2]
      have d2 := n2.at_
      refine ⟨_, rfl, x, C, p.dx, _, _, rfl, d2.ins, T.cl, T.nI, dF_inside .., _, rfl, p.i, _, _, _, rfl, rfl, SqL.of (xs := numV (Mu47.alter s.drawer c fun (n : Nat) => n - 2)) d2.hI, atI_nat (numV_get (alter_get c1)), (by show 1 ≤ sizeLine; decide), fun q hq => ?_⟩
      exact Out.new k n2 hq rfl
    · refine if_true_of (by rw [decide_eq_false c1]; rfl) ⟨(by show 1 ≤ sizeLine; decide), fun q hq => ?_⟩
      have e : Mu47.step (some s) (.wear c) = (some s, [-2]) := if_pos (Nat.le_of_not_lt c1)
      rw [e] at k
      exact Out.new k d.now hq rfl
/-! ### undress, wash -/
abbrev spUndress (C : Addr) : Sp := spAct C 0 fun _ => .undress
abbrev spWash (C : Addr) : Sp := spAct C 0 fun _ => .wash
theorem scUndress : FnScope ["drawer", "moved"] ["drawer"] (defScope sUndress) := ⟨rfl, rfl, rfl, by decide +kernel, rfl, by decide +kernel, by decide +kernel⟩
theorem scWash : FnScope ["drawer", "moved"] ["drawer"] (defScope sWash) := ⟨rfl, rfl, rfl, by decide +kernel, rfl, by decide +kernel, by decide +kernel⟩
theorem rep_none' {l l' : List Nat} (h : l'.length = l.length) : (List.replicate (((numV l').length : Nat) : Int).toNat [V.int 0]).flatten = numV (Mu47.none_ l) := by
  rw [← rep_none l, numV_length, h]
  rfl
theorem big_rep {ys : List V} {k : Nat} (e : ys.length = 1) (h : k ≤ 100) : ys.length * ((k : Nat) : Int).toNat ≤ sizeLine := by
  rw [e]
  exact small (by omega)
theorem ok_undress {f fA : Addr} {fd fdA : FuncData} (F : Fun K "undress" "undress" sUndress f fd) (T : Txt K C) (mLen : mg "len" = none) (mSum : mg "sum" = none)
    (GA : FnOk P w K mg base CX0 1 fA fdA ["one", "other"] (spAdd K)) (kA : PySem.W.keepIn K (.ref fA) = true) (bA : Binds K fdA ["one", "other"] []) (gA : mg "add_rows" = some (.ref fA)) :
    FnOk P w K mg base CX0 2 f fd ["drawer"] (spUndress C) := by
  refine F.ok scUndress (fun vs H Q E h => ?_) (fun cdv A outer s H vs Q E hr h => ?_)
  · obtain ⟨x, p, s, a, ha, rfl, _⟩ := h
    rw [List.length_cons, numV_length, ha]
    rfl
  · obtain ⟨x, p, s, a, ha, rfl, d, iv, k⟩ := h
    obtain rfl : a = [] := List.eq_nil_of_length_eq_zero ha
    have l1 := iv.worn
    have l2 := iv.wash
    have l5 := iv.few
    refine ⟨_, pss_cons (ps_set (i := 1) scUndress.nd rfl (Or.inl rfl) (pe_callB (cr_sum rfl) (by rfl) mSum (by decide +kernel) (pa_cons (pe_fld (pv 0) rfl) pa_nil)))
      (pss_cons (ps_fld (pv 0) (pe_call GA hr rfl gA kA bA .nil pass0 (pa_cons (pe_fld (pv 0) rfl) (pa_cons (pe_fld (pv 0) rfl) pa_nil))) rfl)
      (pss_cons (ps_fld (pv 0) (pe_op op_rep (pe_lst (pa_cons pe_int pa_nil)) (pe_callB call_len_seq (by rfl) mLen PySem.boot_len (pa_cons (pe_fld (pv 0) rfl) pa_nil))) rfl)
      (pss_one (ps_ret (pe_lst (pa_cons (pv 1) pa_nil)))))), ?_⟩
    refine ⟨_, rfl, x, C, p.dx, _, _, rfl, d.ins, T.cl, T.nN, dF_worn .., p.n, _, rfl, sq_sum d.hN, ?_⟩
    rw [sum_cast]
    refine ⟨_, rfl, x, C, p.dx, _, _, rfl, d.ins, T.cl, T.nW, dF_washing .., _, rfl, x, C, p.dx, _, _, rfl, d.ins, T.cl, T.nN, dF_worn .., p.w, p.n, _, _, rfl, SqL.of d.hW, SqL.of d.hN, by omega, by omega, fun H1 q s1 nq hq => ?_⟩
    have n1 := d.now.putW s1 nq hq
    refine ⟨_, rfl, x, C, p.dx, _, rfl, (d.same s1).ins, T.cl, T.nW, (by show 6 < 1000; decide), ?_⟩
    refine ⟨(by show 1 ≤ sizeLine; decide), fun t2 ht2 => ⟨_, rfl, x, C, p.dx, _, _, rfl, (n1.fresh ht2).at_.ins, T.cl, T.nN, dF_worn .., p.n, _, rfl, .inl (SqL.of (n1.fresh ht2).at_.hN), t2, _, _, rfl, rfl, upd_same, by omega, by rw [numV_length]; show ((s.worn.length : Nat) : Int) < 2 ^ 63; omega, big_rep rfl (by rw [numV_length]; show s.worn.length ≤ 100; omega), fun q2 hq2 => ?_⟩⟩
    have s2 := Same.fresh (o := .lst (List.replicate (((numV s.worn).length : Nat) : Int).toNat [V.int 0]).flatten) (Same.fresh (o := .lst [V.int 0]) (Same.refl _) ht2) hq2
    have n2 := n1.putN s2 (upd_free hq2).2 (upd_same.trans (congrArg (fun q => some (HO.lst q)) (rep_none' (l := s.worn) rfl)))
    refine ⟨_, rfl, x, C, p.dx, _, rfl, (n1.same s2).at_.ins, T.cl, T.nN, (by show 6 < 1000; decide), ?_⟩
    refine ⟨_, rfl, (by show 1 ≤ sizeLine; decide), fun q3 hq3 => ?_⟩
    have e : Mu47.step (some s) .undress = (some { s with wash := Mu47.both s.wash s.worn, worn := Mu47.none_ s.worn }, [((s.worn.sum : Nat) : Int)]) := by
      rw [← total_sum]
      rfl
    rw [e] at k
    exact Out.new k n2 hq3 rfl
theorem ok_wash {f fA : Addr} {fd fdA : FuncData} (F : Fun K "wash" "wash" sWash f fd) (T : Txt K C) (mLen : mg "len" = none) (mSum : mg "sum" = none)
    (GA : FnOk P w K mg base CX0 1 fA fdA ["one", "other"] (spAdd K)) (kA : PySem.W.keepIn K (.ref fA) = true) (bA : Binds K fdA ["one", "other"] []) (gA : mg "add_rows" = some (.ref fA)) :
    FnOk P w K mg base CX0 2 f fd ["drawer"] (spWash C) := by
  refine F.ok scWash (fun vs H Q E h => ?_) (fun cdv A outer s H vs Q E hr h => ?_)
  · obtain ⟨x, p, s, a, ha, rfl, _⟩ := h
    rw [List.length_cons, numV_length, ha]
    rfl
  · obtain ⟨x, p, s, a, ha, rfl, d, iv, k⟩ := h
    obtain rfl : a = [] := List.eq_nil_of_length_eq_zero ha
    have l1 := iv.worn
    have l2 := iv.wash
    have l5 := iv.few
    refine ⟨_, pss_cons (ps_set (i := 1) scWash.nd rfl (Or.inl rfl) (pe_callB (cr_sum rfl) (by rfl) mSum (by decide +kernel) (pa_cons (pe_fld (pv 0) rfl) pa_nil)))
      (pss_cons (ps_fld (pv 0) (pe_call GA hr rfl gA kA bA .nil pass0 (pa_cons (pe_fld (pv 0) rfl) (pa_cons (pe_fld (pv 0) rfl) pa_nil))) rfl)
      (pss_cons (ps_fld (pv 0) (pe_op op_rep (pe_lst (pa_cons pe_int pa_nil)) (pe_callB call_len_seq (by rfl) mLen PySem.boot_len (pa_cons (pe_fld (pv 0) rfl) pa_nil))) rfl)
      (pss_one (ps_ret (pe_lst (pa_cons (pv 1) pa_nil)))))), ?_⟩
    refine ⟨_, rfl, x, C, p.dx, _, _, rfl, d.ins, T.cl, T.nW, dF_washing .., p.w, _, rfl, sq_sum d.hW, ?_⟩
    rw [sum_cast]
    refine ⟨_, rfl, x, C, p.dx, _, _, rfl, d.ins, T.cl, T.nI, dF_inside .., _, rfl, x, C, p.dx, _, _, rfl, d.ins, T.cl, T.nW, dF_washing .., p.i, p.w, _, _, rfl, SqL.of d.hI, SqL.of d.hW, by omega, by omega, fun H1 q s1 nq hq => ?_⟩
    have n1 := d.now.putI s1 nq hq
    refine ⟨_, rfl, x, C, p.dx, _, rfl, (d.same s1).ins, T.cl, T.nI, (by show 6 < 1000; decide), ?_⟩
    refine ⟨(by show 1 ≤ sizeLine; decide), fun t2 ht2 => ⟨_, rfl, x, C, p.dx, _, _, rfl, (n1.fresh ht2).at_.ins, T.cl, T.nW, dF_washing .., p.w, _, rfl, .inl (SqL.of (n1.fresh ht2).at_.hW), t2, _, _, rfl, rfl, upd_same, by omega, by rw [numV_length]; show ((s.wash.length : Nat) : Int) < 2 ^ 63; omega, big_rep rfl (by rw [numV_length]; show s.wash.length ≤ 100; omega), fun q2 hq2 => ?_⟩⟩
    have s2 := Same.fresh (o := .lst (List.replicate (((numV s.wash).length : Nat) : Int).toNat [V.int 0]).flatten) (Same.fresh (o := .lst [V.int 0]) (Same.refl _) ht2) hq2
    have n2 := n1.putW s2 (upd_free hq2).2 (upd_same.trans (congrArg (fun q => some (HO.lst q)) (rep_none' (l := s.wash) rfl)))
    refine ⟨_, rfl, x, C, p.dx, _, rfl, (n1.same s2).at_.ins, T.cl, T.nW, (by show 6 < 1000; decide), ?_⟩
    refine ⟨_, rfl, (by show 1 ≤ sizeLine; decide), fun q3 hq3 => ?_⟩
    have e : Mu47.step (some s) .wash = (some { s with drawer := Mu47.both s.drawer s.wash, wash := Mu47.none_ s.wash }, [((s.wash.sum : Nat) : Int)]) := by
      rw [← total_sum]
      rfl
    rw [e] at k
    exact Out.new k n2 hq3 rfl
/-! ### lose -/
def putAt (s : Mu47.State) (w : Nat) (l : List Nat) : Mu47.State := if w = 0 then { s with drawer := l } else if w = 1 then { s with worn := l } else { s with wash := l }
theorem lostAt_is (s : Mu47.State) (w c : Nat) : Mu47.lostAt s w c = { putAt s w (Mu47.alter (Mu47.whereAre s w) c fun (n : Nat) => n - 1) with lost := Mu47.alter s.lost c fun (n : Nat) => n + 1 } := by
  unfold Mu47.lostAt putAt Mu47.whereAre
  by_cases h0 : w = 0
  · rw [if_pos h0, if_pos h0, if_pos h0]
  · rw [if_neg h0, if_neg h0, if_neg h0]
    by_cases h1 : w = 1
    · rw [if_pos h1, if_pos h1, if_pos h1]
    · rw [if_neg h1, if_neg h1, if_neg h1]
theorem lost_putAt (s : Mu47.State) (w : Nat) (l : List Nat) : (putAt s w l).lost = s.lost := by
  unfold putAt
  split
  · rfl
  · split <;> rfl
theorem at_place {B H : Hp} {x : Addr} {fp : List Addr} {p : At} {s : Mu47.State} (d : Now C B x fp H true p s) (iv : Inv s) {w : Nat} (h : w < 3) : ∃ r : Addr, ([.ref p.i, .ref p.n, .ref p.w] : List V)[w]? = some (.ref r) ∧ H r = some (.lst (numV (Mu47.whereAre s w))) ∧ r ≠ p.l ∧
    (Mu47.whereAre s w).length = s.drawer.length ∧ ∀ l, Now C B x fp (upd H r (.lst (numV l))) true p (putAt s w l) := by
  obtain ⟨⟨a1, a2, a3, a4⟩, ⟨a5, a6, a7⟩, ⟨a8, a9⟩, a10⟩ := d.at_.nd
  match w, h with
  | 0, _ => exact ⟨p.i, rfl, d.at_.hI, a3, rfl, fun l => d.setI l⟩
  | 1, _ => exact ⟨p.n, rfl, d.at_.hN, a6, iv.worn, fun l => d.setN l⟩
  | 2, _ => exact ⟨p.w, rfl, d.at_.hW, a8, iv.wash, fun l => d.setW l⟩
abbrev spLose (C : Addr) : Sp := spAct C 2 fun a => .lose (a.getD 0 0) (a.getD 1 0)
abbrev nLose : List Str := ["drawer", "place", "colour", "places", "row"]
theorem scLose : FnScope nLose ["drawer", "place", "colour"] (defScope sLose) := ⟨rfl, rfl, rfl, by decide +kernel, rfl, by decide +kernel, by decide +kernel⟩
theorem ok_lose {f fH fP : Addr} {fd fdH fdP : FuncData} (F : Fun K "lose" "lose" sLose f fd) (T : Txt K C) (N : Nums mg) (mLen : mg "len" = none)
    (GH : FnOk P w K mg base CX0 1 fH fdH ["self", "colour"] (spHas C)) (mH : Meth K C "has_colour" fH) (bH : Binds K fdH ["self", "colour"] [])
    (GP : FnOk P w K mg base CX0 1 fP fdP ["self"] (spPlaces C)) (mP : Meth K C "places" fP) (bP : Binds K fdP ["self"] []) :
    FnOk P w K mg base CX0 2 f fd ["drawer", "place", "colour"] (spLose C) := by
  refine F.ok scLose (fun vs H Q E h => ?_) (fun cdv A outer s H vs Q E hr h => ?_)
  · obtain ⟨x, p, s, a, ha, rfl, _⟩ := h
    rw [List.length_cons, numV_length, ha]
    rfl
  · obtain ⟨x, p, s, a, ha, rfl, d, iv, k⟩ := h
    obtain ⟨v, c, rfl⟩ := two_of ha
    have k : Out C H x (p.fp x) (Mu47.step (some s) (.lose v c)).1 (Mu47.step (some s) (.lose v c)).2 Q := k
    refine ⟨_, pss_cons (ps_set (i := 3) scLose.nd rfl (Or.inl rfl) (pe_meth0 (pv 0) T.cl mP GP hr bP .nil pass0))
      (pss_cons (ps_if (pt_cmpR op_ge (pv 1) (pe_callB call_len_seq (by rfl) mLen PySem.boot_len (pa_cons (pv 3) pa_nil)) (nomark _)) (pss_one (ps_ret (pe_lst (pa_cons (pe_num N.notGranted (by rfl)) pa_nil)))) pss_nil)
      (pss_cons (ps_if (pt_not (pt_val (pe_meth (pv 0) T.cl mH GH hr bH .nil pass0 (pa_cons (pv 2) pa_nil)))) (pss_one (ps_ret (pe_lst (pa_cons (pe_num N.noColour (by rfl)) pa_nil)))) pss_nil)
      (pss_cons (ps_set (i := 4) scLose.nd rfl (Or.inl rfl) (pe_ix ix_list (pv 3) (pv 1) (fun _ _ => rfl)))
      (pss_cons (ps_if (pt_cmpR op_lt (pe_ix ix_list (pv 4) (pv 2) (fun _ _ => rfl)) pe_int (nomark _)) (pss_one (ps_ret (pe_lst (pa_cons (pe_num N.notThere (by rfl)) pa_nil)))) pss_nil)
      (pss_cons (ps_augS (pv 4) (pv 2) get_list pe_int ip_sub set_list)
      (pss_cons (ps_augS (pe_fld (pv 0) rfl) (pv 2) get_list pe_int ip_add set_list)
      (pss_one (ps_ret (pe_lst (pa_cons (pe_ix ix_list (pv 4) (pv 2) (fun _ _ => rfl)) pa_nil)))))))))), ?_⟩
    -- places
    refine ⟨_, rfl, x, p.dx, _, rfl, d.ins, dF_places .., x, _, p, s, rfl, d, fun t ht => ?_⟩
    have n0 := d.now.fresh (o := .lst [.ref p.i, .ref p.n, .ref p.w]) ht
    refine ⟨_, rfl, _, rfl, t, _, rfl, .inl (SqL.of upd_same), _, _, rfl, rfl, _, rfl, ?_⟩
    by_cases c0 : 2 < v
    · refine if_true_of (decide_eq_true (show (3 : Int) ≤ (v : Int) by omega)) ⟨(by show 1 ≤ sizeLine; decide), fun q hq => ?_⟩
      have e : Mu47.step (some s) (.lose v c) = (some s, [-1]) := if_pos c0
      rw [e] at k
      exact Out.new k n0 hq rfl
    refine if_false_of (decide_eq_false (show ¬ (3 : Int) ≤ (v : Int) by omega)) ?_
    refine ⟨_, rfl, x, p.dx, _, rfl, n0.at_.ins, dF_has .., _, rfl, x, s.drawer, c, rfl, n0.at_.sees, _, rfl, ?_⟩
    by_cases c1 : c < s.drawer.length
    · refine if_false_of (by rw [decide_eq_true c1]; rfl) ?_
      obtain ⟨r, hr1, hr2, hr3, hr4, put⟩ := at_place n0 iv (w := v) (by omega)
      refine ⟨_, rfl, _, rfl, t, _, _, _, rfl, rfl, SqL.of upd_same, atI_nat hr1, ?_⟩
      have c1r : c < (Mu47.whereAre s v).length := by
        rw [hr4]
        exact c1
      have c1l : c < s.lost.length := by
        rw [iv.lost]
        exact c1
      refine ⟨_, rfl, _, rfl, r, _, _, _, rfl, rfl, SqL.of hr2, atI_nat (numV_get (get_getD c1r)), _, _, rfl, rfl, _, rfl, ?_⟩
      by_cases c2 : (Mu47.whereAre s v).getD c 0 = 0
      · refine if_true_of (decide_eq_true (by omega)) ⟨(by show 1 ≤ sizeLine; decide), fun q hq => ?_⟩
        have e : Mu47.step (some s) (.lose v c) = (some s, [-6]) := ((if_neg c0).trans (if_neg (Nat.not_le.mpr c1))).trans (if_pos c2)
        rw [e] at k
        exact Out.new k n0 hq rfl
      refine if_false_of (decide_eq_false (by omega)) ?_
      have e : Mu47.step (some s) (.lose v c) = (some (Mu47.lostAt s v c), [(((Mu47.whereAre s v).getD c 0 - 1 : Nat) : Int)]) := ((if_neg c0).trans (if_neg (Nat.not_le.mpr c1))).trans (if_neg c2)
      rw [e, lostAt_is] at k
      have n1 := put (Mu47.alter (Mu47.whereAre s v) c fun (n : Nat) => n - 1)
      have n2 := n1.setL (Mu47.alter s.lost c fun (n : Nat) => n + 1)
      have hL := n1.at_.hL
      rw [lost_putAt] at hL
      have e1 : (numV (Mu47.whereAre s v)).set c (V.int ((((Mu47.whereAre s v).getD c 0 : Nat) : Int) - 1)) = numV (Mu47.alter (Mu47.whereAre s v) c fun (n : Nat) => n - 1) := set_sub (m := 1) (by omega)
      have e2 : (numV s.lost).set c (V.int (((s.lost.getD c 0 : Nat) : Int) + 1)) = numV (Mu47.alter s.lost c fun (n : Nat) => n + 1) := set_add (m := 1)
      refine ⟨_, rfl, _, rfl, r, _, _, _, rfl, rfl, SqL.of hr2, by omega, num_at c1r, _, _, rfl, rfl, r, _, _, c, rfl, rfl, hr2, ixN_nat (by rw [numV_length]; exact c1r), ?_⟩
      dsimp only
      rw [e1]
      refine ⟨_, rfl, x, C, p.dx, _, _, rfl, n1.at_.ins, T.cl, T.nL, dF_lost .., _, rfl, p.l, _, _, _, rfl, rfl, SqL.of hL, by omega, num_at c1l, _, _, rfl, rfl, p.l, _, _, c, rfl, rfl, hL, ixN_nat (by rw [numV_length]; exact c1l), ?_⟩
      dsimp only
      rw [e2]
      refine ⟨_, rfl, _, rfl, r, _, _, _, rfl, rfl, SqL.of ((upd_ne hr3).trans upd_same), atI_nat (numV_get (alter_get c1r)), (by show 1 ≤ sizeLine; decide), fun q hq => ?_⟩
      exact Out.new k n2 hq rfl
    · refine if_true_of (by rw [decide_eq_false c1]; rfl) ⟨(by show 1 ≤ sizeLine; decide), fun q hq => ?_⟩
      have e : Mu47.step (some s) (.lose v c) = (some s, [-2]) := (if_neg c0).trans (if_pos (Nat.le_of_not_lt c1))
      rw [e] at k
      exact Out.new k n0 hq rfl
end
end Sk

set_option Elab.async false
set_option maxRecDepth 100000
set_option maxHeartbeats 2000000
namespace Sk
open PySem PySem.Spec PyProof.Rows L2
abbrev sBuy : Stmt := top 49
abbrev sOdd : Stmt := top 50
abbrev sTellOdd : Stmt := top 51
abbrev sMend : Stmt := top 52
abbrev sLook : Stmt := top 53
/-- of each colour how many there are still -/
def counts (s : Mu47.State) : List Nat := Mu47.both (Mu47.both s.drawer s.worn) s.wash
theorem len_counts {s : Mu47.State} (iv : Inv s) : (counts s).length = s.drawer.length := by
  have l1 := iv.worn
  have l2 := iv.wash
  unfold counts
  rw [len_both (by rw [len_both (by omega)]; omega), len_both (by omega)]
theorem sum_counts {s : Mu47.State} (iv : Inv s) : (counts s).sum = Mu47.all s := by
  have l1 := iv.worn
  have l2 := iv.wash
  unfold counts
  rw [sum_both (by rw [len_both (by omega)]; omega), sum_both (by omega), total3]
theorem get_counts {s : Mu47.State} (iv : Inv s) {c : Nat} (h : c < s.drawer.length) : (counts s)[c]? = some (Mu47.have_ s c) :=
  both_get (both_get (get_getD h) (get_getD (by rw [iv.worn]; exact h))) (get_getD (by rw [iv.wash]; exact h))
section
variable {P : Program} {w : World} {K : PySem.W.Frag} {mg : Str → Option Value} {base : Heap} {C : Addr}
/-! ### buy -/
abbrev spBuy (C : Addr) : Sp := spAct C 2 fun a => .buy (a.getD 0 0) (a.getD 1 0)
theorem scBuy : FnScope ["drawer", "colour", "n", "counts"] ["drawer", "colour", "n"] (defScope sBuy) := ⟨rfl, rfl, rfl, by decide +kernel, rfl, by decide +kernel, by decide +kernel⟩
theorem ok_buy {f fH fN fB : Addr} {fd fdH fdN fdB : FuncData} (F : Fun K "buy" "buy" sBuy f fd) (T : Txt K C) (N : Nums mg) (mSum : mg "sum" = none)
    (GH : FnOk P w K mg base CX0 1 fH fdH ["self", "colour"] (spHas C)) (mH : Meth K C "has_colour" fH) (bH : Binds K fdH ["self", "colour"] [])
    (GN : FnOk P w K mg base CX0 2 fN fdN ["self"] (spNot C)) (mN : Meth K C "not_lost" fN) (bN : Binds K fdN ["self"] [])
    (GB : FnOk P w K mg base CX0 1 fB fdB ["self", "colour", "n"] (spBring C)) (mB : Meth K C "bring" fB) (bB : Binds K fdB ["self", "colour", "n"] []) :
    FnOk P w K mg base CX0 3 f fd ["drawer", "colour", "n"] (spBuy C) := by
  refine F.ok scBuy (fun vs H Q E h => ?_) (fun cdv A outer s H vs Q E hr h => ?_)
  · obtain ⟨x, p, s, a, ha, rfl, _⟩ := h
    rw [List.length_cons, numV_length, ha]
    rfl
  · obtain ⟨x, p, s, a, ha, rfl, d, iv, k⟩ := h
    obtain ⟨c, n, rfl⟩ := two_of ha
    have k : Out C H x (p.fp x) (Mu47.step (some s) (.buy c n)).1 (Mu47.step (some s) (.buy c n)).2 Q := k
    have hr1 : Room 1 _ := hr.mono (by decide)
    have l5 := iv.few
    refine ⟨_, pss_cons (ps_if (pt_not (pt_val (pe_meth (pv 0) T.cl mH GH hr1 bH .nil pass0 (pa_cons (pv 1) pa_nil)))) (pss_one (ps_ret (pe_lst (pa_cons (pe_num N.noColour (by rfl)) pa_nil)))) pss_nil)
      (pss_cons (ps_set (i := 3) scBuy.nd rfl (Or.inl rfl) (pe_meth0 (pv 0) T.cl mN GN hr bN .nil pass0))
      (pss_cons (ps_if (PW.pt (pw_or (pt_cmpR op_lt (pv 2) pe_int (nomark _)) (pw_or (pt_cmpR op_gt (pe_op op_add (pe_ix ix_list (pv 3) (pv 1) (fun _ _ => rfl)) (pv 2)) (pe_num N.mostOf (by rfl)) (nomark _)) (pw_or1 (pt_cmpR op_gt (pe_op op_add (pe_callB (cr_sum rfl) (by rfl) mSum (by decide +kernel) (pa_cons (pv 3) pa_nil)) (pv 2)) (pe_num N.mostSocks (by rfl)) (nomark _))))))
        (pss_one (ps_ret (pe_lst (pa_cons (pe_num N.notGranted (by rfl)) pa_nil)))) pss_nil)
      (pss_cons (ps_expr (pe_meth (pv 0) T.cl mB GB hr1 bB .nil pass0 (pa_cons (pv 1) (pa_cons (pv 2) pa_nil))))
      (pss_one (ps_ret (pe_lst (pa_cons (pe_ix ix_list (pe_fld (pv 0) rfl) (pv 1) (fun _ _ => rfl)) pa_nil))))))), ?_⟩
    refine ⟨_, rfl, x, p.dx, _, rfl, d.ins, dF_has .., _, rfl, x, s.drawer, c, rfl, d.sees, _, rfl, ?_⟩
    by_cases c1 : c < s.drawer.length
    · refine if_false_of (by rw [decide_eq_true c1]; rfl) ?_
      have c1c : c < s.came.length := by
        rw [iv.came]
        exact c1
      -- counts
      refine ⟨_, rfl, x, p.dx, _, rfl, d.ins, dF_notLost .., x, _, p, s, rfl, d, iv.worn, iv.wash, by omega, fun H1 t s1 nt ht => ?_⟩
      have ht : H1 t = some (.lst (numV (counts s))) := ht
      have n0 := d.now.same s1
      have ref : n = 0 ∨ Mu47.MANY < Mu47.have_ s c + n ∨ Mu47.SOCKS < Mu47.all s + n → ∀ q, H1 q = none → Q (.ref q) (upd H1 q (.lst [V.int (-1)])) := fun z q hq => by
        have e : Mu47.step (some s) (.buy c n) = (some s, [-1]) := (if_neg (Nat.not_le.mpr c1)).trans (if_pos z)
        rw [e] at k
        exact Out.new k n0 hq rfl
      refine ⟨_, rfl, _, _, rfl, rfl, _, rfl, ?_⟩
      by_cases c2 : n = 0
      · refine if_true_of (decide_eq_true (by omega)) ?_
        exact if_true_of rfl ⟨(by show 1 ≤ sizeLine; decide), ref (.inl c2)⟩
      refine if_false_of (decide_eq_false (by omega)) ?_
      refine ⟨_, rfl, _, rfl, t, _, _, _, rfl, rfl, SqL.of ht, atI_nat (numV_get (get_counts iv c1)), _, rfl, _, _, rfl, rfl, _, _, rfl, rfl, _, rfl, ?_⟩
      by_cases c3 : 8 < Mu47.have_ s c + n
      · refine if_true_of (decide_eq_true (by omega)) ?_
        exact if_true_of rfl ⟨(by show 1 ≤ sizeLine; decide), ref (.inr (.inl c3))⟩
      refine if_false_of (decide_eq_false (by omega)) ?_
      refine ⟨_, rfl, t, _, rfl, sq_sum ht, _, rfl, _, _, rfl, rfl, _, _, rfl, rfl, _, rfl, ?_⟩
      rw [sum_cast, sum_counts iv]
      by_cases c4 : 24 < Mu47.all s + n
      · refine if_true_of (decide_eq_true (by omega)) ?_
        exact ⟨(by show 1 ≤ sizeLine; decide), ref (.inr (.inr c4))⟩
      refine if_false_of (decide_eq_false (by omega)) ?_
      have e : Mu47.step (some s) (.buy c n) = (some (Mu47.bought s c n), [((s.drawer.getD c 0 + n : Nat) : Int)]) := (if_neg (Nat.not_le.mpr c1)).trans (if_neg (by rintro (z | z | z); exact c2 z; exact c3 z; exact c4 z))
      rw [e] at k
      have n1 := (n0.setI (Mu47.alter s.drawer c fun (k : Nat) => k + n)).setC (Mu47.alter s.came c fun (k : Nat) => k + n)
      refine ⟨_, rfl, x, p.dx, _, rfl, n0.at_.ins, dF_bring .., _, rfl, _, rfl, x, _, p, s, c, n, rfl, n0.at_, c1, c1c, ?_⟩
      refine ⟨_, rfl, x, C, p.dx, _, _, rfl, n1.at_.ins, T.cl, T.nI, dF_inside .., _, rfl, p.i, _, _, _, rfl, rfl, SqL.of (xs := numV (Mu47.alter s.drawer c fun (k : Nat) => k + n)) n1.at_.hI, atI_nat (numV_get (alter_get c1)), (by show 1 ≤ sizeLine; decide), fun q hq => ?_⟩
      exact Out.new k n1 hq rfl
    · refine if_true_of (by rw [decide_eq_false c1]; rfl) ⟨(by show 1 ≤ sizeLine; decide), fun q hq => ?_⟩
      have e : Mu47.step (some s) (.buy c n) = (some s, [-2]) := if_pos (Nat.le_of_not_lt c1)
      rw [e] at k
      exact Out.new k d.now hq rfl
/-! ### odd_colours -/
def oddTo (s : Mu47.State) (i : Nat) : List Nat := (List.range i).filter fun (c : Nat) => Mu47.have_ s c % 2 == 1
theorem oddTo_yes {s : Mu47.State} {i : Nat} (h : Mu47.have_ s i % 2 = 1) : oddTo s (i + 1) = oddTo s i ++ [i] := by
  unfold oddTo
  rw [List.range_succ, List.filter_append, List.filter_cons_of_pos (by rw [h]; rfl)]
  rfl
theorem oddTo_no {s : Mu47.State} {i : Nat} (h : ¬ Mu47.have_ s i % 2 = 1) : oddTo s (i + 1) = oddTo s i := by
  unfold oddTo
  rw [List.range_succ, List.filter_append, List.filter_cons_of_neg (by rw [beq_iff_eq]; exact h)]
  exact List.append_nil _
theorem len_oddTo (s : Mu47.State) (i : Nat) : (oddTo s i).length ≤ i := by
  unfold oddTo
  have := List.length_filter_le (fun (c : Nat) => Mu47.have_ s c % 2 == 1) (List.range i)
  rw [List.length_range] at this
  exact this
def spOdd (C : Addr) : Sp := fun vs H Q _ => ∃ (x : Addr) (p : At) (s : Mu47.State), vs = [.ref x] ∧ DrawerAt C H x true p s ∧ Inv s ∧
  ∀ (H' : Hp) (q : Addr), Same H H' → H q = none → H' q = some (.lst (numV (Mu47.odd s))) → Q (.ref q) H'
abbrev nOdd : List Str := ["drawer", "colour", "count"]
theorem scOdd : FnScope nOdd ["drawer"] (defScope sOdd) := ⟨rfl, rfl, rfl, by decide +kernel, rfl, by decide +kernel, by decide +kernel⟩
theorem ok_odd {f fN : Addr} {fd fdN : FuncData} (F : Fun K "odd_colours" "odd_colours" sOdd f fd) (T : Txt K C) (mEnum : mg "enumerate" = none)
    (GN : FnOk P w K mg base CX0 2 fN fdN ["self"] (spNot C)) (mN : Meth K C "not_lost" fN) (bN : Binds K fdN ["self"] []) :
    FnOk P w K mg base CX0 3 f fd ["drawer"] (spOdd C) := by
  refine F.ok scOdd (fun vs H Q E h => ?_) (fun cdv A outer s H vs Q E hr h => ?_)
  · obtain ⟨x, p, s, rfl, _⟩ := h
    rfl
  · obtain ⟨x, p, s, rfl, d, iv, k⟩ := h
    have l5 := iv.few
    refine ⟨_, pss_one (ps_ret
      (pe_lc (own := [("colour", 1), ("count", 2)]) (g := gTup K 2 (gCons (gName 1) (gCons (gName 2) gNil))) rfl scOdd.nd (pi_enum (by rfl) mEnum (pa_cons (pe_meth0 (pv 0) T.cl mN GN hr bN .nil pass0) pa_nil)) (blkOk_by (N := nOdd) (sc := defScope sOdd) (by decide +kernel))
        (fun _ _ _ _ _ => pg_tup rfl (pgs_cons (pg_name (i := 1) scOdd.nd rfl (Or.inl rfl)) (pgs_cons (pg_name (i := 2) scOdd.nd rfl (Or.inl rfl)) pgs_nil)))
        (fun _ _ _ _ _ => pts_one (pt_cmpR op_eq (pe_op op_mod (pv 2) pe_int) pe_int (nomark _))) (fun _ _ _ _ _ => pv 1))), ?_⟩
    refine ⟨_, rfl, x, p.dx, _, rfl, d.ins, dF_notLost .., x, _, p, s, rfl, d, iv.worn, iv.wash, by omega, fun H1 t s1 nt ht => ?_⟩
    have ht : H1 t = some (.lst (numV (counts s))) := ht
    refine ⟨t, _, rfl, SqL.of ht, fun D hD => ?_⟩
    refine lc_it (walk_enum (K := K) (a := t) (xs := numV (counts s))) (fun i H' => Same H1 H' ∧ H' D = some (.lst (numV (oddTo s i)))) ⟨Same.fresh (Same.refl H1) hD, upd_same⟩ (fun i H' _ h => SqL.of (h.1 _ _ ht)) ?_ ?_
    · rintro i y H2 H3 hi ⟨s2, h2⟩ ⟨T2, u, v, rfl, nT, rfl, eu, ev⟩
      rw [numV_length, len_counts iv] at hi
      obtain rfl : V.int ((i : Nat) : Int) = u := Option.some.inj eu
      obtain rfl : V.int ((Mu47.have_ s i : Nat) : Int) = v := Option.some.inj ((numV_get (get_counts iv hi)).symm.trans ev)
      refine ⟨T2, _, rfl, SqT.of upd_same, rfl, _, _, rfl, _, _, rfl, rfl, ?_⟩
      refine ⟨rfl, ?_⟩
      have hz : (numV (oddTo s i)).length < sizeLine := by
        rw [numV_length]
        exact small1000 (Nat.le_trans (len_oddTo s i) (by omega))
      refine ⟨_, rfl, _, _, rfl, rfl, (by show (0 : Int) < 2; decide), rfl, _, rfl, ?_⟩
      by_cases c : Mu47.have_ s i % 2 = 1
      · refine if_true_of (decide_eq_true ?_) ⟨_, rfl, _, (upd_ne (ne_of_none h2 nT)).trans h2, hz, Same.new (Same.fresh s2 nT) hD, ?_⟩
        · show V.int (((Mu47.have_ s i : Nat) : Int) % 2) = V.int 1
          rw [show ((Mu47.have_ s i : Nat) : Int) % 2 = 1 by omega]
        · rw [upd_same, oddTo_yes c, numV_append]
          rfl
      · refine if_false_of (decide_eq_false ?_) ⟨Same.fresh s2 nT, ?_⟩
        · intro z
          have z : ((Mu47.have_ s i : Nat) : Int) % 2 = 1 := by injection z
          omega
        · rw [oddTo_no c, upd_ne (ne_of_none h2 nT)]
          exact h2
    · rintro H2 ⟨s2, h2⟩
      rw [numV_length, len_counts iv] at h2
      exact k H2 D (s1.trans s2) (s1.free hD) h2
/-! ### odd -/
theorem nums_cons (l : List Nat) (n : Nat) : intV (Mu47.nums (n :: l)) = [V.int (n : Int)] ++ numV l := by
  rw [numV_map]
  rfl
abbrev spTellOdd (C : Addr) : Sp := spAct C 0 fun _ => .odd
theorem scTellOdd : FnScope ["drawer", "colours"] ["drawer"] (defScope sTellOdd) := ⟨rfl, rfl, rfl, by decide +kernel, rfl, by decide +kernel, by decide +kernel⟩
theorem ok_tellOdd {f fO : Addr} {fd fdO : FuncData} (F : Fun K "tell_odd" "tell_odd" sTellOdd f fd) (mLen : mg "len" = none)
    (GO : FnOk P w K mg base CX0 3 fO fdO ["drawer"] (spOdd C)) (kO : PySem.W.keepIn K (.ref fO) = true) (bO : Binds K fdO ["drawer"] []) (gO : mg "odd_colours" = some (.ref fO)) :
    FnOk P w K mg base CX0 4 f fd ["drawer"] (spTellOdd C) := by
  refine F.ok scTellOdd (fun vs H Q E h => ?_) (fun cdv A outer s H vs Q E hr h => ?_)
  · obtain ⟨x, p, s, a, ha, rfl, _⟩ := h
    rw [List.length_cons, numV_length, ha]
    rfl
  · obtain ⟨x, p, s, a, ha, rfl, d, iv, k⟩ := h
    obtain rfl : a = [] := List.eq_nil_of_length_eq_zero ha
    have l5 := iv.few
    have lo := len_odd (s := s)
    refine ⟨_, pss_cons (ps_set (i := 1) scTellOdd.nd rfl (Or.inl rfl) (pe_call GO hr rfl gO kO bO .nil pass0 (pa_cons (pv 0) pa_nil)))
      (pss_one (ps_ret (pe_op op_cat (pe_lst (pa_cons (pe_callB call_len_seq (by rfl) mLen PySem.boot_len (pa_cons (pv 1) pa_nil)) pa_nil)) (pv 1)))), ?_⟩
    refine ⟨_, rfl, x, p, s, rfl, d, iv, fun H1 t s1 nt ht => ?_⟩
    have n0 := d.now.same s1
    refine ⟨_, rfl, t, _, rfl, .inl (SqL.of ht), (by show 1 ≤ sizeLine; decide), fun u hu => ⟨_, rfl, u, t, _, _, rfl, rfl, upd_same, (upd_ne (ne_of_none ht hu)).trans ht, ?_, fun q hq => ?_⟩⟩
    · rw [numV_length]
      exact small (by show 1 + _ ≤ 1000; omega)
    · have e : Mu47.step (some s) .odd = (some s, Mu47.nums ((Mu47.odd s).length :: Mu47.odd s)) := rfl
      rw [e] at k
      refine Out.new k (n0.fresh hu) hq ?_
      rw [nums_cons, numV_length]
/-! ### mend -/
abbrev spMend (C : Addr) : Sp := spAct C 0 fun _ => .mend
abbrev nMend : List Str := ["drawer", "colours", "colour"]
theorem scMend : FnScope nMend ["drawer"] (defScope sMend) := ⟨rfl, rfl, rfl, by decide +kernel, rfl, by decide +kernel, by decide +kernel⟩
def mended (s : Mu47.State) (i : Nat) : Mu47.State := ((Mu47.odd s).take i).foldl (fun (t : Mu47.State) (c : Nat) => Mu47.bought t c 1) s
theorem mended_more {s : Mu47.State} {i c : Nat} (h : (Mu47.odd s)[i]? = some c) : mended s (i + 1) = Mu47.bought (mended s i) c 1 := by
  unfold mended
  rw [take_more h, List.foldl_append]
  rfl
theorem len_bought (l : List Nat) : ∀ s : Mu47.State, (l.foldl (fun (t : Mu47.State) (c : Nat) => Mu47.bought t c 1) s).drawer.length = s.drawer.length ∧ (l.foldl (fun (t : Mu47.State) (c : Nat) => Mu47.bought t c 1) s).came.length = s.came.length := by
  induction l with
  | nil => exact fun s => ⟨rfl, rfl⟩
  | cons a r ih =>
    intro s
    obtain ⟨h1, h2⟩ := ih (Mu47.bought s a 1)
    refine ⟨h1.trans ?_, h2.trans ?_⟩
    · exact len_alter ..
    · exact len_alter ..
theorem ok_mend {f fO fN fB : Addr} {fd fdO fdN fdB : FuncData} (F : Fun K "mend" "mend" sMend f fd) (T : Txt K C) (N : Nums mg) (mLen : mg "len" = none) (mSum : mg "sum" = none)
    (GO : FnOk P w K mg base CX0 3 fO fdO ["drawer"] (spOdd C)) (kO : PySem.W.keepIn K (.ref fO) = true) (bO : Binds K fdO ["drawer"] []) (gO : mg "odd_colours" = some (.ref fO))
    (GN : FnOk P w K mg base CX0 2 fN fdN ["self"] (spNot C)) (mN : Meth K C "not_lost" fN) (bN : Binds K fdN ["self"] [])
    (GB : FnOk P w K mg base CX0 1 fB fdB ["self", "colour", "n"] (spBring C)) (mB : Meth K C "bring" fB) (bB : Binds K fdB ["self", "colour", "n"] []) :
    FnOk P w K mg base CX0 4 f fd ["drawer"] (spMend C) := by
  refine F.ok scMend (fun vs H Q E h => ?_) (fun cdv A outer s H vs Q E hr h => ?_)
  · obtain ⟨x, p, s, a, ha, rfl, _⟩ := h
    rw [List.length_cons, numV_length, ha]
    rfl
  · obtain ⟨x, p, s, a, ha, rfl, d, iv, k⟩ := h
    obtain rfl : a = [] := List.eq_nil_of_length_eq_zero ha
    have k : Out C H x (p.fp x) (Mu47.step (some s) .mend).1 (Mu47.step (some s) .mend).2 Q := k
    have l5 := iv.few
    have lo := len_odd (s := s)
    have hr1 : Room 1 _ := hr.mono (by decide)
    have hr2 : Room 2 _ := hr.mono (by decide)
    refine ⟨_, pss_cons (ps_set (i := 1) scMend.nd rfl (Or.inl rfl) (pe_call GO hr rfl gO kO bO .nil pass0 (pa_cons (pv 0) pa_nil)))
      (pss_cons (ps_if (pt_cmpR op_gt (pe_op op_add (pe_callB (cr_sum rfl) (by rfl) mSum (by decide +kernel) (pa_cons (pe_meth0 (pv 0) T.cl mN GN hr2 bN .nil pass0) pa_nil)) (pe_callB call_len_seq (by rfl) mLen PySem.boot_len (pa_cons (pv 1) pa_nil))) (pe_num N.mostSocks (by rfl)) (nomark _)) (pss_one (ps_ret (pe_lst (pa_cons (pe_num N.notGranted (by rfl)) pa_nil)))) pss_nil)
      (pss_cons (ps_for PassesOwn.never rfl (pi_list (pv 1)) (pg_name (i := 2) scMend.nd rfl (Or.inl rfl))
        (pss_one (ps_expr (pe_meth (pv 0) T.cl mB GB hr1 bB .nil pass0 (pa_cons (pv 2) (pa_cons pe_int pa_nil))))))
      (pss_one (ps_ret (pe_lst (pa_cons (pe_callB call_len_seq (by rfl) mLen PySem.boot_len (pa_cons (pv 1) pa_nil)) pa_nil)))))), ?_⟩
    refine ⟨_, rfl, x, p, s, rfl, d, iv, fun H1 t s1 nt ht => ?_⟩
    have d1 := d.same s1
    refine ⟨_, rfl, x, p.dx, _, rfl, d1.ins, dF_notLost .., x, _, p, s, rfl, d1, iv.worn, iv.wash, by omega, fun H2 u s2 nu hu => ?_⟩
    have hu : H2 u = some (.lst (numV (counts s))) := hu
    have ht2 := s2 _ _ ht
    have d2 := d1.same s2
    have tfp : t ∉ p.fp x := fun z => by
      obtain ⟨u, hu⟩ := d.trk z
      rw [nt] at hu
      cases hu
    refine ⟨u, _, rfl, sq_sum hu, _, rfl, t, _, rfl, .inl (SqL.of ht2), _, _, rfl, rfl, _, _, rfl, rfl, _, rfl, ?_⟩
    rw [sum_cast, sum_counts iv, numV_length]
    by_cases c1 : 24 < Mu47.all s + (Mu47.odd s).length
    · refine if_true_of (decide_eq_true (by omega)) ⟨(by show 1 ≤ sizeLine; decide), fun q hq => ?_⟩
      have e : Mu47.step (some s) .mend = (some s, [-1]) := if_pos c1
      rw [e] at k
      exact Out.new k (d.now.same (s1.trans s2)) hq rfl
    refine if_false_of (decide_eq_false (by omega)) ?_
    have e : Mu47.step (some s) .mend = (some ((Mu47.odd s).foldl (fun (t : Mu47.State) (c : Nat) => Mu47.bought t c 1) s), [((Mu47.odd s).length : Int)]) := if_neg c1
    rw [e] at k
    refine ⟨_, rfl, t, rfl, ⟨_, SqL.of ht2⟩, ?_⟩
    refine for_list (K := K) (a := t) (xs := numV (Mu47.odd s)) (fun i σ H' => ∃ v : Option V, σ = [some (.ref x), some (.ref t), v] ∧ Now C H2 x (p.fp x) H' true p (mended s i)) ⟨none, rfl, d2.now⟩ ?_ ?_ ?_
    · rintro i σ H' _ ⟨v, rfl, n⟩
      exact SqL.of (n.mv.keep _ _ ht2 tfp)
    · rintro i y σ H' hi ⟨v, rfl, n⟩
      obtain ⟨c, hc, rfl⟩ := get_numV hi
      have lc := mem_odd (List.mem_of_getElem? hc)
      obtain ⟨lb1, lb2⟩ := len_bought ((Mu47.odd s).take i) s
      refine ⟨_, rfl, x, p.dx, _, rfl, n.at_.ins, dF_bring .., _, rfl, x, _, p, mended s i, c, 1, rfl, n.at_, ?_, ?_, some (.int (c : Int)), rfl, ?_⟩
      · unfold mended
        rw [lb1]
        exact lc
      · unfold mended
        rw [lb2, iv.came]
        exact lc
      · rw [mended_more hc]
        exact (n.setI (Mu47.alter (mended s i).drawer c fun (k : Nat) => k + 1)).setC (Mu47.alter (mended s i).came c fun (k : Nat) => k + 1)
    · rintro σ H' ⟨v, rfl, n⟩
      rw [numV_length] at n
      refine ⟨_, rfl, t, _, rfl, .inl (SqL.of (n.mv.keep _ _ ht2 tfp)), (by show 1 ≤ sizeLine; decide), fun q hq => ?_⟩
      have n := n.from (s1.trans s2)
      unfold mended at n
      rw [List.take_length] at n
      refine Out.new k n hq ?_
      rw [numV_length]
      rfl
/-! ### look -/
abbrev spLook (C : Addr) : Sp := spAct C 0 fun _ => .look
theorem scLook : FnScope ["drawer"] ["drawer"] (defScope sLook) := ⟨rfl, rfl, rfl, by decide +kernel, rfl, by decide +kernel, by decide +kernel⟩
theorem ok_look {f : Addr} {fd : FuncData} (F : Fun K "tell_look" "tell_look" sLook f fd) (T : Txt K C) : FnOk P w K mg base CX0 1 f fd ["drawer"] (spLook C) := by
  refine F.ok scLook (fun vs H Q E h => ?_) (fun cdv A outer s H vs Q E hr h => ?_)
  · obtain ⟨x, p, s, a, ha, rfl, _⟩ := h
    rw [List.length_cons, numV_length, ha]
    rfl
  · obtain ⟨x, p, s, a, ha, rfl, d, iv, k⟩ := h
    obtain rfl : a = [] := List.eq_nil_of_length_eq_zero ha
    have k : Out C H x (p.fp x) (some s) (Mu47.nums (s.drawer ++ (s.worn ++ (s.wash ++ (s.lost ++ s.came))))) Q := k
    have l1 := iv.worn
    have l2 := iv.wash
    have l3 := iv.lost
    have l4 := iv.came
    have l5 := iv.few
    refine ⟨_, pss_one (ps_ret (pe_op op_cat (pe_op op_cat (pe_op op_cat (pe_op op_cat (pe_fld (pv 0) rfl) (pe_fld (pv 0) rfl)) (pe_fld (pv 0) rfl)) (pe_fld (pv 0) rfl)) (pe_fld (pv 0) rfl))), ?_⟩
    refine ⟨_, rfl, x, C, p.dx, _, _, rfl, d.ins, T.cl, T.nI, dF_inside .., _, rfl, x, C, p.dx, _, _, rfl, d.ins, T.cl, T.nN, dF_worn .., p.i, p.n, _, _, rfl, rfl, d.hI, d.hN, small (by rw [numV_length, numV_length]; omega), fun t1 ht1 => ?_⟩
    rw [← numV_append]
    have n1 := d.now.fresh (o := .lst (numV (s.drawer ++ s.worn))) ht1
    refine ⟨_, rfl, x, C, p.dx, _, _, rfl, n1.at_.ins, T.cl, T.nW, dF_washing .., t1, p.w, _, _, rfl, rfl, upd_same, n1.at_.hW, small (by rw [numV_length, numV_length, List.length_append]; omega), fun t2 ht2 => ?_⟩
    rw [← numV_append]
    have n2 := n1.fresh (o := .lst (numV (s.drawer ++ s.worn ++ s.wash))) ht2
    refine ⟨_, rfl, x, C, p.dx, _, _, rfl, n2.at_.ins, T.cl, T.nL, dF_lost .., t2, p.l, _, _, rfl, rfl, upd_same, n2.at_.hL, small (by rw [numV_length, numV_length, List.length_append, List.length_append]; omega), fun t3 ht3 => ?_⟩
    rw [← numV_append]
    have n3 := n2.fresh (o := .lst (numV (s.drawer ++ s.worn ++ s.wash ++ s.lost))) ht3
    refine ⟨_, rfl, x, C, p.dx, _, _, rfl, n3.at_.ins, T.cl, T.nC, dF_come .., t3, p.c, _, _, rfl, rfl, upd_same, n3.at_.hC, small (by rw [numV_length, numV_length, List.length_append, List.length_append, List.length_append]; omega), fun t4 ht4 => ?_⟩
    rw [← numV_append]
    refine Out.new k n3 ht4 ?_
    rw [numV_map, List.append_assoc, List.append_assoc, List.append_assoc]
    rfl
end
end Sk

set_option Elab.async false
set_option maxRecDepth 100000
set_option maxHeartbeats 4000000
namespace Sk
open PySem PySem.Spec PyProof.Rows L2
abbrev sCall : Stmt := top 54
theorem nope {a b : Int} (h : a ≠ b) : decide (V.int a = V.int b) = false := decide_eq_false fun e => h (by injection e)
/-- the calls' numbers -/
structure Codes (mg : Str → Option Value) : Prop where
  begin_ : ∃ t, mg "BEGIN" = some (.int 0 t)
  surely : ∃ t, mg "SURELY" = some (.int 1 t)
  colour : ∃ t, mg "COLOUR" = some (.int 2 t)
  chance : ∃ t, mg "CHANCE" = some (.int 3 t)
  average : ∃ t, mg "AVERAGE" = some (.int 4 t)
  until_ : ∃ t, mg "UNTIL" = some (.int 5 t)
  wear : ∃ t, mg "WEAR" = some (.int 6 t)
  undress : ∃ t, mg "UNDRESS" = some (.int 7 t)
  wash : ∃ t, mg "WASH" = some (.int 8 t)
  lose : ∃ t, mg "LOSE" = some (.int 9 t)
  buy : ∃ t, mg "BUY" = some (.int 10 t)
  odd : ∃ t, mg "ODD" = some (.int 11 t)
  mend : ∃ t, mg "MEND" = some (.int 12 t)
/-- a def of the module that keeps a promise -/
def Has (P : Program) (w : World) (K : PySem.W.Frag) (mg : Str → Option Value) (base : Heap) (x : Str) (k : Nat) (ps : List Str) (sp : Sp) : Prop :=
  ∃ (f : Addr) (fd : FuncData), mg x = some (.ref f) ∧ PySem.W.keepIn K (.ref f) = true ∧ Binds K fd ps [] ∧ FnOk P w K mg base CX0 k f fd ps sp
section
variable {P : Program} {w : World} {K : PySem.W.Frag} {mg : Str → Option Value} {base : Heap} {C : Addr}
theorem scCall : FnScope ["drawer", "number", "handed"] ["drawer", "number", "handed"] (defScope sCall) := ⟨rfl, rfl, rfl, by decide +kernel, rfl, by decide +kernel, by decide +kernel⟩
theorem ok_call {f : Addr} {fd : FuncData} (F : Fun K "answer_call" "answer_call" sCall f fd) (T : Txt K C) (N : Nums mg) (M : Codes mg)
    (D0 : Has P w K mg base "begin" 2 ["drawer", "socks"] (spBegin C))
    (D1 : Has P w K mg base "tell_surely" 5 ["drawer", "pairs"] (spSurely C))
    (D2 : Has P w K mg base "tell_colour" 2 ["drawer", "colour"] (spColour C))
    (D3 : Has P w K mg base "tell_chance" 5 ["drawer", "socks", "pairs"] (spTChance C))
    (D4 : Has P w K mg base "tell_average" 5 ["drawer", "socks"] (spTAverage C))
    (D5 : Has P w K mg base "tell_until" 5 ["drawer", "pairs"] (spTUntil C))
    (D6 : Has P w K mg base "wear" 2 ["drawer", "colour"] (spWear C))
    (D7 : Has P w K mg base "undress" 2 ["drawer"] (spUndress C))
    (D8 : Has P w K mg base "wash" 2 ["drawer"] (spWash C))
    (D9 : Has P w K mg base "lose" 2 ["drawer", "place", "colour"] (spLose C))
    (D10 : Has P w K mg base "buy" 3 ["drawer", "colour", "n"] (spBuy C))
    (D11 : Has P w K mg base "tell_odd" 4 ["drawer"] (spTellOdd C))
    (D12 : Has P w K mg base "mend" 4 ["drawer"] (spMend C))
    (D13 : Has P w K mg base "tell_look" 1 ["drawer"] (spLook C))
    : FnOk P w K mg base CX0 6 f fd ["drawer", "number", "handed"] (spCall (lies C)) := by
  obtain ⟨f0, fd0, g0, k0, b0, G0⟩ := D0
  obtain ⟨f1, fd1, g1, k1, b1, G1⟩ := D1
  obtain ⟨f2, fd2, g2, k2, b2, G2⟩ := D2
  obtain ⟨f3, fd3, g3, k3, b3, G3⟩ := D3
  obtain ⟨f4, fd4, g4, k4, b4, G4⟩ := D4
  obtain ⟨f5, fd5, g5, k5, b5, G5⟩ := D5
  obtain ⟨f6, fd6, g6, k6, b6, G6⟩ := D6
  obtain ⟨f7, fd7, g7, k7, b7, G7⟩ := D7
  obtain ⟨f8, fd8, g8, k8, b8, G8⟩ := D8
  obtain ⟨f9, fd9, g9, k9, b9, G9⟩ := D9
  obtain ⟨f10, fd10, g10, k10, b10, G10⟩ := D10
  obtain ⟨f11, fd11, g11, k11, b11, G11⟩ := D11
  obtain ⟨f12, fd12, g12, k12, b12, G12⟩ := D12
  obtain ⟨f13, fd13, g13, k13, b13, G13⟩ := D13
  refine F.ok scCall (fun vs H Q E h => ?_) (fun cdv A outer s H vs Q E hr h => ?_)
  · obtain ⟨x, h, fp, o, n, l, m, rfl, _⟩ := h
    rfl
  · obtain ⟨x, h, fp, o, n, l, m, rfl, ⟨p, rfl, d⟩, iv, r, hh, hfp, k⟩ := h
    have k : Out C H x (p.fp x) (Mu47.step o m).1 (Mu47.step o m).2 Q := k
    have hr1 : Room 1 _ := hr.mono (by decide)
    have hr2 : Room 2 _ := hr.mono (by decide)
    have hr3 : Room 3 _ := hr.mono (by decide)
    have hr4 : Room 4 _ := hr.mono (by decide)
    refine ⟨_, pss_cons (ps_if (pt_cmpR op_eq (pv 1) (pe_num M.begin_ (by rfl)) (nomark _)) (pss_one (ps_ret (pe_call G0 hr2 rfl g0 k0 b0 .nil pass0 (pa_cons (pv 0) (pa_cons (pv 2) pa_nil))))) pss_nil)
      (pss_cons (ps_if (pt_not (pt_val (pe_fld (pv 0) rfl))) (pss_one (ps_ret (pe_lst (pa_cons (pe_num N.noDrawer (by rfl)) pa_nil)))) pss_nil)
      (pss_cons (ps_if (pt_cmpR op_eq (pv 1) (pe_num M.surely (by rfl)) (nomark _)) (pss_one (ps_ret (pe_call G1 hr rfl g1 k1 b1 .nil pass0 (pa_cons (pv 0) (pa_cons (pe_ix ix_list (pv 2) pe_int (fun _ _ => rfl)) pa_nil))))) pss_nil)
      (pss_cons (ps_if (pt_cmpR op_eq (pv 1) (pe_num M.colour (by rfl)) (nomark _)) (pss_one (ps_ret (pe_call G2 hr2 rfl g2 k2 b2 .nil pass0 (pa_cons (pv 0) (pa_cons (pe_ix ix_list (pv 2) pe_int (fun _ _ => rfl)) pa_nil))))) pss_nil)
      (pss_cons (ps_if (pt_cmpR op_eq (pv 1) (pe_num M.chance (by rfl)) (nomark _)) (pss_one (ps_ret (pe_call G3 hr rfl g3 k3 b3 .nil pass0 (pa_cons (pv 0) (pa_cons (pe_ix ix_list (pv 2) pe_int (fun _ _ => rfl)) (pa_cons (pe_ix ix_list (pv 2) pe_int (fun _ _ => rfl)) pa_nil)))))) pss_nil)
      (pss_cons (ps_if (pt_cmpR op_eq (pv 1) (pe_num M.average (by rfl)) (nomark _)) (pss_one (ps_ret (pe_call G4 hr rfl g4 k4 b4 .nil pass0 (pa_cons (pv 0) (pa_cons (pe_ix ix_list (pv 2) pe_int (fun _ _ => rfl)) pa_nil))))) pss_nil)
      (pss_cons (ps_if (pt_cmpR op_eq (pv 1) (pe_num M.until_ (by rfl)) (nomark _)) (pss_one (ps_ret (pe_call G5 hr rfl g5 k5 b5 .nil pass0 (pa_cons (pv 0) (pa_cons (pe_ix ix_list (pv 2) pe_int (fun _ _ => rfl)) pa_nil))))) pss_nil)
      (pss_cons (ps_if (pt_cmpR op_eq (pv 1) (pe_num M.wear (by rfl)) (nomark _)) (pss_one (ps_ret (pe_call G6 hr2 rfl g6 k6 b6 .nil pass0 (pa_cons (pv 0) (pa_cons (pe_ix ix_list (pv 2) pe_int (fun _ _ => rfl)) pa_nil))))) pss_nil)
      (pss_cons (ps_if (pt_cmpR op_eq (pv 1) (pe_num M.undress (by rfl)) (nomark _)) (pss_one (ps_ret (pe_call G7 hr2 rfl g7 k7 b7 .nil pass0 (pa_cons (pv 0) pa_nil)))) pss_nil)
      (pss_cons (ps_if (pt_cmpR op_eq (pv 1) (pe_num M.wash (by rfl)) (nomark _)) (pss_one (ps_ret (pe_call G8 hr2 rfl g8 k8 b8 .nil pass0 (pa_cons (pv 0) pa_nil)))) pss_nil)
      (pss_cons (ps_if (pt_cmpR op_eq (pv 1) (pe_num M.lose (by rfl)) (nomark _)) (pss_one (ps_ret (pe_call G9 hr2 rfl g9 k9 b9 .nil pass0 (pa_cons (pv 0) (pa_cons (pe_ix ix_list (pv 2) pe_int (fun _ _ => rfl)) (pa_cons (pe_ix ix_list (pv 2) pe_int (fun _ _ => rfl)) pa_nil)))))) pss_nil)
      (pss_cons (ps_if (pt_cmpR op_eq (pv 1) (pe_num M.buy (by rfl)) (nomark _)) (pss_one (ps_ret (pe_call G10 hr3 rfl g10 k10 b10 .nil pass0 (pa_cons (pv 0) (pa_cons (pe_ix ix_list (pv 2) pe_int (fun _ _ => rfl)) (pa_cons (pe_ix ix_list (pv 2) pe_int (fun _ _ => rfl)) pa_nil)))))) pss_nil)
      (pss_cons (ps_if (pt_cmpR op_eq (pv 1) (pe_num M.odd (by rfl)) (nomark _)) (pss_one (ps_ret (pe_call G11 hr4 rfl g11 k11 b11 .nil pass0 (pa_cons (pv 0) pa_nil)))) pss_nil)
      (pss_cons (ps_if (pt_cmpR op_eq (pv 1) (pe_num M.mend (by rfl)) (nomark _)) (pss_one (ps_ret (pe_call G12 hr4 rfl g12 k12 b12 .nil pass0 (pa_cons (pv 0) pa_nil)))) pss_nil)
      (pss_one (ps_ret (pe_call G13 hr1 rfl g13 k13 b13 .nil pass0 (pa_cons (pv 0) pa_nil))))))))))))))))), ?_⟩
    cases r with
    | begin_ l h8 hl =>
      refine ⟨_, rfl, rfl, _, rfl, if_true_of (decide_eq_true rfl) ?_⟩
      exact ⟨_, rfl, _, rfl, x, h, p, o, _, rfl, d, hh, hfp, h8, k⟩
    | surely v hv =>
      refine ⟨_, rfl, rfl, _, rfl, if_false_of (nope (by decide)) ?_⟩
      refine ⟨_, rfl, x, C, p.dx, _, _, rfl, d.ins, T.cl, T.nT, dF_there .., _, rfl, ?_⟩
      cases o with
      | none => exact if_true_of rfl ⟨(by show 1 ≤ sizeLine; decide), fun q hq => Out.new (o := none) k d.now hq rfl⟩
      | some s =>
        refine if_false_of rfl ?_
        refine ⟨_, rfl, rfl, _, rfl, if_true_of (decide_eq_true rfl) ?_⟩
        have h24 : s.drawer.sum ≤ 24 := Nat.le_trans (Nat.le_trans (Nat.le_add_right _ _) (Nat.le_add_right _ _)) (Inv.all iv)
        exact ⟨_, rfl, _, rfl, h, _, _, _, rfl, rfl, SqL.of hh, atI_nat (j := 0) rfl, x, s.drawer, [v], rfl, rfl, d.sees, h24, Inv.few iv, fun H' q s1 nq e => Out.told (o := some s) k d.now s1 nq e⟩
    | colour v hv =>
      refine ⟨_, rfl, rfl, _, rfl, if_false_of (nope (by decide)) ?_⟩
      refine ⟨_, rfl, x, C, p.dx, _, _, rfl, d.ins, T.cl, T.nT, dF_there .., _, rfl, ?_⟩
      cases o with
      | none => exact if_true_of rfl ⟨(by show 1 ≤ sizeLine; decide), fun q hq => Out.new (o := none) k d.now hq rfl⟩
      | some s =>
        refine if_false_of rfl ?_
        iterate 1 (refine ⟨_, rfl, rfl, _, rfl, if_false_of (nope (by decide)) ?_⟩)
        refine ⟨_, rfl, rfl, _, rfl, if_true_of (decide_eq_true rfl) ?_⟩
        have h24 : s.drawer.sum ≤ 24 := Nat.le_trans (Nat.le_trans (Nat.le_add_right _ _) (Nat.le_add_right _ _)) (Inv.all iv)
        exact ⟨_, rfl, _, rfl, h, _, _, _, rfl, rfl, SqL.of hh, atI_nat (j := 0) rfl, x, s.drawer, [v], rfl, rfl, d.sees, h24, Inv.few iv, fun H' q s1 nq e => Out.told (o := some s) k d.now s1 nq e⟩
    | chance v u hv hu =>
      refine ⟨_, rfl, rfl, _, rfl, if_false_of (nope (by decide)) ?_⟩
      refine ⟨_, rfl, x, C, p.dx, _, _, rfl, d.ins, T.cl, T.nT, dF_there .., _, rfl, ?_⟩
      cases o with
      | none => exact if_true_of rfl ⟨(by show 1 ≤ sizeLine; decide), fun q hq => Out.new (o := none) k d.now hq rfl⟩
      | some s =>
        refine if_false_of rfl ?_
        iterate 2 (refine ⟨_, rfl, rfl, _, rfl, if_false_of (nope (by decide)) ?_⟩)
        refine ⟨_, rfl, rfl, _, rfl, if_true_of (decide_eq_true rfl) ?_⟩
        have h24 : s.drawer.sum ≤ 24 := Nat.le_trans (Nat.le_trans (Nat.le_add_right _ _) (Nat.le_add_right _ _)) (Inv.all iv)
        exact ⟨_, rfl, _, rfl, h, _, _, _, rfl, rfl, SqL.of hh, atI_nat (j := 0) rfl, _, rfl, h, _, _, _, rfl, rfl, SqL.of hh, atI_nat (j := 1) rfl, x, s.drawer, [v, u], rfl, rfl, d.sees, h24, Inv.few iv, fun H' q s1 nq e => Out.told (o := some s) k d.now s1 nq e⟩
    | average v hv =>
      refine ⟨_, rfl, rfl, _, rfl, if_false_of (nope (by decide)) ?_⟩
      refine ⟨_, rfl, x, C, p.dx, _, _, rfl, d.ins, T.cl, T.nT, dF_there .., _, rfl, ?_⟩
      cases o with
      | none => exact if_true_of rfl ⟨(by show 1 ≤ sizeLine; decide), fun q hq => Out.new (o := none) k d.now hq rfl⟩
      | some s =>
        refine if_false_of rfl ?_
        iterate 3 (refine ⟨_, rfl, rfl, _, rfl, if_false_of (nope (by decide)) ?_⟩)
        refine ⟨_, rfl, rfl, _, rfl, if_true_of (decide_eq_true rfl) ?_⟩
        have h24 : s.drawer.sum ≤ 24 := Nat.le_trans (Nat.le_trans (Nat.le_add_right _ _) (Nat.le_add_right _ _)) (Inv.all iv)
        exact ⟨_, rfl, _, rfl, h, _, _, _, rfl, rfl, SqL.of hh, atI_nat (j := 0) rfl, x, s.drawer, [v], rfl, rfl, d.sees, h24, Inv.few iv, fun H' q s1 nq e => Out.told (o := some s) k d.now s1 nq e⟩
    | «until» v hv =>
      refine ⟨_, rfl, rfl, _, rfl, if_false_of (nope (by decide)) ?_⟩
      refine ⟨_, rfl, x, C, p.dx, _, _, rfl, d.ins, T.cl, T.nT, dF_there .., _, rfl, ?_⟩
      cases o with
      | none => exact if_true_of rfl ⟨(by show 1 ≤ sizeLine; decide), fun q hq => Out.new (o := none) k d.now hq rfl⟩
      | some s =>
        refine if_false_of rfl ?_
        iterate 4 (refine ⟨_, rfl, rfl, _, rfl, if_false_of (nope (by decide)) ?_⟩)
        refine ⟨_, rfl, rfl, _, rfl, if_true_of (decide_eq_true rfl) ?_⟩
        have h24 : s.drawer.sum ≤ 24 := Nat.le_trans (Nat.le_trans (Nat.le_add_right _ _) (Nat.le_add_right _ _)) (Inv.all iv)
        exact ⟨_, rfl, _, rfl, h, _, _, _, rfl, rfl, SqL.of hh, atI_nat (j := 0) rfl, x, s.drawer, [v], rfl, rfl, d.sees, h24, Inv.few iv, fun H' q s1 nq e => Out.told (o := some s) k d.now s1 nq e⟩
    | wear v hv =>
      refine ⟨_, rfl, rfl, _, rfl, if_false_of (nope (by decide)) ?_⟩
      refine ⟨_, rfl, x, C, p.dx, _, _, rfl, d.ins, T.cl, T.nT, dF_there .., _, rfl, ?_⟩
      cases o with
      | none => exact if_true_of rfl ⟨(by show 1 ≤ sizeLine; decide), fun q hq => Out.new (o := none) k d.now hq rfl⟩
      | some s =>
        refine if_false_of rfl ?_
        iterate 5 (refine ⟨_, rfl, rfl, _, rfl, if_false_of (nope (by decide)) ?_⟩)
        refine ⟨_, rfl, rfl, _, rfl, if_true_of (decide_eq_true rfl) ?_⟩
        exact ⟨_, rfl, _, rfl, h, _, _, _, rfl, rfl, SqL.of hh, atI_nat (j := 0) rfl, x, p, s, [v], rfl, rfl, d, iv, k⟩
    | undress  =>
      refine ⟨_, rfl, rfl, _, rfl, if_false_of (nope (by decide)) ?_⟩
      refine ⟨_, rfl, x, C, p.dx, _, _, rfl, d.ins, T.cl, T.nT, dF_there .., _, rfl, ?_⟩
      cases o with
      | none => exact if_true_of rfl ⟨(by show 1 ≤ sizeLine; decide), fun q hq => Out.new (o := none) k d.now hq rfl⟩
      | some s =>
        refine if_false_of rfl ?_
        iterate 6 (refine ⟨_, rfl, rfl, _, rfl, if_false_of (nope (by decide)) ?_⟩)
        refine ⟨_, rfl, rfl, _, rfl, if_true_of (decide_eq_true rfl) ?_⟩
        exact ⟨_, rfl, x, p, s, [], rfl, rfl, d, iv, k⟩
    | wash  =>
      refine ⟨_, rfl, rfl, _, rfl, if_false_of (nope (by decide)) ?_⟩
      refine ⟨_, rfl, x, C, p.dx, _, _, rfl, d.ins, T.cl, T.nT, dF_there .., _, rfl, ?_⟩
      cases o with
      | none => exact if_true_of rfl ⟨(by show 1 ≤ sizeLine; decide), fun q hq => Out.new (o := none) k d.now hq rfl⟩
      | some s =>
        refine if_false_of rfl ?_
        iterate 7 (refine ⟨_, rfl, rfl, _, rfl, if_false_of (nope (by decide)) ?_⟩)
        refine ⟨_, rfl, rfl, _, rfl, if_true_of (decide_eq_true rfl) ?_⟩
        exact ⟨_, rfl, x, p, s, [], rfl, rfl, d, iv, k⟩
    | lose v u hv hu =>
      refine ⟨_, rfl, rfl, _, rfl, if_false_of (nope (by decide)) ?_⟩
      refine ⟨_, rfl, x, C, p.dx, _, _, rfl, d.ins, T.cl, T.nT, dF_there .., _, rfl, ?_⟩
      cases o with
      | none => exact if_true_of rfl ⟨(by show 1 ≤ sizeLine; decide), fun q hq => Out.new (o := none) k d.now hq rfl⟩
      | some s =>
        refine if_false_of rfl ?_
        iterate 8 (refine ⟨_, rfl, rfl, _, rfl, if_false_of (nope (by decide)) ?_⟩)
        refine ⟨_, rfl, rfl, _, rfl, if_true_of (decide_eq_true rfl) ?_⟩
        exact ⟨_, rfl, _, rfl, h, _, _, _, rfl, rfl, SqL.of hh, atI_nat (j := 0) rfl, _, rfl, h, _, _, _, rfl, rfl, SqL.of hh, atI_nat (j := 1) rfl, x, p, s, [v, u], rfl, rfl, d, iv, k⟩
    | buy v u hv hu =>
      refine ⟨_, rfl, rfl, _, rfl, if_false_of (nope (by decide)) ?_⟩
      refine ⟨_, rfl, x, C, p.dx, _, _, rfl, d.ins, T.cl, T.nT, dF_there .., _, rfl, ?_⟩
      cases o with
      | none => exact if_true_of rfl ⟨(by show 1 ≤ sizeLine; decide), fun q hq => Out.new (o := none) k d.now hq rfl⟩
      | some s =>
        refine if_false_of rfl ?_
        iterate 9 (refine ⟨_, rfl, rfl, _, rfl, if_false_of (nope (by decide)) ?_⟩)
        refine ⟨_, rfl, rfl, _, rfl, if_true_of (decide_eq_true rfl) ?_⟩
        exact ⟨_, rfl, _, rfl, h, _, _, _, rfl, rfl, SqL.of hh, atI_nat (j := 0) rfl, _, rfl, h, _, _, _, rfl, rfl, SqL.of hh, atI_nat (j := 1) rfl, x, p, s, [v, u], rfl, rfl, d, iv, k⟩
    | odd  =>
      refine ⟨_, rfl, rfl, _, rfl, if_false_of (nope (by decide)) ?_⟩
      refine ⟨_, rfl, x, C, p.dx, _, _, rfl, d.ins, T.cl, T.nT, dF_there .., _, rfl, ?_⟩
      cases o with
      | none => exact if_true_of rfl ⟨(by show 1 ≤ sizeLine; decide), fun q hq => Out.new (o := none) k d.now hq rfl⟩
      | some s =>
        refine if_false_of rfl ?_
        iterate 10 (refine ⟨_, rfl, rfl, _, rfl, if_false_of (nope (by decide)) ?_⟩)
        refine ⟨_, rfl, rfl, _, rfl, if_true_of (decide_eq_true rfl) ?_⟩
        exact ⟨_, rfl, x, p, s, [], rfl, rfl, d, iv, k⟩
    | mend  =>
      refine ⟨_, rfl, rfl, _, rfl, if_false_of (nope (by decide)) ?_⟩
      refine ⟨_, rfl, x, C, p.dx, _, _, rfl, d.ins, T.cl, T.nT, dF_there .., _, rfl, ?_⟩
      cases o with
      | none => exact if_true_of rfl ⟨(by show 1 ≤ sizeLine; decide), fun q hq => Out.new (o := none) k d.now hq rfl⟩
      | some s =>
        refine if_false_of rfl ?_
        iterate 11 (refine ⟨_, rfl, rfl, _, rfl, if_false_of (nope (by decide)) ?_⟩)
        refine ⟨_, rfl, rfl, _, rfl, if_true_of (decide_eq_true rfl) ?_⟩
        exact ⟨_, rfl, x, p, s, [], rfl, rfl, d, iv, k⟩
    | look  =>
      refine ⟨_, rfl, rfl, _, rfl, if_false_of (nope (by decide)) ?_⟩
      refine ⟨_, rfl, x, C, p.dx, _, _, rfl, d.ins, T.cl, T.nT, dF_there .., _, rfl, ?_⟩
      cases o with
      | none => exact if_true_of rfl ⟨(by show 1 ≤ sizeLine; decide), fun q hq => Out.new (o := none) k d.now hq rfl⟩
      | some s =>
        refine if_false_of rfl ?_
        iterate 12 (refine ⟨_, rfl, rfl, _, rfl, if_false_of (nope (by decide)) ?_⟩)
        exact ⟨_, rfl, x, p, s, [], rfl, rfl, d, iv, k⟩
end
end Sk

set_option Elab.async false
set_option maxRecDepth 100000
set_option maxHeartbeats 4000000
namespace Sk
open PySem PySem.Spec PyProof.Rows L2
section
variable {P : Program} {w : World} {K : PySem.W.Frag} {mg : Str → Option Value} {h : Heap}
/-- a def of the top -/
theorem def_ex {x : Str} {st : Stmt} {f : Addr} {od an : Option Addr} {sl : Array (Option Value)} {oc kV dc pm cd ct : Value} (X : K.In h) (G : h.Ns mainGlobals mg)
    (a : PySem.W.nsIn K mainGlobals x = some (some (.ref f))) (l : K.lookup f = some ⟨oc, od, .func (PySem.W.fnOf x x (defArgs st) (defBody st) (defScope st) .none kV dc pm an cd ct), sl⟩) (c : PySem.W.codeIn K cd x = true) (k : PySem.W.keepIn K (.ref f) = true) :
    ∃ f fd, mg x = some (.ref f) ∧ Fun K x x st f fd := ⟨f, _, PySem.W.mg_of X G a, fun_mk l c k⟩
/-- a method -/
theorem meth_ex {x q : Str} {st : Stmt} {C f : Addr} {od an : Option Addr} {sl : Array (Option Value)} {oc kV dc pm cd ct : Value}
    (a : PySem.W.findIn K (.ref C) x = some (some (.ref f))) (i : PySem.W.isFn K (.ref f) = true) (l : K.lookup f = some ⟨oc, od, .func (PySem.W.fnOf x q (defArgs st) (defBody st) (defScope st) .none kV dc pm an cd ct), sl⟩) (c : PySem.W.codeIn K cd q = true) (k : PySem.W.keepIn K (.ref f) = true) :
    ∃ f fd, Meth K C x f ∧ Fun K x q st f fd := ⟨f, _, ⟨a, i, k⟩, fun_mk l c k⟩
theorem glob_ex {x : Str} {i : Int} {t : Tok} (X : K.In h) (G : h.Ns mainGlobals mg) (a : PySem.W.nsIn K mainGlobals x = some (some (.int i t))) : ∃ t, mg x = some (.int i t) := ⟨t, PySem.W.mg_of X G a⟩
theorem free_ex {x : Str} (X : K.In h) (G : h.Ns mainGlobals mg) (a : PySem.W.nsIn K mainGlobals x = some none) : mg x = none := PySem.W.mg_none_of X G a
theorem tup_ex {x : Str} {f : Addr} {od : Option Addr} {n : Nat} {its : Array Value} {sl : Array (Option Value)} {xs : List V} (X : K.In h) (G : h.Ns mainGlobals mg) (a : PySem.W.nsIn K mainGlobals x = some (some (.ref f))) (l : K.lookup f = some ⟨.type "tuple", od, .seq its n, sl⟩)
    (hz : its.size ≤ sizeLine) (v : Vals xs its.toList) : ∃ f, mg x = some (.ref f) ∧ ∀ H, SqT K H f xs := ⟨f, PySem.W.mg_of X G a, fun H => .inr ⟨_, its, n, l, rfl, rfl, hz, v⟩⟩
/-- all of it, from what the top has written -/
theorem whole {fa C : Addr} (X : K.In h) (G : h.Ns mainGlobals mg) (hfa : mg "answers" = some (.ref fa))
    (aC : PySem.W.nsIn K mainGlobals "Drawer" = some (some (.ref C)))
    (pg : PySem.W.plainGet K C Str.empty = true) (hd : PySem.W.hasDictIn K C = true) (po : PySem.W.plainOver K C = true) (sa : PySem.W.findIn K (.ref C) "__setattr__" = some (some (.builtin "object.__setattr__"))) (mk : PySem.W.makesIn K C = true) (kc : PySem.W.keepIn K (.ref C) = true)
    (n0 : PySem.W.findIn K (.ref C) "there" = some none)
    (n1 : PySem.W.findIn K (.ref C) "inside" = some none)
    (n2 : PySem.W.findIn K (.ref C) "worn" = some none)
    (n3 : PySem.W.findIn K (.ref C) "washing" = some none)
    (n4 : PySem.W.findIn K (.ref C) "lost" = some none)
    (n5 : PySem.W.findIn K (.ref C) "come" = some none)
    (m0 : ∃ f fd, Meth K C "__init__" f ∧ Fun K "__init__" "Drawer.__init__" sInit f fd)
    (m1 : ∃ f fd, Meth K C "fill" f ∧ Fun K "fill" "Drawer.fill" sFill f fd)
    (m2 : ∃ f fd, Meth K C "has_colour" f ∧ Fun K "has_colour" "Drawer.has_colour" sHas f fd)
    (m3 : ∃ f fd, Meth K C "places" f ∧ Fun K "places" "Drawer.places" sPlaces f fd)
    (m4 : ∃ f fd, Meth K C "not_lost" f ∧ Fun K "not_lost" "Drawer.not_lost" sNot f fd)
    (m5 : ∃ f fd, Meth K C "bring" f ∧ Fun K "bring" "Drawer.bring" sBring f fd)
    (d0 : ∃ f fd, mg "pairs_of" = some (.ref f) ∧ Fun K "pairs_of" "pairs_of" sPairsOf f fd)
    (d1 : ∃ f fd, mg "choices" = some (.ref f) ∧ Fun K "choices" "choices" sChoices f fd)
    (d2 : ∃ f fd, mg "empty_table" = some (.ref f) ∧ Fun K "empty_table" "empty_table" sEmptyTable f fd)
    (d3 : ∃ f fd, mg "with_colour" = some (.ref f) ∧ Fun K "with_colour" "with_colour" sWithColour f fd)
    (d4 : ∃ f fd, mg "draw_table" = some (.ref f) ∧ Fun K "draw_table" "draw_table" sDrawTable f fd)
    (d5 : ∃ f fd, mg "common_divisor" = some (.ref f) ∧ Fun K "common_divisor" "common_divisor" sCommonDivisor f fd)
    (d6 : ∃ f fd, mg "fraction" = some (.ref f) ∧ Fun K "fraction" "fraction" sFraction f fd)
    (d7 : ∃ f fd, mg "add_fractions" = some (.ref f) ∧ Fun K "add_fractions" "add_fractions" sAddFractions f fd)
    (d8 : ∃ f fd, mg "fewest_for" = some (.ref f) ∧ Fun K "fewest_for" "fewest_for" sFewestFor f fd)
    (d9 : ∃ f fd, mg "chance_of" = some (.ref f) ∧ Fun K "chance_of" "chance_of" sChanceOf f fd)
    (d10 : ∃ f fd, mg "average_pairs" = some (.ref f) ∧ Fun K "average_pairs" "average_pairs" sAveragePairs f fd)
    (d11 : ∃ f fd, mg "average_draws" = some (.ref f) ∧ Fun K "average_draws" "average_draws" sAverageDraws f fd)
    (d12 : ∃ f fd, mg "add_rows" = some (.ref f) ∧ Fun K "add_rows" "add_rows" sAdd f fd)
    (d13 : ∃ f fd, mg "may_begin" = some (.ref f) ∧ Fun K "may_begin" "may_begin" sMay f fd)
    (d14 : ∃ f fd, mg "begin" = some (.ref f) ∧ Fun K "begin" "begin" sBegin f fd)
    (d15 : ∃ f fd, mg "tell_surely" = some (.ref f) ∧ Fun K "tell_surely" "tell_surely" sSurely f fd)
    (d16 : ∃ f fd, mg "tell_colour" = some (.ref f) ∧ Fun K "tell_colour" "tell_colour" sColour f fd)
    (d17 : ∃ f fd, mg "tell_chance" = some (.ref f) ∧ Fun K "tell_chance" "tell_chance" sChance f fd)
    (d18 : ∃ f fd, mg "tell_average" = some (.ref f) ∧ Fun K "tell_average" "tell_average" sAverage f fd)
    (d19 : ∃ f fd, mg "tell_until" = some (.ref f) ∧ Fun K "tell_until" "tell_until" sUntil f fd)
    (d20 : ∃ f fd, mg "wear" = some (.ref f) ∧ Fun K "wear" "wear" sWear f fd)
    (d21 : ∃ f fd, mg "undress" = some (.ref f) ∧ Fun K "undress" "undress" sUndress f fd)
    (d22 : ∃ f fd, mg "wash" = some (.ref f) ∧ Fun K "wash" "wash" sWash f fd)
    (d23 : ∃ f fd, mg "lose" = some (.ref f) ∧ Fun K "lose" "lose" sLose f fd)
    (d24 : ∃ f fd, mg "buy" = some (.ref f) ∧ Fun K "buy" "buy" sBuy f fd)
    (d25 : ∃ f fd, mg "odd_colours" = some (.ref f) ∧ Fun K "odd_colours" "odd_colours" sOdd f fd)
    (d26 : ∃ f fd, mg "tell_odd" = some (.ref f) ∧ Fun K "tell_odd" "tell_odd" sTellOdd f fd)
    (d27 : ∃ f fd, mg "mend" = some (.ref f) ∧ Fun K "mend" "mend" sMend f fd)
    (d28 : ∃ f fd, mg "tell_look" = some (.ref f) ∧ Fun K "tell_look" "tell_look" sLook f fd)
    (d29 : ∃ f fd, mg "answer_call" = some (.ref f) ∧ Fun K "answer_call" "answer_call" sCall f fd)
    (d30 : ∃ f fd, mg "split_calls" = some (.ref f) ∧ Fun K "split_calls" "split_calls" sSplit f fd)
    (d31 : ∃ f fd, mg "answers" = some (.ref f) ∧ Fun K "answers" "answers" sAns f fd)
    (c0 : ∃ t, mg "BEGIN" = some (.int 0 t))
    (c1 : ∃ t, mg "SURELY" = some (.int 1 t))
    (c2 : ∃ t, mg "COLOUR" = some (.int 2 t))
    (c3 : ∃ t, mg "CHANCE" = some (.int 3 t))
    (c4 : ∃ t, mg "AVERAGE" = some (.int 4 t))
    (c5 : ∃ t, mg "UNTIL" = some (.int 5 t))
    (c6 : ∃ t, mg "WEAR" = some (.int 6 t))
    (c7 : ∃ t, mg "UNDRESS" = some (.int 7 t))
    (c8 : ∃ t, mg "WASH" = some (.int 8 t))
    (c9 : ∃ t, mg "LOSE" = some (.int 9 t))
    (c10 : ∃ t, mg "BUY" = some (.int 10 t))
    (c11 : ∃ t, mg "ODD" = some (.int 11 t))
    (c12 : ∃ t, mg "MEND" = some (.int 12 t))
    (u0 : ∃ t, mg "NOT_GRANTED" = some (.int (-1) t))
    (u1 : ∃ t, mg "NO_COLOUR" = some (.int (-2) t))
    (u2 : ∃ t, mg "NOT_THERE" = some (.int (-6) t))
    (u3 : ∃ t, mg "NO_DRAWER" = some (.int (-9) t))
    (u4 : ∃ t, mg "MOST_COLOURS" = some (.int (5) t))
    (u5 : ∃ t, mg "MOST_OF_COLOUR" = some (.int (8) t))
    (u6 : ∃ t, mg "MOST_SOCKS" = some (.int (24) t))
    (u7 : ∃ t, mg "MOST_PAIRS" = some (.int (12) t))
    (e0 : mg "sum" = none)
    (e1 : mg "len" = none)
    (e2 : mg "range" = none)
    (e3 : mg "list" = none)
    (e4 : mg "zip" = none)
    (e5 : mg "enumerate" = none)
    (e6 : mg "max" = none)
    (t0 : ∃ f, mg "HANDED" = some (.ref f) ∧ ∀ H, SqT K H f (numV handed)) :
    ∃ fd : FuncData, (∀ (s : Shared) (us : List Value), us.length = (["calls"] : List Str).length → BindsTo s fd ⟨us, []⟩ ((["calls"] : List Str).zip us)) ∧ ∀ base : Heap, K.In base → base.Ns mainGlobals mg → FnOk P w K mg base CX0 7 fa fd ["calls"] (spAns K) := by
  have T : Txt K C := ⟨⟨pg, hd, po, sa⟩, n0, n1, n2, n3, n4, n5⟩
  have gC := PySem.W.mg_of X G aC
  have N : Nums mg := ⟨u0, u1, u2, u3, u4, u5, u6, u7⟩
  have Mc : Codes mg := ⟨c0, c1, c2, c3, c4, c5, c6, c7, c8, c9, c10, c11, c12⟩
  obtain ⟨fm0, fdm0, mm0, Fm0⟩ := m0
  have bm0 := Fm0.binds (ps := ["self"]) fun _ _ _ _ _ _ us hl => match us, hl with | [_], _ => rfl
  obtain ⟨fm1, fdm1, mm1, Fm1⟩ := m1
  have bm1 := Fm1.binds (ps := ["self", "socks"]) fun _ _ _ _ _ _ us hl => match us, hl with | [_, _], _ => rfl
  obtain ⟨fm2, fdm2, mm2, Fm2⟩ := m2
  have bm2 := Fm2.binds (ps := ["self", "colour"]) fun _ _ _ _ _ _ us hl => match us, hl with | [_, _], _ => rfl
  obtain ⟨fm3, fdm3, mm3, Fm3⟩ := m3
  have bm3 := Fm3.binds (ps := ["self"]) fun _ _ _ _ _ _ us hl => match us, hl with | [_], _ => rfl
  obtain ⟨fm4, fdm4, mm4, Fm4⟩ := m4
  have bm4 := Fm4.binds (ps := ["self"]) fun _ _ _ _ _ _ us hl => match us, hl with | [_], _ => rfl
  obtain ⟨fm5, fdm5, mm5, Fm5⟩ := m5
  have bm5 := Fm5.binds (ps := ["self", "colour", "n"]) fun _ _ _ _ _ _ us hl => match us, hl with | [_, _, _], _ => rfl
  obtain ⟨f0, fd0, g0, F0⟩ := d0
  have b0 := F0.binds (ps := ["inside"]) fun _ _ _ _ _ _ us hl => match us, hl with | [_], _ => rfl
  obtain ⟨f1, fd1, g1, F1⟩ := d1
  have b1 := F1.binds (ps := ["count", "taken"]) fun _ _ _ _ _ _ us hl => match us, hl with | [_, _], _ => rfl
  obtain ⟨f2, fd2, g2, F2⟩ := d2
  have b2 := F2.binds (ps := ["rows", "width"]) fun _ _ _ _ _ _ us hl => match us, hl with | [_, _], _ => rfl
  obtain ⟨f3, fd3, g3, F3⟩ := d3
  have b3 := F3.binds (ps := ["ways", "count"]) fun _ _ _ _ _ _ us hl => match us, hl with | [_, _], _ => rfl
  obtain ⟨f4, fd4, g4, F4⟩ := d4
  have b4 := F4.binds (ps := ["inside"]) fun _ _ _ _ _ _ us hl => match us, hl with | [_], _ => rfl
  obtain ⟨f5, fd5, g5, F5⟩ := d5
  have b5 := F5.binds (ps := ["one", "other"]) fun _ _ _ _ _ _ us hl => match us, hl with | [_, _], _ => rfl
  obtain ⟨f6, fd6, g6, F6⟩ := d6
  have b6 := F6.binds (ps := ["divided", "by"]) fun _ _ _ _ _ _ us hl => match us, hl with | [_, _], _ => rfl
  obtain ⟨f7, fd7, g7, F7⟩ := d7
  have b7 := F7.binds (ps := ["one", "other"]) fun _ _ _ _ _ _ us hl => match us, hl with | [_, _], _ => rfl
  obtain ⟨f8, fd8, g8, F8⟩ := d8
  have b8 := F8.binds (ps := ["inside", "pairs"]) fun _ _ _ _ _ _ us hl => match us, hl with | [_, _], _ => rfl
  obtain ⟨f9, fd9, g9, F9⟩ := d9
  have b9 := F9.binds (ps := ["inside", "socks", "pairs"]) fun _ _ _ _ _ _ us hl => match us, hl with | [_, _, _], _ => rfl
  obtain ⟨f10, fd10, g10, F10⟩ := d10
  have b10 := F10.binds (ps := ["inside", "socks"]) fun _ _ _ _ _ _ us hl => match us, hl with | [_, _], _ => rfl
  obtain ⟨f11, fd11, g11, F11⟩ := d11
  have b11 := F11.binds (ps := ["inside", "pairs"]) fun _ _ _ _ _ _ us hl => match us, hl with | [_, _], _ => rfl
  obtain ⟨f12, fd12, g12, F12⟩ := d12
  have b12 := F12.binds (ps := ["one", "other"]) fun _ _ _ _ _ _ us hl => match us, hl with | [_, _], _ => rfl
  obtain ⟨f13, fd13, g13, F13⟩ := d13
  have b13 := F13.binds (ps := ["socks"]) fun _ _ _ _ _ _ us hl => match us, hl with | [_], _ => rfl
  obtain ⟨f14, fd14, g14, F14⟩ := d14
  have b14 := F14.binds (ps := ["drawer", "socks"]) fun _ _ _ _ _ _ us hl => match us, hl with | [_, _], _ => rfl
  obtain ⟨f15, fd15, g15, F15⟩ := d15
  have b15 := F15.binds (ps := ["drawer", "pairs"]) fun _ _ _ _ _ _ us hl => match us, hl with | [_, _], _ => rfl
  obtain ⟨f16, fd16, g16, F16⟩ := d16
  have b16 := F16.binds (ps := ["drawer", "colour"]) fun _ _ _ _ _ _ us hl => match us, hl with | [_, _], _ => rfl
  obtain ⟨f17, fd17, g17, F17⟩ := d17
  have b17 := F17.binds (ps := ["drawer", "socks", "pairs"]) fun _ _ _ _ _ _ us hl => match us, hl with | [_, _, _], _ => rfl
  obtain ⟨f18, fd18, g18, F18⟩ := d18
  have b18 := F18.binds (ps := ["drawer", "socks"]) fun _ _ _ _ _ _ us hl => match us, hl with | [_, _], _ => rfl
  obtain ⟨f19, fd19, g19, F19⟩ := d19
  have b19 := F19.binds (ps := ["drawer", "pairs"]) fun _ _ _ _ _ _ us hl => match us, hl with | [_, _], _ => rfl
  obtain ⟨f20, fd20, g20, F20⟩ := d20
  have b20 := F20.binds (ps := ["drawer", "colour"]) fun _ _ _ _ _ _ us hl => match us, hl with | [_, _], _ => rfl
  obtain ⟨f21, fd21, g21, F21⟩ := d21
  have b21 := F21.binds (ps := ["drawer"]) fun _ _ _ _ _ _ us hl => match us, hl with | [_], _ => rfl
  obtain ⟨f22, fd22, g22, F22⟩ := d22
  have b22 := F22.binds (ps := ["drawer"]) fun _ _ _ _ _ _ us hl => match us, hl with | [_], _ => rfl
  obtain ⟨f23, fd23, g23, F23⟩ := d23
  have b23 := F23.binds (ps := ["drawer", "place", "colour"]) fun _ _ _ _ _ _ us hl => match us, hl with | [_, _, _], _ => rfl
  obtain ⟨f24, fd24, g24, F24⟩ := d24
  have b24 := F24.binds (ps := ["drawer", "colour", "n"]) fun _ _ _ _ _ _ us hl => match us, hl with | [_, _, _], _ => rfl
  obtain ⟨f25, fd25, g25, F25⟩ := d25
  have b25 := F25.binds (ps := ["drawer"]) fun _ _ _ _ _ _ us hl => match us, hl with | [_], _ => rfl
  obtain ⟨f26, fd26, g26, F26⟩ := d26
  have b26 := F26.binds (ps := ["drawer"]) fun _ _ _ _ _ _ us hl => match us, hl with | [_], _ => rfl
  obtain ⟨f27, fd27, g27, F27⟩ := d27
  have b27 := F27.binds (ps := ["drawer"]) fun _ _ _ _ _ _ us hl => match us, hl with | [_], _ => rfl
  obtain ⟨f28, fd28, g28, F28⟩ := d28
  have b28 := F28.binds (ps := ["drawer"]) fun _ _ _ _ _ _ us hl => match us, hl with | [_], _ => rfl
  obtain ⟨f29, fd29, g29, F29⟩ := d29
  have b29 := F29.binds (ps := ["drawer", "number", "handed"]) fun _ _ _ _ _ _ us hl => match us, hl with | [_, _, _], _ => rfl
  obtain ⟨f30, fd30, g30, F30⟩ := d30
  have b30 := F30.binds (ps := ["calls"]) fun _ _ _ _ _ _ us hl => match us, hl with | [_], _ => rfl
  obtain ⟨f31, fd31, g31, F31⟩ := d31
  have b31 := F31.binds (ps := ["calls"]) fun _ _ _ _ _ _ us hl => match us, hl with | [_], _ => rfl
  obtain ⟨aH, gH, hH⟩ := t0
  obtain ⟨tB, gB⟩ := c0
  have e := hfa.symm.trans g31
  cases e
  obtain ⟨oc, od, kV, doc, pm, an, cdv, ct, osl, e, _⟩ := F31.ex
  refine ⟨fd31, fun s us hu => ?_, fun base _ _ => ?_⟩
  · subst e
    exact match us, hu with | [_], _ => .of_eq rfl
  have G0 : FnOk P w K mg base CX0 1 f0 fd0 ["inside"] (spPairsOf K) := ok_pairs_of F0 e0
  have G3 : FnOk P w K mg base CX0 2 f3 fd3 ["ways", "count"] spWith := ok_with F3 e2 e1 F2 b2 g2 F1 b1 g1
  have G4 : FnOk P w K mg base CX0 3 f4 fd4 ["inside"] (spDraw K) := ok_draw F4 G3 F3.kp b3 g3
  have G6 : FnOk P w K mg base CX0 2 f6 fd6 ["divided", "by"] spFrac := ok_frac F6 F5 b5 g5
  have G7 : FnOk P w K mg base CX0 3 f7 fd7 ["one", "other"] (spAddF K) := ok_addF F7 G6 F6.kp b6 g6
  have G8 : FnOk P w K mg base CX0 4 f8 fd8 ["inside", "pairs"] (spFewest K) := ok_fewest F8 e0 G4 F4.kp b4 g4
  have G9 : FnOk P w K mg base CX0 4 f9 fd9 ["inside", "socks", "pairs"] (spChance K) := ok_chance F9 e0 G4 F4.kp b4 g4 G6 F6.kp b6 g6
  have G10 : FnOk P w K mg base CX0 4 f10 fd10 ["inside", "socks"] (spAverage K) := ok_average F10 e0 e5 G4 F4.kp b4 g4 G6 F6.kp b6 g6
  have G11 : FnOk P w K mg base CX0 4 f11 fd11 ["inside", "pairs"] (spUntil K) := ok_until F11 e0 G4 F4.kp b4 g4 G6 F6.kp b6 g6 G7 F7.kp b7 g7
  have G12 : FnOk P w K mg base CX0 1 f12 fd12 ["one", "other"] (spAdd K) := ok_add F12 e4
  have H0 : FnOk P w K mg base CX0 1 fm0 fdm0 ["self"] (spInit C (lies C)) := ok_init Fm0 T
  have H1 : FnOk P w K mg base CX0 1 fm1 fdm1 ["self", "socks"] (spFill C) := ok_fill Fm1 T e1 e3
  have H2 : FnOk P w K mg base CX0 1 fm2 fdm2 ["self", "colour"] (spHas C) := ok_has Fm2 T.cl T.nI e1
  have H3 : FnOk P w K mg base CX0 1 fm3 fdm3 ["self"] (spPlaces C) := ok_places Fm3 T
  have H4 : FnOk P w K mg base CX0 2 fm4 fdm4 ["self"] (spNot C) := ok_not Fm4 T G12 F12.kp b12 g12
  have H5 : FnOk P w K mg base CX0 1 fm5 fdm5 ["self", "colour", "n"] (spBring C) := ok_bring Fm5 T
  have G13 : FnOk P w K mg base CX0 1 f13 fd13 ["socks"] (spMay K) := ok_may F13 N e1 e0 e6
  have G25 : FnOk P w K mg base CX0 3 f25 fd25 ["drawer"] (spOdd C) := ok_odd F25 T e5 H4 mm4 bm4
  have GA : FnOk P w K mg base CX0 6 f29 fd29 ["drawer", "number", "handed"] (spCall (lies C)) := ok_call F29 T N Mc
    ⟨f14, fd14, g14, F14.kp, b14, ok_begin F14 T N G13 F13.kp b13 g13 H1 mm1 bm1⟩
    ⟨f15, fd15, g15, F15.kp, b15, ok_surely F15 T.cl T.nI N G0 F0.kp b0 g0 G8 F8.kp b8 g8⟩
    ⟨f16, fd16, g16, F16.kp, b16, ok_colour F16 T.cl T.nI N e0 H2 mm2 bm2⟩
    ⟨f17, fd17, g17, F17.kp, b17, ok_tchance F17 T.cl T.nI N e0 G9 F9.kp b9 g9⟩
    ⟨f18, fd18, g18, F18.kp, b18, ok_taverage F18 T.cl T.nI N e0 G10 F10.kp b10 g10⟩
    ⟨f19, fd19, g19, F19.kp, b19, ok_tuntil F19 T.cl T.nI N G0 F0.kp b0 g0 G11 F11.kp b11 g11⟩
    ⟨f20, fd20, g20, F20.kp, b20, ok_wear F20 T N H2 mm2 bm2⟩
    ⟨f21, fd21, g21, F21.kp, b21, ok_undress F21 T e1 e0 G12 F12.kp b12 g12⟩
    ⟨f22, fd22, g22, F22.kp, b22, ok_wash F22 T e1 e0 G12 F12.kp b12 g12⟩
    ⟨f23, fd23, g23, F23.kp, b23, ok_lose F23 T N e1 H2 mm2 bm2 H3 mm3 bm3⟩
    ⟨f24, fd24, g24, F24.kp, b24, ok_buy F24 T N e0 H2 mm2 bm2 H4 mm4 bm4 H5 mm5 bm5⟩
    ⟨f26, fd26, g26, F26.kp, b26, ok_tellOdd F26 e1 G25 F25.kp b25 g25⟩
    ⟨f27, fd27, g27, F27.kp, b27, ok_mend F27 T N e1 e0 G25 F25.kp b25 g25 H4 mm4 bm4 H5 mm5 bm5⟩
    ⟨f28, fd28, g28, F28.kp, b28, ok_look F28 T⟩
  have GS : FnOk P w K mg base CX0 1 f30 fd30 ["calls"] (spSplit K) := ok_split F30 e1 gB gH hH
  exact ok_ans (lies_ok C) (by decide) F31 e1 ⟨mk, mm0.at_, mm0.fn, kc⟩ H0 bm0 gC GS F30.kp b30 g30 GA F29.kp b29 g29
end
end Sk

set_option Elab.async false
open PySem PySem.W PyProof.Rows
set_option maxRecDepth 100000 in
set_option maxHeartbeats 8000000 in
theorem PySem.Challenge.cw_nightsocks_s01_answers_holds : PySem.Challenge.rw_nightsocks_s01_answers.Holds := by
  w_on; k_headS; (case hw => exact ⟨[.list [.int 7]], by decide +kernel, by decide +kernel⟩)
  k_fillS
  refine L2.walk_specK (r := PySem.Challenge.rw_nightsocks_s01_answers) (k := 7) (CX := L2.CX0) (ps := ["calls"]) (sp := Sk.spAns) (by decide +kernel) rfl rfl ⟨rfl, by decide, by decide⟩ (fun w h Y => PySem.W.kIn_of Y) ?F ?S (fun _ _ _ _ z => z)
  case F =>
    intro w mg fa h Y KX G hmg
    refine' Sk.whole KX G hmg ?aC ?pg ?hd ?po ?sa ?mk ?kc ?n0 ?n1 ?n2 ?n3 ?n4 ?n5 ?m0 ?m1 ?m2 ?m3 ?m4 ?m5 ?d0 ?d1 ?d2 ?d3 ?d4 ?d5 ?d6 ?d7 ?d8 ?d9 ?d10 ?d11 ?d12 ?d13 ?d14 ?d15 ?d16 ?d17 ?d18 ?d19 ?d20 ?d21 ?d22 ?d23 ?d24 ?d25 ?d26 ?d27 ?d28 ?d29 ?d30 ?d31 ?c0 ?c1 ?c2 ?c3 ?c4 ?c5 ?c6 ?c7 ?c8 ?c9 ?c10 ?c11 ?c12 ?u0 ?u1 ?u2 ?u3 ?u4 ?u5 ?u6 ?u7 ?e0 ?e1 ?e2 ?e3 ?e4 ?e5 ?e6 ?t0
    (case aC => k_is)
    (case pg => k_is)
    (case hd => k_is)
    (case po => k_is)
    (case sa => k_is)
    (case mk => k_is)
    (case kc => k_is)
    (case n0 => k_is)
    (case n1 => k_is)
    (case n2 => k_is)
    (case n3 => k_is)
    (case n4 => k_is)
    (case n5 => k_is)
    (case m0 => refine' Sk.meth_ex ?a ?i ?l ?c ?k; (case a => k_is); (case i => k_is); (case l => k_is); (case c => k_is); (case k => k_is))
    (case m1 => refine' Sk.meth_ex ?a ?i ?l ?c ?k; (case a => k_is); (case i => k_is); (case l => k_is); (case c => k_is); (case k => k_is))
    (case m2 => refine' Sk.meth_ex ?a ?i ?l ?c ?k; (case a => k_is); (case i => k_is); (case l => k_is); (case c => k_is); (case k => k_is))
    (case m3 => refine' Sk.meth_ex ?a ?i ?l ?c ?k; (case a => k_is); (case i => k_is); (case l => k_is); (case c => k_is); (case k => k_is))
    (case m4 => refine' Sk.meth_ex ?a ?i ?l ?c ?k; (case a => k_is); (case i => k_is); (case l => k_is); (case c => k_is); (case k => k_is))
    (case m5 => refine' Sk.meth_ex ?a ?i ?l ?c ?k; (case a => k_is); (case i => k_is); (case l => k_is); (case c => k_is); (case k => k_is))
    (case d0 => refine' Sk.def_ex KX G ?a ?l ?c ?k; (case a => k_is); (case l => k_is); (case c => k_is); (case k => k_is))
    (case d1 => refine' Sk.def_ex KX G ?a ?l ?c ?k; (case a => k_is); (case l => k_is); (case c => k_is); (case k => k_is))
    (case d2 => refine' Sk.def_ex KX G ?a ?l ?c ?k; (case a => k_is); (case l => k_is); (case c => k_is); (case k => k_is))
    (case d3 => refine' Sk.def_ex KX G ?a ?l ?c ?k; (case a => k_is); (case l => k_is); (case c => k_is); (case k => k_is))
    (case d4 => refine' Sk.def_ex KX G ?a ?l ?c ?k; (case a => k_is); (case l => k_is); (case c => k_is); (case k => k_is))
    (case d5 => refine' Sk.def_ex KX G ?a ?l ?c ?k; (case a => k_is); (case l => k_is); (case c => k_is); (case k => k_is))
    (case d6 => refine' Sk.def_ex KX G ?a ?l ?c ?k; (case a => k_is); (case l => k_is); (case c => k_is); (case k => k_is))
    (case d7 => refine' Sk.def_ex KX G ?a ?l ?c ?k; (case a => k_is); (case l => k_is); (case c => k_is); (case k => k_is))
    (case d8 => refine' Sk.def_ex KX G ?a ?l ?c ?k; (case a => k_is); (case l => k_is); (case c => k_is); (case k => k_is))
    (case d9 => refine' Sk.def_ex KX G ?a ?l ?c ?k; (case a => k_is); (case l => k_is); (case c => k_is); (case k => k_is))
    (case d10 => refine' Sk.def_ex KX G ?a ?l ?c ?k; (case a => k_is); (case l => k_is); (case c => k_is); (case k => k_is))
    (case d11 => refine' Sk.def_ex KX G ?a ?l ?c ?k; (case a => k_is); (case l => k_is); (case c => k_is); (case k => k_is))
    (case d12 => refine' Sk.def_ex KX G ?a ?l ?c ?k; (case a => k_is); (case l => k_is); (case c => k_is); (case k => k_is))
    (case d13 => refine' Sk.def_ex KX G ?a ?l ?c ?k; (case a => k_is); (case l => k_is); (case c => k_is); (case k => k_is))
    (case d14 => refine' Sk.def_ex KX G ?a ?l ?c ?k; (case a => k_is); (case l => k_is); (case c => k_is); (case k => k_is))
    (case d15 => refine' Sk.def_ex KX G ?a ?l ?c ?k; (case a => k_is); (case l => k_is); (case c => k_is); (case k => k_is))
    (case d16 => refine' Sk.def_ex KX G ?a ?l ?c ?k; (case a => k_is); (case l => k_is); (case c => k_is); (case k => k_is))
    (case d17 => refine' Sk.def_ex KX G ?a ?l ?c ?k; (case a => k_is); (case l => k_is); (case c => k_is); (case k => k_is))
    (case d18 => refine' Sk.def_ex KX G ?a ?l ?c ?k; (case a => k_is); (case l => k_is); (case c => k_is); (case k => k_is))
    (case d19 => refine' Sk.def_ex KX G ?a ?l ?c ?k; (case a => k_is); (case l => k_is); (case c => k_is); (case k => k_is))
    (case d20 => refine' Sk.def_ex KX G ?a ?l ?c ?k; (case a => k_is); (case l => k_is); (case c => k_is); (case k => k_is))
    (case d21 => refine' Sk.def_ex KX G ?a ?l ?c ?k; (case a => k_is); (case l => k_is); (case c => k_is); (case k => k_is))
    (case d22 => refine' Sk.def_ex KX G ?a ?l ?c ?k; (case a => k_is); (case l => k_is); (case c => k_is); (case k => k_is))
    (case d23 => refine' Sk.def_ex KX G ?a ?l ?c ?k; (case a => k_is); (case l => k_is); (case c => k_is); (case k => k_is))
    (case d24 => refine' Sk.def_ex KX G ?a ?l ?c ?k; (case a => k_is); (case l => k_is); (case c => k_is); (case k => k_is))
    (case d25 => refine' Sk.def_ex KX G ?a ?l ?c ?k; (case a => k_is); (case l => k_is); (case c => k_is); (case k => k_is))
    (case d26 => refine' Sk.def_ex KX G ?a ?l ?c ?k; (case a => k_is); (case l => k_is); (case c => k_is); (case k => k_is))
    (case d27 => refine' Sk.def_ex KX G ?a ?l ?c ?k; (case a => k_is); (case l => k_is); (case c => k_is); (case k => k_is))
    (case d28 => refine' Sk.def_ex KX G ?a ?l ?c ?k; (case a => k_is); (case l => k_is); (case c => k_is); (case k => k_is))
    (case d29 => refine' Sk.def_ex KX G ?a ?l ?c ?k; (case a => k_is); (case l => k_is); (case c => k_is); (case k => k_is))
    (case d30 => refine' Sk.def_ex KX G ?a ?l ?c ?k; (case a => k_is); (case l => k_is); (case c => k_is); (case k => k_is))
    (case d31 => refine' Sk.def_ex KX G ?a ?l ?c ?k; (case a => k_is); (case l => k_is); (case c => k_is); (case k => k_is))
    (case c0 => refine' Sk.glob_ex KX G ?a; (case a => k_is))
    (case c1 => refine' Sk.glob_ex KX G ?a; (case a => k_is))
    (case c2 => refine' Sk.glob_ex KX G ?a; (case a => k_is))
    (case c3 => refine' Sk.glob_ex KX G ?a; (case a => k_is))
    (case c4 => refine' Sk.glob_ex KX G ?a; (case a => k_is))
    (case c5 => refine' Sk.glob_ex KX G ?a; (case a => k_is))
    (case c6 => refine' Sk.glob_ex KX G ?a; (case a => k_is))
    (case c7 => refine' Sk.glob_ex KX G ?a; (case a => k_is))
    (case c8 => refine' Sk.glob_ex KX G ?a; (case a => k_is))
    (case c9 => refine' Sk.glob_ex KX G ?a; (case a => k_is))
    (case c10 => refine' Sk.glob_ex KX G ?a; (case a => k_is))
    (case c11 => refine' Sk.glob_ex KX G ?a; (case a => k_is))
    (case c12 => refine' Sk.glob_ex KX G ?a; (case a => k_is))
    (case u0 => refine' Sk.glob_ex KX G ?a; (case a => k_is))
    (case u1 => refine' Sk.glob_ex KX G ?a; (case a => k_is))
    (case u2 => refine' Sk.glob_ex KX G ?a; (case a => k_is))
    (case u3 => refine' Sk.glob_ex KX G ?a; (case a => k_is))
    (case u4 => refine' Sk.glob_ex KX G ?a; (case a => k_is))
    (case u5 => refine' Sk.glob_ex KX G ?a; (case a => k_is))
    (case u6 => refine' Sk.glob_ex KX G ?a; (case a => k_is))
    (case u7 => refine' Sk.glob_ex KX G ?a; (case a => k_is))
    (case e0 => refine' Sk.free_ex KX G ?a; (case a => k_is))
    (case e1 => refine' Sk.free_ex KX G ?a; (case a => k_is))
    (case e2 => refine' Sk.free_ex KX G ?a; (case a => k_is))
    (case e3 => refine' Sk.free_ex KX G ?a; (case a => k_is))
    (case e4 => refine' Sk.free_ex KX G ?a; (case a => k_is))
    (case e5 => refine' Sk.free_ex KX G ?a; (case a => k_is))
    (case e6 => refine' Sk.free_ex KX G ?a; (case a => k_is))
    (case t0 => refine' Sk.tup_ex KX G ?a ?l ?z ?v; (case a => k_is); (case l => k_is); (case z => decide); (case v => repeat (first | exact .nil | refine .cons ⟨_, rfl⟩ ?_)))
  case S =>
    intro K H xs a hO hwi hask hx
    cases hx with
    | cons h1 h2 =>
      cases h2
      cases h1 with
      | lst hs ha =>
        have e := L2.ints_dw a.1 _ ha
        subst e
        have q : ((Codec.inLen 0 600 a.1 && a.1.all (Codec.inInt 0 30)) && true) = true := hwi
        rw [Bool.and_eq_true, Bool.and_eq_true] at q
        exact ⟨_, a.1, rfl, hs, (Codec.inNat_iff.mp q.1.1).2, hask, fun H' p hp => .lst (L2.SqL.of hp) (L2.dw_ints _)⟩
