import PyProof.Rows.All
import Sr59Spec
import PySr59
import Wide.All
import OpenK.AllK
import Wide.FinOn
import Open.SpecLaws
import KE.OsGo
import KE.OsArith
import KE.BitLaws
import HandS.ForSpec
import HandS.ForMost
import HandS.Evl
import HandS.Walk
import HandS.WideBits
import PySem.Challenge.RW_fewcoins_s01_answers
import HandS.Zip
import HandS.Wide
/-! Fractions of the specification: what they come to. -/
namespace Few
open Sr58 (Frac frac plus times total whole)

theorem frac_pos {n : Int} {d : Nat} (hd : 0 < d) : frac n d = ⟨n / (Nat.gcd n.natAbs d : Int), d / Nat.gcd n.natAbs d⟩ := by
  have hg : 0 < Nat.gcd n.natAbs d := Nat.gcd_pos_of_pos_right _ hd
  have hq : 0 < d / Nat.gcd n.natAbs d := Nat.div_pos (Nat.le_of_dvd hd (Nat.gcd_dvd_right _ _)) hg
  unfold frac
  simp only []
  rw [if_neg (by omega), if_neg (by omega)]

theorem frac_d_pos (n : Int) {d : Nat} (hd : 0 < d) : 0 < (frac n d).d := by
  rw [frac_pos hd]
  exact Nat.div_pos (Nat.le_of_dvd hd (Nat.gcd_dvd_right _ _)) (Nat.gcd_pos_of_pos_right _ hd)

theorem frac_cross (n : Int) {d : Nat} (hd : 0 < d) : (frac n d).n * (d : Int) = n * ((frac n d).d : Int) := by
  rw [frac_pos hd]
  show n / (Nat.gcd n.natAbs d : Int) * (d : Int) = n * ((d / Nat.gcd n.natAbs d : Nat) : Int)
  have h1 : (Nat.gcd n.natAbs d : Int) ∣ n := by
    have := Int.ofNat_dvd.mpr (Nat.gcd_dvd_left n.natAbs d)
    exact Int.dvd_natAbs.mp this
  have h2 : Nat.gcd n.natAbs d ∣ d := Nat.gcd_dvd_right _ _
  have hg : 0 < Nat.gcd n.natAbs d := Nat.gcd_pos_of_pos_right _ hd
  obtain ⟨q, hq⟩ := h1
  obtain ⟨e, he⟩ := h2
  generalize Nat.gcd n.natAbs d = g at hq he hg
  subst hq
  subst he
  rw [Int.mul_ediv_cancel_left _ (by omega), Nat.mul_div_cancel_left _ hg]
  grind

theorem frac_mul {c : Nat} (hc : 0 < c) (n : Int) {d : Nat} (hd : 0 < d) : frac ((c : Int) * n) (c * d) = frac n d := by
  have hcd : 0 < c * d := Nat.mul_pos hc hd
  rw [frac_pos hcd, frac_pos hd]
  have e : Nat.gcd ((c : Int) * n).natAbs (c * d) = c * Nat.gcd n.natAbs d := by
    rw [Int.natAbs_mul, Int.natAbs_natCast, Nat.gcd_mul_left]
  rw [e]
  have hg : 0 < Nat.gcd n.natAbs d := Nat.gcd_pos_of_pos_right _ hd
  congr 1
  · rw [Int.natCast_mul, Int.mul_ediv_mul_of_pos _ _ (by omega)]
  · rw [Nat.mul_div_mul_left _ _ hc]

theorem frac_eq {n n' : Int} {d d' : Nat} (hd : 0 < d) (hd' : 0 < d') (h : n * (d' : Int) = n' * (d : Int)) : frac n d = frac n' d' := by
  rw [← frac_mul hd' n hd, ← frac_mul hd n' hd', Nat.mul_comm d' d, Int.mul_comm (d' : Int) n, h, Int.mul_comm n' (d : Int)]

theorem frac_eq_iff {n n' : Int} {d d' : Nat} (hd : 0 < d) (hd' : 0 < d') : frac n d = frac n' d' ↔ n * (d' : Int) = n' * (d : Int) := by
  refine ⟨fun h => ?_, frac_eq hd hd'⟩
  have h1 := frac_cross n hd
  have h2 := frac_cross n' hd'
  rw [← h] at h2
  have h3 := frac_d_pos n hd
  generalize (frac n d).n = p at h1 h2
  generalize (frac n d).d = q at h1 h2 h3
  have h4 : (q : Int) * (n * (d' : Int)) = (q : Int) * (n' * (d : Int)) := by grind
  exact Int.eq_of_mul_eq_mul_left (by omega) h4

theorem plus_frac (n n' : Int) {d d' : Nat} (hd : 0 < d) (hd' : 0 < d') : plus (frac n d) (frac n' d') = frac (n * (d' : Int) + n' * (d : Int)) (d * d') := by
  unfold plus
  have h1 := frac_cross n hd
  have h2 := frac_cross n' hd'
  have h3 := frac_d_pos n hd
  have h4 := frac_d_pos n' hd'
  generalize (frac n d).n = p at h1
  generalize (frac n d).d = q at h1 h3
  generalize (frac n' d').n = p' at h2
  generalize (frac n' d').d = q' at h2 h4
  refine frac_eq (Nat.mul_pos h3 h4) (Nat.mul_pos hd hd') ?_
  rw [Int.natCast_mul, Int.natCast_mul]
  grind

theorem times_frac (n n' : Int) {d d' : Nat} (hd : 0 < d) (hd' : 0 < d') : times (frac n d) (frac n' d') = frac (n * n') (d * d') := by
  unfold times
  have h1 := frac_cross n hd
  have h2 := frac_cross n' hd'
  have h3 := frac_d_pos n hd
  have h4 := frac_d_pos n' hd'
  generalize (frac n d).n = p at h1
  generalize (frac n d).d = q at h1 h3
  generalize (frac n' d').n = p' at h2
  generalize (frac n' d').d = q' at h2 h4
  refine frac_eq (Nat.mul_pos h3 h4) (Nat.mul_pos hd hd') ?_
  rw [Int.natCast_mul, Int.natCast_mul]
  grind

theorem whole_frac (n : Int) : whole n = frac n 1 := by
  rw [frac_pos (by decide)]
  rw [Nat.gcd_one_right]
  show (⟨n, 1⟩ : Frac) = ⟨n / 1, 1⟩
  rw [Int.ediv_one]

theorem whole_zero {d : Nat} (hd : 0 < d) : whole 0 = frac 0 d := by
  rw [whole_frac]
  exact frac_eq (by decide) hd (by simp)

theorem plus_same (n n' : Int) {d : Nat} (hd : 0 < d) : plus (frac n d) (frac n' d) = frac (n + n') d := by
  rw [plus_frac n n' hd hd]
  refine frac_eq (Nat.mul_pos hd hd) hd ?_
  rw [Int.natCast_mul]
  grind

theorem total_from {d : Nat} (hd : 0 < d) : ∀ (l : List Int) (a : Int), (l.map fun n => frac n d).foldl plus (frac a d) = frac (a + l.sum) d
  | [], a => by simp
  | x :: l, a => by
    rw [List.map_cons, List.foldl_cons, plus_same _ _ hd, total_from hd l, List.sum_cons, Int.add_assoc]

theorem total_same {d : Nat} (hd : 0 < d) (l : List Int) : total (l.map fun n => frac n d) = frac l.sum d := by
  unfold total
  rw [whole_zero hd, total_from hd l 0, Int.zero_add]

/-! ### True coins -/
def binom : Nat → Nat → Nat
  | _, 0 => 1
  | 0, _ + 1 => 0
  | n + 1, k + 1 => binom n k + binom n (k + 1)
theorem binom_zero : ∀ n, binom n 0 = 1
  | 0 => rfl
  | _ + 1 => rfl
theorem binom_over : ∀ {n k : Nat}, n < k → binom n k = 0
  | 0, k + 1, _ => rfl
  | n + 1, k + 1, h => by
    show binom n k + binom n (k + 1) = 0
    rw [binom_over (n := n) (k := k) (by omega), binom_over (n := n) (k := k + 1) (by omega)]
theorem binom_succ (n k : Nat) : binom (n + 1) (k + 1) = binom n k + binom n (k + 1) := rfl

theorem two_pos (n : Nat) : 0 < 2 ^ n := Nat.pow_pos (by decide)

theorem likely_true {d : Sr59.Desk} {x : Nat} (h : x / 2 < Sr59.coins d.s) : Sr58.likely (Sr59.trueDesk d) x = frac 1 2 := by
  have e1 : Sr58.laidAt (Sr59.trueDesk d) (x / 2) = none := by
    unfold Sr58.laidAt Sr59.trueDesk
    simp [List.getD_eq_getElem?_getD, h]
  have e2 : (Sr59.trueDesk d).p.getD (x / 2) (whole 0) = Sr58.half := by
    unfold Sr59.trueDesk
    simp [List.getD_eq_getElem?_getD, h]
  unfold Sr58.likely
  rw [e1]
  show Sr58.chance (Sr59.trueDesk d) (x / 2) (x % 2 == 1) = frac 1 2
  unfold Sr58.chance
  simp only [e2]
  cases (x % 2 == 1) <;> decide

theorem times_halves {d : Sr59.Desk} : ∀ (l : List Nat) (b : Nat), 0 < b → (∀ x ∈ l, x / 2 < Sr59.coins d.s) → (l.map (Sr58.likely (Sr59.trueDesk d))).foldl times (frac 1 b) = frac 1 (b * 2 ^ l.length)
  | [], b, _, _ => by simp
  | x :: l, b, hb, h => by
    rw [List.map_cons, List.foldl_cons, likely_true (h x (List.mem_cons_self)), times_frac _ _ hb (by decide), Int.one_mul, times_halves l (b * 2) (by omega) (fun y hy => h y (List.mem_cons_of_mem _ hy)), List.length_cons, Nat.pow_succ, Nat.mul_assoc, Nat.mul_comm 2 (2 ^ l.length)]

theorem likely_all {d : Sr59.Desk} {l : List Nat} (h : ∀ x ∈ l, x < 2 * Sr59.coins d.s) :
    Sr58.likelyTerm (Sr59.trueDesk d) (.all l) = if (l.any fun x => l.contains (Sr58.opposite x)) = true then frac 0 1 else frac 1 (2 ^ l.eraseDups.length) := by
  show Sr58.likelyAll (Sr59.trueDesk d) l = _
  unfold Sr58.likelyAll
  split
  · exact whole_frac 0
  · rw [whole_frac, times_halves _ 1 (by decide), Nat.one_mul]
    intro x hx
    have := h x (List.mem_eraseDups.mp hx)
    omega

theorem spread_at {d : Sr59.Desk} : ∀ (s : List Nat), (∀ x ∈ s, x < Sr59.coins d.s) → Sr58.spread (Sr59.trueDesk d) s = (List.range (s.length + 1)).map fun k => frac (binom s.length k : Nat) (2 ^ s.length)
  | [], _ => by
    show [whole 1] = [frac 1 1]
    rw [whole_frac]
  | i :: s, h => by
    have ih := spread_at s (fun x hx => h x (List.mem_cons_of_mem _ hx))
    have hi : i < Sr59.coins d.s := h i List.mem_cons_self
    have l1 : Sr58.likely (Sr59.trueDesk d) (2 * i) = frac 1 2 := likely_true (by omega)
    have l2 : Sr58.likely (Sr59.trueDesk d) (2 * i + 1) = frac 1 2 := likely_true (by omega)
    have p := two_pos s.length
    have g : ∀ k, (Sr58.spread (Sr59.trueDesk d) s).getD k (whole 0) = frac (binom s.length k : Nat) (2 ^ s.length) := by
      intro k
      rw [ih, List.getD_eq_getElem?_getD, List.getElem?_map]
      by_cases hk : k < s.length + 1
      · rw [List.getElem?_range hk]
        rfl
      · rw [List.getElem?_eq_none (by rw [List.length_range]; omega), binom_over (by omega)]
        exact whole_zero p
    have hl : (Sr58.spread (Sr59.trueDesk d) s).length = s.length + 1 := by
      rw [ih, List.length_map, List.length_range]
    show (List.range ((Sr58.spread (Sr59.trueDesk d) s).length + 1)).map (fun k => plus (times (Sr58.likely (Sr59.trueDesk d) (2 * i)) ((Sr58.spread (Sr59.trueDesk d) s).getD k (whole 0))) (if k = 0 then whole 0 else times (Sr58.likely (Sr59.trueDesk d) (2 * i + 1)) ((Sr58.spread (Sr59.trueDesk d) s).getD (k - 1) (whole 0)))) = _
    rw [hl, List.length_cons]
    refine List.map_congr_left fun k _ => ?_
    rw [l1, l2, g, g, times_frac _ _ (by decide) p, times_frac _ _ (by decide) p]
    have p2 : 0 < 2 * 2 ^ s.length := by omega
    have e2 : 2 ^ (s.length + 1) = 2 * 2 ^ s.length := by rw [Nat.pow_succ, Nat.mul_comm]
    rw [e2]
    cases k with
    | zero =>
      rw [if_pos rfl, whole_zero p2, plus_same _ _ p2, binom_zero, binom_zero]
      rfl
    | succ k =>
      rw [if_neg (by omega), plus_same _ _ p2, binom_succ]
      congr 1
      simp
      omega

/-- of n coins how many ways have t or more that are 1 -/
def atLeast (n t : Nat) : Nat := (((List.range (n + 1)).drop t).map (binom n)).sum
theorem likely_many {d : Sr59.Desk} {t : Nat} {s : List Nat} (h : ∀ x ∈ s, x < Sr59.coins d.s) :
    Sr58.likelyTerm (Sr59.trueDesk d) (.many t s) = frac (atLeast s.length t : Nat) (2 ^ s.length) := by
  show Sr58.likelyMany (Sr59.trueDesk d) t s = _
  unfold Sr58.likelyMany
  rw [spread_at s h, ← List.map_drop]
  have e : ((List.range (s.length + 1)).drop t).map (fun k => frac (binom s.length k : Nat) (2 ^ s.length)) = (((List.range (s.length + 1)).drop t).map (fun k => ((binom s.length k : Nat) : Int))).map (fun n => frac n (2 ^ s.length)) := by
    rw [List.map_map]
    rfl
  rw [e, total_same (two_pos _)]
  congr 1
  unfold atLeast
  generalize (List.range (s.length + 1)).drop t = l
  induction l with
  | nil => rfl
  | cons x l ih => simp [ih]

end Few
/-! Means: over true coins, over seeds; the best seed. -/
namespace Few
open Sr58 (Frac frac plus times total whole)
theorem frac_lift (n : Int) {k N : Nat} (h : k ≤ N) : frac n (2 ^ k) = frac (n * ((2 ^ (N - k) : Nat) : Int)) (2 ^ N) := by
  have e : 2 ^ N = 2 ^ (N - k) * 2 ^ k := by rw [← Nat.pow_add]; congr 1; omega
  rw [e, Int.mul_comm]
  exact (frac_mul (two_pos (N - k)) n (two_pos k)).symm
/-- the mean by numbers over one lower number -/
theorem mean_frac {d : Sr59.Desk} {D : Nat} (hD : 0 < D) (c : Sr58.Kind → Int) (h : ∀ t ∈ d.terms, Sr58.likelyTerm (Sr59.trueDesk d) t.sort = frac (c t.sort) D) :
    Sr59.trueMean d = frac ((d.terms.map fun t => t.w * c t.sort).sum) D := by
  show total (d.terms.map fun t => times (whole t.w) (Sr58.likelyTerm (Sr59.trueDesk d) t.sort)) = _
  have e : d.terms.map (fun t => times (whole t.w) (Sr58.likelyTerm (Sr59.trueDesk d) t.sort)) = (d.terms.map fun t => t.w * c t.sort).map fun n => frac n D := by
    rw [List.map_map]
    refine List.map_congr_left fun t ht => ?_
    rw [h t ht, whole_frac, times_frac _ _ (by decide) hD, Nat.one_mul]
    rfl
  rw [e, total_same hD]
/-! ### what a seed comes to -/
theorem foldl_sum : ∀ (l : List Int) (a : Int), l.foldl (· + ·) a = a + l.sum
  | [], a => by simp
  | x :: l, a => by rw [List.foldl_cons, foldl_sum l, List.sum_cons, Int.add_assoc]
theorem worth_sum (d : Sr59.Desk) (x : Nat) : Sr59.worth d x = (d.terms.map fun t => if Sr58.holds (Sr59.row d.s x) t.sort then t.w else 0).sum := by
  show List.foldl (· + ·) 0 _ = _
  rw [foldl_sum, Int.zero_add]
theorem seedMean_eq (d : Sr59.Desk) : Sr59.seedMean d = frac (((List.range (Sr59.seeds d.s)).map (Sr59.worth d)).sum) (Sr59.seeds d.s) := by
  unfold Sr59.seedMean
  rw [foldl_sum, Int.zero_add]
/-- the best seed, as a loop finds it: the best of the first n -/
def better (much : Bool) (a b : Int) : Bool := if much then decide (a < b) else decide (b < a)
def bestOf (d : Sr59.Desk) (n : Nat) : Nat := (List.range n).foldl (fun b x => if better d.much (Sr59.worth d b) (Sr59.worth d x) then x else b) 0
theorem best_eq (d : Sr59.Desk) : Sr59.best d = bestOf d (Sr59.seeds d.s) := by
  unfold Sr59.best bestOf better
  rfl
theorem bestOf_succ (d : Sr59.Desk) (n : Nat) : bestOf d (n + 1) = if better d.much (Sr59.worth d (bestOf d n)) (Sr59.worth d n) then n else bestOf d n := by
  unfold bestOf
  rw [List.range_succ, List.foldl_append]
  rfl
/-! ### sums over seeds, term by term -/
/-- of how many seeds of a list a term is so -/
def hits (s : Sr59.Space) (l : List Nat) (t : Sr58.Kind) : Nat := (l.filter fun x => Sr58.holds (Sr59.row s x) t).length
theorem hits_cons (s : Sr59.Space) (x : Nat) (l : List Nat) (t : Sr58.Kind) : hits s (x :: l) t = (if Sr58.holds (Sr59.row s x) t then 1 else 0) + hits s l t := by
  unfold hits
  rw [List.filter_cons]
  cases Sr58.holds (Sr59.row s x) t
  · simp
  · simp
    omega
theorem sum_swap (s : Sr59.Space) (ts : List Sr58.Term) : ∀ l : List Nat, (l.map fun x => (ts.map fun t => if Sr58.holds (Sr59.row s x) t.sort then t.w else 0).sum).sum = (ts.map fun t => t.w * ((hits s l t.sort : Nat) : Int)).sum
  | [] => by
    induction ts with
    | nil => rfl
    | cons t ts ih =>
      have ih : (0 : Int) = (ts.map fun t => t.w * ((hits s [] t.sort : Nat) : Int)).sum := ih
      rw [List.map_cons, List.sum_cons, ← ih]
      show (0 : Int) = t.w * 0 + 0
      omega
  | x :: l => by
    rw [List.map_cons, List.sum_cons, sum_swap s ts l]
    induction ts with
    | nil => rfl
    | cons t ts ih =>
      rw [List.map_cons, List.map_cons, List.map_cons, List.sum_cons, List.sum_cons, List.sum_cons, ← ih, hits_cons, Int.natCast_add, Int.mul_add]
      cases Sr58.holds (Sr59.row s x) t.sort
      · simp
        omega
      · simp
        omega
theorem seeds_sum (d : Sr59.Desk) : ((List.range (Sr59.seeds d.s)).map (Sr59.worth d)).sum = (d.terms.map fun t => t.w * ((hits d.s (List.range (Sr59.seeds d.s)) t.sort : Nat) : Int)).sum := by
  rw [show Sr59.worth d = fun x => (d.terms.map fun t => if Sr58.holds (Sr59.row d.s x) t.sort then t.w else 0).sum from funext fun x => worth_sum d x]
  exact sum_swap d.s d.terms _
end Few
/-! The field, the coins: the program's way and the specification's. -/
namespace Few
open Sr59 (mul mulOn pow twice xor1 part up)

def both (m : Nat) (p : Nat → Nat → Bool) : Bool := (List.range (2 ^ m)).all fun x => (List.range (2 ^ m)).all fun y => p x y
theorem both_at {m : Nat} {p : Nat → Nat → Bool} (h : both m p = true) {x y : Nat} (hx : x < 2 ^ m) (hy : y < 2 ^ m) : p x y = true :=
  List.all_eq_true.mp (List.all_eq_true.mp h x (List.mem_range.mpr hx)) y (List.mem_range.mpr hy)
def six (p : Nat → Bool) : Bool := p 1 && p 2 && p 3 && p 4 && p 5 && p 6
theorem six_at {p : Nat → Bool} (h : six p = true) {m : Nat} (h1 : 1 ≤ m) (h6 : m ≤ 6) : p m = true := by
  unfold six at h
  simp only [Bool.and_eq_true] at h
  obtain ⟨⟨⟨⟨⟨a1, a2⟩, a3⟩, a4⟩, a5⟩, a6⟩ := h
  rcases (by omega : m = 1 ∨ m = 2 ∨ m = 3 ∨ m = 4 ∨ m = 5 ∨ m = 6) with rfl | rfl | rfl | rfl | rfl | rfl <;> assumption

/-! ### the program's way -/
def polyStep (x y : Nat) (t p : Nat) : Nat := if y >>> p &&& 1 = 1 then t ^^^ x <<< p else t
def polyProd (x y m : Nat) : Nat := (List.range m).foldl (polyStep x y) 0
def bits (n : Nat) : Nat := if n = 0 then 0 else n.log2 + 1
def downStep (m r : Nat) : Nat := r ^^^ Sr59.poly m <<< (bits r - m - 1)
def down (m : Nat) : Nat → Nat → Nat
  | 0, r => r
  | f + 1, r => if m < bits r then down m f (downStep m r) else r
set_option maxRecDepth 100000 in
theorem mul_check : (six fun m => both m fun x y => down m 12 (polyProd x y m) == mul m x y) = true := by decide +kernel
set_option maxRecDepth 100000 in
theorem bits_check : (six fun m => both m fun x y => decide (bits (polyProd x y m) ≤ 12)) = true := by decide +kernel
set_option maxRecDepth 100000 in
theorem lt_check : (six fun m => both m fun x y => decide (mul m x y < 2 ^ m)) = true := by decide +kernel
set_option maxRecDepth 100000 in
theorem comm_check : (six fun m => both m fun x y => mul m x y == mul m y x) = true := by decide +kernel
set_option maxRecDepth 100000 in
theorem lin_check : (six fun m => both m fun x y => twice m (xor1 x y) == xor1 (twice m x) (twice m y)) = true := by decide +kernel
set_option maxRecDepth 100000 in
theorem tw_check : (six fun m => both m fun x y => mul m x (twice m y) == twice m (mul m x y)) = true := by decide +kernel
set_option maxRecDepth 100000 in
theorem twlt_check : (six fun m => both m fun x _ => decide (twice m x < 2 ^ m)) = true := by decide +kernel
end Few
namespace Few
open Sr59 (mul mulOn pow twice xor1 part up)
theorem xor1_eq (x y : Nat) : xor1 x y = x ^^^ y := rfl
section
variable {m : Nat} (h1 : 1 ≤ m) (h6 : m ≤ 6)
include h1 h6
theorem mul_lt {x y : Nat} (hx : x < 2 ^ m) (hy : y < 2 ^ m) : mul m x y < 2 ^ m :=
  of_decide_eq_true (both_at (six_at lt_check h1 h6) hx hy)
theorem mul_comm {x y : Nat} (hx : x < 2 ^ m) (hy : y < 2 ^ m) : mul m x y = mul m y x :=
  eq_of_beq (both_at (six_at comm_check h1 h6) hx hy)
theorem twice_xor {x y : Nat} (hx : x < 2 ^ m) (hy : y < 2 ^ m) : twice m (x ^^^ y) = twice m x ^^^ twice m y :=
  eq_of_beq (both_at (six_at lin_check h1 h6) hx hy)
theorem mul_twice {x y : Nat} (hx : x < 2 ^ m) (hy : y < 2 ^ m) : mul m x (twice m y) = twice m (mul m x y) :=
  eq_of_beq (both_at (six_at tw_check h1 h6) hx hy)
theorem twice_lt {x : Nat} (hx : x < 2 ^ m) : twice m x < 2 ^ m :=
  of_decide_eq_true (both_at (six_at twlt_check h1 h6) hx hx)
theorem mulOn_xor {x x' y : Nat} (hx : x < 2 ^ m) (hx' : x' < 2 ^ m) : ∀ (i r r' : Nat), r < 2 ^ m → r' < 2 ^ m →
    mulOn m (x ^^^ x') y i (r ^^^ r') = mulOn m x y i r ^^^ mulOn m x' y i r'
  | 0, _, _, _, _ => rfl
  | i + 1, r, r', hr, hr' => by
    have t1 := twice_lt h1 h6 hr
    have t2 := twice_lt h1 h6 hr'
    show mulOn m (x ^^^ x') y i (if up y i then twice m (r ^^^ r') ^^^ (x ^^^ x') else twice m (r ^^^ r')) = mulOn m x y i (if up y i then twice m r ^^^ x else twice m r) ^^^ mulOn m x' y i (if up y i then twice m r' ^^^ x' else twice m r')
    rw [twice_xor h1 h6 hr hr']
    cases up y i
    · exact mulOn_xor hx hx' i _ _ t1 t2
    · have e : twice m r ^^^ twice m r' ^^^ (x ^^^ x') = (twice m r ^^^ x) ^^^ (twice m r' ^^^ x') := by
        rw [Nat.xor_assoc, Nat.xor_assoc, ← Nat.xor_assoc (twice m r') x x', Nat.xor_comm (twice m r') x, Nat.xor_assoc]
      simp only [if_true]
      rw [e]
      exact mulOn_xor hx hx' i _ _ (Nat.xor_lt_two_pow t1 hx) (Nat.xor_lt_two_pow t2 hx')
theorem xor_mul {x x' y : Nat} (hx : x < 2 ^ m) (hx' : x' < 2 ^ m) : mul m (x ^^^ x') y = mul m x y ^^^ mul m x' y := by
  have := mulOn_xor (y := y) h1 h6 hx hx' m 0 0 (Nat.pow_pos (by decide)) (Nat.pow_pos (by decide))
  rw [Nat.xor_self] at this
  exact this
theorem mul_xor {x y y' : Nat} (hx : x < 2 ^ m) (hy : y < 2 ^ m) (hy' : y' < 2 ^ m) : mul m x (y ^^^ y') = mul m x y ^^^ mul m x y' := by
  rw [mul_comm h1 h6 hx (Nat.xor_lt_two_pow hy hy'), xor_mul h1 h6 hy hy', mul_comm h1 h6 hx hy, mul_comm h1 h6 hx hy']
theorem mulOn_lt {x y : Nat} (hx : x < 2 ^ m) : ∀ (i r : Nat), r < 2 ^ m → mulOn m x y i r < 2 ^ m
  | 0, _, hr => hr
  | i + 1, r, hr => by
    show mulOn m x y i (if up y i then twice m r ^^^ x else twice m r) < 2 ^ m
    apply mulOn_lt hx
    split
    · exact Nat.xor_lt_two_pow (twice_lt h1 h6 hr) hx
    · exact twice_lt h1 h6 hr
theorem mulOn_assoc {x y z : Nat} (hx : x < 2 ^ m) (hy : y < 2 ^ m) : ∀ (i r : Nat), r < 2 ^ m → mulOn m (mul m x y) z i (mul m x r) = mul m x (mulOn m y z i r)
  | 0, _, _ => rfl
  | i + 1, r, hr => by
    have t1 := twice_lt h1 h6 hr
    show mulOn m (mul m x y) z i (if up z i then twice m (mul m x r) ^^^ mul m x y else twice m (mul m x r)) = mul m x (mulOn m y z i (if up z i then twice m r ^^^ y else twice m r))
    rw [← mul_twice h1 h6 hx hr]
    cases up z i
    · exact mulOn_assoc hx hy i _ t1
    · simp only [if_true]
      rw [← mul_xor h1 h6 hx t1 hy]
      exact mulOn_assoc hx hy i _ (Nat.xor_lt_two_pow t1 hy)
theorem mul_zero_left {y : Nat} (_ : y < 2 ^ m) : mul m 0 y = 0 := by
  have z : 0 < 2 ^ m := Nat.pow_pos (by decide)
  have := xor_mul (y := y) h1 h6 z z
  rw [Nat.xor_self, Nat.xor_self] at this
  exact this
theorem mul_assoc {x y z : Nat} (hx : x < 2 ^ m) (hy : y < 2 ^ m) : mul m (mul m x y) z = mul m x (mul m y z) := by
  have z0 : 0 < 2 ^ m := Nat.pow_pos (by decide)
  have := mulOn_assoc (z := z) h1 h6 hx hy m 0 z0
  rw [mul_comm h1 h6 hx z0, mul_zero_left h1 h6 hx] at this
  exact this
theorem pow_lt {x : Nat} (hx : x < 2 ^ m) : ∀ e, pow m x e < 2 ^ m
  | 0 => Nat.one_lt_two_pow (by omega)
  | e + 1 => mul_lt h1 h6 (pow_lt hx e) hx
/-- the program's product is the specification's -/
theorem down_poly {x y : Nat} (hx : x < 2 ^ m) (hy : y < 2 ^ m) : down m 12 (polyProd x y m) = mul m x y :=
  eq_of_beq (both_at (six_at mul_check h1 h6) hx hy)
theorem bits_poly {x y : Nat} (hx : x < 2 ^ m) (hy : y < 2 ^ m) : bits (polyProd x y m) ≤ 12 :=
  of_decide_eq_true (both_at (six_at bits_check h1 h6) hx hy)

/-! ### the sum of the numbers times the powers -/
def sumOn (m i : Nat) (f : Nat → Nat) (k : Nat) : Nat := (List.range k).foldl (fun t j => t ^^^ mul m (f j) (pow m i j)) 0
omit h1 h6 in
theorem sumOn_succ (m i : Nat) (f : Nat → Nat) (k : Nat) : sumOn m i f (k + 1) = sumOn m i f k ^^^ mul m (f k) (pow m i k) := by
  unfold sumOn
  rw [List.range_succ, List.foldl_append]
  rfl
theorem horner {i : Nat} (hi : i < 2 ^ m) {f : Nat → Nat} (hf : ∀ j, f j < 2 ^ m) : ∀ (k r : Nat), r < 2 ^ m →
    (List.range k).reverse.foldl (fun r j => xor1 (mul m r i) (f j)) r = mul m r (pow m i k) ^^^ sumOn m i f k
  | 0, r, hr => by
    have o : 1 < 2 ^ m := Nat.one_lt_two_pow (by omega)
    show r = mul m r 1 ^^^ 0
    rw [Nat.xor_zero, mul_comm h1 h6 hr o]
    rcases (by omega : m = 1 ∨ m = 2 ∨ m = 3 ∨ m = 4 ∨ m = 5 ∨ m = 6) with rfl | rfl | rfl | rfl | rfl | rfl <;> revert r <;> decide +kernel
  | k + 1, r, hr => by
    have hp := pow_lt h1 h6 hi k
    rw [List.range_succ, List.reverse_append, List.reverse_singleton, List.singleton_append, List.foldl_cons]
    rw [xor1_eq (mul m r i) (f k), horner hi hf k _ (Nat.xor_lt_two_pow (mul_lt h1 h6 hr hi) (hf k)), sumOn_succ]
    show mul m (mul m r i ^^^ f k) (pow m i k) ^^^ sumOn m i f k = mul m r (mul m (pow m i k) i) ^^^ (sumOn m i f k ^^^ mul m (f k) (pow m i k))
    rw [xor_mul h1 h6 (mul_lt h1 h6 hr hi) (hf k), mul_assoc h1 h6 hr hi, mul_comm h1 h6 hi hp, Nat.xor_assoc, Nat.xor_comm (sumOn m i f k)]
end
theorem valueAt_sum {s : Sr59.Space} (h1 : 1 ≤ s.m) (h6 : s.m ≤ 6) (seed : Nat) {i : Nat} (hi : i < 2 ^ s.m) :
    Sr59.valueAt s seed i = sumOn s.m i (Sr59.part s seed) s.k := by
  have z : 0 < 2 ^ s.m := Nat.pow_pos (by decide)
  unfold Sr59.valueAt
  rw [horner h1 h6 hi (f := Sr59.part s seed) (fun j => Nat.mod_lt _ z) s.k 0 z, mul_zero_left h1 h6 (pow_lt h1 h6 hi _), Nat.zero_xor]
end Few
/-! Coins: the program's numbers. -/
namespace Few
/-- whether an odd number of digits are 1: by halves -/
def par : Nat → Nat → Nat
  | 0, _ => 0
  | f + 1, r => if r = 0 then 0 else r % 2 ^^^ par f (r / 2)
set_option maxRecDepth 100000 in
theorem par_check : ([1, 2, 3, 4].all fun m => both m fun x y => par 5 (x &&& y) == if Sr59.odd m x y then 1 else 0) = true := by decide +kernel
theorem par_odd {m x y : Nat} (h1 : 1 ≤ m) (h4 : m ≤ 4) (hx : x < 2 ^ m) (hy : y < 2 ^ m) : par 5 (x &&& y) = if Sr59.odd m x y then 1 else 0 := by
  have h := par_check
  simp only [List.all_cons, List.all_nil, Bool.and_true, Bool.and_eq_true] at h
  obtain ⟨a1, a2, a3, a4⟩ := h
  rcases (by omega : m = 1 ∨ m = 2 ∨ m = 3 ∨ m = 4) with rfl | rfl | rfl | rfl
  · exact eq_of_beq (both_at a1 hx hy)
  · exact eq_of_beq (both_at a2 hx hy)
  · exact eq_of_beq (both_at a3 hx hy)
  · exact eq_of_beq (both_at a4 hx hy)
theorem part_eq (s : Sr59.Space) (seed j : Nat) : Sr59.part s seed j = seed / (2 ^ s.m) ^ j % 2 ^ s.m := by
  unfold Sr59.part
  rw [Nat.pow_mul]
theorem part_lt (s : Sr59.Space) (seed j : Nat) : Sr59.part s seed j < 2 ^ s.m := Nat.mod_lt _ (Nat.pow_pos (by decide))
theorem up_zero (n : Nat) : Sr59.up n 0 = decide (n % 2 = 1) := by
  unfold Sr59.up
  rw [Nat.pow_zero, Nat.div_one]
  by_cases h : n % 2 = 1
  · rw [h]
    rfl
  · rw [decide_eq_false h]
    simp [h]
/-- a coin as the program tells it -/
def coinN (s : Sr59.Space) (seed i : Nat) : Nat := if Sr59.coin s seed i then 1 else 0
theorem coin_plain {s : Sr59.Space} (h1 : 1 ≤ s.m) (h6 : s.m ≤ 6) (hf : s.faint = false) (seed : Nat) {i : Nat} (hi : i < 2 ^ s.m) : sumOn s.m i (Sr59.part s seed) s.k % 2 = coinN s seed i := by
  unfold coinN Sr59.coin
  rw [hf, if_neg Bool.false_ne_true, valueAt_sum h1 h6 seed hi, up_zero]
  generalize sumOn s.m i (Sr59.part s seed) s.k = n
  by_cases h : n % 2 = 1
  · rw [decide_eq_true h, if_pos rfl, h]
  · rw [decide_eq_false h, if_neg Bool.false_ne_true]
    omega
theorem coin_faint {s : Sr59.Space} (h1 : 1 ≤ s.m) (h4 : s.m ≤ 4) (hf : s.faint = true) (seed i : Nat) : par 5 (Sr59.pow s.m (Sr59.part s seed 0) i &&& Sr59.part s seed 1) = coinN s seed i := by
  unfold coinN Sr59.coin
  rw [hf, if_pos rfl]
  exact par_odd h1 h4 (pow_lt h1 (by omega) (part_lt _ _ _) i) (part_lt _ _ _)
end Few
/-! Rows that rise, counts over seeds. -/
namespace Few
def inR (n : Nat) (x : Int) : Bool := decide (0 ≤ x) && decide (x < (n : Int))
/-- the program's look at a row: rising from last on, each a coin -/
def upFrom (n : Nat) : Int → List Int → Bool
  | _, [] => true
  | last, x :: l => if decide (x ≤ last) || !inR n x then false else upFrom n x l
theorem upFrom_eq (n : Nat) : ∀ (l : List Int) (last : Int), upFrom n last l = ((l.all fun x => inR n x) && Sr58.rising l && (match l with | [] => true | x :: _ => decide (last < x)))
  | [], _ => rfl
  | [x], last => by
    show (if decide (x ≤ last) || !inR n x then false else true) = ((inR n x && true) && true && decide (last < x))
    rw [Bool.and_true, Bool.and_true]
    cases inR n x <;> by_cases h : x ≤ last <;> simp [h] <;> omega
  | x :: y :: l, last => by
    have ih := upFrom_eq n (y :: l) x
    show (if decide (x ≤ last) || !inR n x then false else upFrom n x (y :: l)) = ((inR n x && (y :: l).all fun x => inR n x) && (decide (x < y) && Sr58.rising (y :: l)) && decide (last < x))
    rw [ih]
    generalize ((y :: l).all fun x => inR n x) = p
    generalize Sr58.rising (y :: l) = q
    show (if decide (x ≤ last) || !inR n x then false else (p && q && decide (x < y))) = _
    by_cases h : x ≤ last
    · have h2 : ¬ last < x := by omega
      simp [h, h2]
    · have h2 : last < x := by omega
      cases inR n x <;> cases p <;> cases q <;> simp [h, h2]
theorem upFrom_start (n : Nat) (l : List Int) : upFrom n (-1) l = ((l.all fun x => inR n x) && Sr58.rising l) := by
  rw [upFrom_eq]
  cases l with
  | nil => rfl
  | cons x l =>
    by_cases h : inR n x = true
    · have h' := h
      unfold inR at h'
      rw [Bool.and_eq_true, decide_eq_true_eq, decide_eq_true_eq] at h'
      have : decide (-1 < x) = true := decide_eq_true (by omega)
      show (_ && decide (-1 < x)) = _
      rw [this, Bool.and_true]
    · have h' : inR n x = false := by
        cases e : inR n x
        · rfl
        · exact absurd e h
      simp [h']
theorem okCoins_eq (d : Sr59.Desk) (l : List Int) : Sr59.okCoins d l = upFrom (2 ^ d.s.m) (-1) l := by
  rw [upFrom_start]
  rfl
/-! ### a row of coins as numbers -/
def rowN (s : Sr59.Space) (x : Nat) : List Nat := (List.range (2 ^ s.m)).map (coinN s x)
theorem rowN_len (s : Sr59.Space) (x : Nat) : (rowN s x).length = 2 ^ s.m := by
  unfold rowN
  rw [List.length_map, List.length_range]
theorem rowN_at {s : Sr59.Space} {x i : Nat} (h : i < 2 ^ s.m) : (rowN s x).getD i 0 = coinN s x i := by
  unfold rowN
  rw [List.getD_eq_getElem?_getD, List.getElem?_map, List.getElem?_range h]
  rfl
theorem coinN_beq (s : Sr59.Space) (x i : Nat) {b : Nat} (hb : b < 2) : (coinN s x i == b) = (Sr59.coin s x i == (b == 1)) := by
  unfold coinN
  rcases (by omega : b = 0 ∨ b = 1) with rfl | rfl <;> cases Sr59.coin s x i <;> rfl
def lieB (r : List Nat) (cs bs : List Nat) : Bool := (cs.zip bs).all fun y => r.getD y.1 0 == y.2
theorem lieB_coin (s : Sr59.Space) (x : Nat) : ∀ (cs bs : List Nat), (∀ c ∈ cs, c < 2 ^ s.m) → (∀ b ∈ bs, b < 2) → lieB (rowN s x) cs bs = (cs.zip (bs.map (· == 1))).all fun y => Sr59.coin s x y.1 == y.2
  | [], _, _, _ => rfl
  | _ :: _, [], _, _ => rfl
  | c :: cs, b :: bs, hc, hb => by
    have ih := lieB_coin s x cs bs (fun y hy => hc y (List.mem_cons_of_mem _ hy)) (fun y hy => hb y (List.mem_cons_of_mem _ hy))
    show (((rowN s x).getD c 0 == b) && lieB (rowN s x) cs bs) = ((Sr59.coin s x c == (b == 1)) && _)
    rw [ih, rowN_at (hc c List.mem_cons_self), coinN_beq s x c (hb b List.mem_cons_self)]
    rfl
theorem count_eq (s : Sr59.Space) {cs bs : List Nat} (hc : ∀ c ∈ cs, c < 2 ^ s.m) (hb : ∀ b ∈ bs, b < 2) : ((List.range (2 ^ (s.m * s.k))).filter fun x => lieB (rowN s x) cs bs).length = Sr59.count s cs (bs.map (· == 1)) := by
  unfold Sr59.count Sr59.seeds
  rw [show (fun x => lieB (rowN s x) cs bs) = fun x => (cs.zip (bs.map (· == 1))).all fun y => Sr59.coin s x y.1 == y.2 from funext fun x => lieB_coin s x cs bs hc hb]
/-! ### odd and even -/
theorem sum_coins (s : Sr59.Space) (x : Nat) : ∀ l : List Nat, (l.map (coinN s x)).sum = (l.filter (Sr59.coin s x)).length
  | [] => rfl
  | i :: l => by
    rw [List.map_cons, List.sum_cons, sum_coins s x l, List.filter_cons]
    unfold coinN
    cases Sr59.coin s x i
    · simp
    · simp
      omega
theorem sum_odd (p : Nat → Nat) : ∀ l : List Nat, (l.map fun x => p x % 2).sum = (l.filter fun x => p x % 2 == 1).length
  | [] => rfl
  | x :: l => by
    rw [List.map_cons, List.sum_cons, sum_odd p l, List.filter_cons]
    rcases (by omega : p x % 2 = 0 ∨ p x % 2 = 1) with h | h
    · rw [h]
      simp
    · rw [h]
      simp
      omega
theorem odds_eq (s : Sr59.Space) (l : List Nat) : ((List.range (2 ^ (s.m * s.k))).map fun x => (l.map (coinN s x)).sum % 2).sum = Sr59.odds s l := by
  rw [sum_odd (fun x => (l.map (coinN s x)).sum)]
  unfold Sr59.odds Sr59.seeds
  rw [show (fun x => (l.map (coinN s x)).sum % 2 == 1) = fun x => (l.filter (Sr59.coin s x)).length % 2 == 1 from funext fun x => by rw [sum_coins]]
end Few
/-! The calls in one list: how they are read. -/
namespace Few
def shapes : List (Nat × Nat) := [(3, 0), (2, 0), (2, 0), (2, 0), (1, 0), (0, 2), (0, 1), (1, 1), (2, 1), (1, 0), (1, 0), (0, 0), (1, 0), (0, 0), (1, 0), (0, 0)]
theorem shape_ix {z : Int} {n k : Nat} (h : PySr59.shape z = some (n, k)) : ∃ i : Nat, z = (i : Int) ∧ shapes[i]? = some (n, k) ∧ n ≤ 3 ∧ k ≤ 2 := by
  unfold PySr59.shape at h
  by_cases e0 : z = 0
  · rw [if_pos e0] at h
    obtain ⟨rfl, rfl⟩ := Prod.mk.inj (Option.some.inj h)
    exact ⟨0, e0, rfl, by decide, by decide⟩
  rw [if_neg e0] at h
  by_cases e1 : z = 1
  · rw [if_pos e1] at h
    obtain ⟨rfl, rfl⟩ := Prod.mk.inj (Option.some.inj h)
    exact ⟨1, e1, rfl, by decide, by decide⟩
  rw [if_neg e1] at h
  by_cases e2 : z = 2
  · rw [if_pos e2] at h
    obtain ⟨rfl, rfl⟩ := Prod.mk.inj (Option.some.inj h)
    exact ⟨2, e2, rfl, by decide, by decide⟩
  rw [if_neg e2] at h
  by_cases e3 : z = 3
  · rw [if_pos e3] at h
    obtain ⟨rfl, rfl⟩ := Prod.mk.inj (Option.some.inj h)
    exact ⟨3, e3, rfl, by decide, by decide⟩
  rw [if_neg e3] at h
  by_cases e4 : z = 4
  · rw [if_pos e4] at h
    obtain ⟨rfl, rfl⟩ := Prod.mk.inj (Option.some.inj h)
    exact ⟨4, e4, rfl, by decide, by decide⟩
  rw [if_neg e4] at h
  by_cases e5 : z = 5
  · rw [if_pos e5] at h
    obtain ⟨rfl, rfl⟩ := Prod.mk.inj (Option.some.inj h)
    exact ⟨5, e5, rfl, by decide, by decide⟩
  rw [if_neg e5] at h
  by_cases e6 : z = 6
  · rw [if_pos e6] at h
    obtain ⟨rfl, rfl⟩ := Prod.mk.inj (Option.some.inj h)
    exact ⟨6, e6, rfl, by decide, by decide⟩
  rw [if_neg e6] at h
  by_cases e7 : z = 7
  · rw [if_pos e7] at h
    obtain ⟨rfl, rfl⟩ := Prod.mk.inj (Option.some.inj h)
    exact ⟨7, e7, rfl, by decide, by decide⟩
  rw [if_neg e7] at h
  by_cases e8 : z = 8
  · rw [if_pos e8] at h
    obtain ⟨rfl, rfl⟩ := Prod.mk.inj (Option.some.inj h)
    exact ⟨8, e8, rfl, by decide, by decide⟩
  rw [if_neg e8] at h
  by_cases e9 : z = 9
  · rw [if_pos e9] at h
    obtain ⟨rfl, rfl⟩ := Prod.mk.inj (Option.some.inj h)
    exact ⟨9, e9, rfl, by decide, by decide⟩
  rw [if_neg e9] at h
  by_cases e10 : z = 10
  · rw [if_pos e10] at h
    obtain ⟨rfl, rfl⟩ := Prod.mk.inj (Option.some.inj h)
    exact ⟨10, e10, rfl, by decide, by decide⟩
  rw [if_neg e10] at h
  by_cases e11 : z = 11
  · rw [if_pos e11] at h
    obtain ⟨rfl, rfl⟩ := Prod.mk.inj (Option.some.inj h)
    exact ⟨11, e11, rfl, by decide, by decide⟩
  rw [if_neg e11] at h
  by_cases e12 : z = 12
  · rw [if_pos e12] at h
    obtain ⟨rfl, rfl⟩ := Prod.mk.inj (Option.some.inj h)
    exact ⟨12, e12, rfl, by decide, by decide⟩
  rw [if_neg e12] at h
  by_cases e13 : z = 13
  · rw [if_pos e13] at h
    obtain ⟨rfl, rfl⟩ := Prod.mk.inj (Option.some.inj h)
    exact ⟨13, e13, rfl, by decide, by decide⟩
  rw [if_neg e13] at h
  by_cases e14 : z = 14
  · rw [if_pos e14] at h
    obtain ⟨rfl, rfl⟩ := Prod.mk.inj (Option.some.inj h)
    exact ⟨14, e14, rfl, by decide, by decide⟩
  rw [if_neg e14] at h
  by_cases e15 : z = 15
  · rw [if_pos e15] at h
    obtain ⟨rfl, rfl⟩ := Prod.mk.inj (Option.some.inj h)
    exact ⟨15, e15, rfl, by decide, by decide⟩
  rw [if_neg e15] at h
  cases h
theorem row_inv {z : Int} {r x s : List Int} (h : PyFlat.row (z :: r) = some (x, s)) : 0 ≤ z ∧ z.toNat ≤ r.length ∧ x = r.take z.toNat ∧ s = r.drop z.toNat := by
  have h : (if 0 ≤ z ∧ z.toNat ≤ r.length then some (r.take z.toNat, r.drop z.toNat) else none) = some (x, s) := h
  by_cases c : 0 ≤ z ∧ z.toNat ≤ r.length
  · rw [if_pos c] at h
    obtain ⟨rfl, rfl⟩ := Prod.mk.inj (Option.some.inj h)
    exact ⟨c.1, c.2, rfl, rfl⟩
  · rw [if_neg c] at h
    cases h
theorem rows_inv {k : Nat} {r t : List Int} {xs : List (List Int)} (h : PyFlat.rows (k + 1) r = some (xs, t)) : ∃ x s ys, PyFlat.row r = some (x, s) ∧ PyFlat.rows k s = some (ys, t) ∧ xs = x :: ys := by
  have h : (match PyFlat.row r with | none => none | some (x, s) => match PyFlat.rows k s with | none => none | some (xs, t) => some (x :: xs, t)) = some (xs, t) := h
  cases e : PyFlat.row r with
  | none =>
    rw [e] at h
    cases h
  | some y =>
    obtain ⟨x, s⟩ := y
    rw [e] at h
    have h : (match PyFlat.rows k s with | none => none | some (xs, t) => some (x :: xs, t)) = some (xs, t) := h
    cases e2 : PyFlat.rows k s with
    | none =>
      rw [e2] at h
      cases h
    | some y =>
      obtain ⟨ys, u⟩ := y
      rw [e2] at h
      obtain ⟨rfl, rfl⟩ := Prod.mk.inj (Option.some.inj h)
      exact ⟨x, s, ys, rfl, e2, rfl⟩
theorem rows_len : ∀ {k : Nat} {r t : List Int} {xs : List (List Int)}, PyFlat.rows k r = some (xs, t) → xs.length = k
  | 0, r, t, xs, h => by
    obtain ⟨rfl, rfl⟩ := Prod.mk.inj (Option.some.inj h)
    rfl
  | k + 1, r, t, xs, h => by
    obtain ⟨x, s, ys, _, h2, rfl⟩ := rows_inv h
    rw [List.length_cons, rows_len h2]
theorem rows_step {k b : Nat} {ns t : List Int} {xs : List (List Int)} (hb : b ≤ ns.length) (h : PyFlat.rows (k + 1) (ns.drop b) = some (xs, t)) :
    ∃ (n : Nat) (xs' : List (List Int)), ns[b]? = some (n : Int) ∧ b + 1 + n ≤ ns.length ∧ xs = (ns.drop (b + 1)).take n :: xs' ∧ PyFlat.rows k (ns.drop (b + 1 + n)) = some (xs', t) := by
  obtain ⟨x, s, ys, h1, h2, rfl⟩ := rows_inv h
  by_cases hlt : b < ns.length
  · have hd := List.drop_eq_getElem_cons hlt
    rw [hd] at h1
    obtain ⟨z0, z1, rfl, rfl⟩ := row_inv h1
    rw [List.length_drop] at z1
    refine ⟨(ns[b]).toNat, ys, ?_, by omega, rfl, ?_⟩
    · rw [List.getElem?_eq_getElem hlt, Int.toNat_of_nonneg z0]
    · rw [List.drop_drop] at h2
      exact h2
  · rw [List.drop_eq_nil_of_le (by omega)] at h1
    cases h1
/-- one call by its shape -/
theorem call_inv {z : Int} {r t : List Int} {c : List (List Int)} (h : PyFlat.call PySr59.shape (z :: r) = some (c, t)) : ∃ n k xs, PySr59.shape z = some (n, k) ∧ n ≤ r.length ∧ PyFlat.rows k (r.drop n) = some (xs, t) ∧ c = (z :: r.take n) :: xs := by
  have h : (match PySr59.shape z with | none => none | some (n, k) => if r.length < n then none else match PyFlat.rows k (r.drop n) with | none => none | some (xs, t) => some ((z :: r.take n) :: xs, t)) = some (c, t) := h
  cases e : PySr59.shape z with
  | none =>
    rw [e] at h
    cases h
  | some y =>
    obtain ⟨n, k⟩ := y
    rw [e] at h
    have h : (if r.length < n then none else match PyFlat.rows k (r.drop n) with | none => none | some (xs, t) => some ((z :: r.take n) :: xs, t)) = some (c, t) := h
    by_cases hl : r.length < n
    · rw [if_pos hl] at h
      cases h
    · rw [if_neg hl] at h
      cases e2 : PyFlat.rows k (r.drop n) with
      | none =>
        rw [e2] at h
        cases h
      | some y =>
        obtain ⟨xs, u⟩ := y
        rw [e2] at h
        obtain ⟨rfl, rfl⟩ := Prod.mk.inj (Option.some.inj h)
        exact ⟨n, k, xs, rfl, by omega, e2, rfl⟩
/-- the calls, one after another -/
theorem calls_inv {f : Nat} {z : Int} {r : List Int} {cs : List (List (List Int))} (h : PyFlat.calls PySr59.shape (f + 1) (z :: r) = some cs) : ∃ c t cs', PyFlat.call PySr59.shape (z :: r) = some (c, t) ∧ PyFlat.calls PySr59.shape f t = some cs' ∧ cs = c :: cs' := by
  have h : (match PyFlat.call PySr59.shape (z :: r) with | none => none | some (c, t) => match PyFlat.calls PySr59.shape f t with | none => none | some cs => some (c :: cs)) = some cs := h
  cases e : PyFlat.call PySr59.shape (z :: r) with
  | none =>
    rw [e] at h
    cases h
  | some y =>
    obtain ⟨c, t⟩ := y
    rw [e] at h
    have h : (match PyFlat.calls PySr59.shape f t with | none => none | some cs => some (c :: cs)) = some cs := h
    cases e2 : PyFlat.calls PySr59.shape f t with
    | none =>
      rw [e2] at h
      cases h
    | some cs' =>
      rw [e2] at h
      obtain rfl := Option.some.inj h
      exact ⟨c, t, cs', rfl, e2, rfl⟩
theorem calls_nil {f : Nat} {cs : List (List (List Int))} (h : PyFlat.calls PySr59.shape f [] = some cs) : cs = [] := by
  cases f with
  | zero => exact (Option.some.inj h).symm
  | succ f => exact (Option.some.inj h).symm
end Few
/-! The sixteen forms of a call that may be asked. -/
namespace Few
def Small (z : Int) : Prop := -2147483648 ≤ z ∧ z < 2147483648
inductive Form : Int → List Int → List (List Int) → Prop
  | c0 (a b c : Int) (ha : Small a) (hb : Small b) (hc : Small c) : Form 0 [a, b, c] []
  | c1 (a b : Int) (ha : Small a) (hb : Small b) : Form 1 [a, b] []
  | c2 (a b : Int) (ha : Small a) (hb : Small b) : Form 2 [a, b] []
  | c3 (a b : Int) (ha : Small a) (hb : Small b) : Form 3 [a, b] []
  | c4 (a : Int) (ha : Small a) : Form 4 [a] []
  | c5 (r s : List Int) (hr : r.length ≤ 70) (kr : ∀ x ∈ r, Small x) (hs : s.length ≤ 70) (ks : ∀ x ∈ s, Small x) : Form 5 [] [r, s]
  | c6 (r : List Int) (hr : r.length ≤ 70) (kr : ∀ x ∈ r, Small x) : Form 6 [] [r]
  | c7 (a : Int) (r : List Int) (ha : Small a) (hr : r.length ≤ 70) (kr : ∀ x ∈ r, Small x) : Form 7 [a] [r]
  | c8 (a b : Int) (r : List Int) (ha : Small a) (hb : Small b) (hr : r.length ≤ 70) (kr : ∀ x ∈ r, Small x) : Form 8 [a, b] [r]
  | c9 (a : Int) (ha : Small a) : Form 9 [a] []
  | c10 (a : Int) (ha : Small a) : Form 10 [a] []
  | c11 : Form 11 [] []
  | c12 (a : Int) (ha : Small a) : Form 12 [a] []
  | c13 : Form 13 [] []
  | c14 (a : Int) (ha : Small a) : Form 14 [a] []
  | c15 : Form 15 [] []
theorem small_of {z : Int} (h : Sr59Neutral.whole z = true) : Small z := by
  unfold Sr59Neutral.whole at h
  rw [Bool.and_eq_true, decide_eq_true_eq, decide_eq_true_eq] at h
  exact h
theorem smalls_of {l : List Int} (h : Sr59Neutral.wholes l = true) : ∀ x ∈ l, Small x := fun x hx => small_of (List.all_eq_true.mp h x hx)
theorem row_of {l : List Int} (h : Sr59Neutral.row l = true) : l.length ≤ 70 ∧ ∀ x ∈ l, Small x := by
  unfold Sr59Neutral.row at h
  rw [Bool.and_eq_true, decide_eq_true_eq] at h
  exact ⟨h.2, smalls_of h.1⟩
theorem form_of {kind : Int} {nums : List Int} {rows : List (List Int)} (h : Sr59Neutral.asked1 ((kind :: nums) :: rows) = true) : Form kind nums rows := by
  generalize hc : (kind :: nums) :: rows = c at h
  unfold Sr59Neutral.asked1 at h
  split at h
  · obtain ⟨e1, e2⟩ := List.cons.inj hc
    obtain ⟨e3, e4⟩ := List.cons.inj e1
    subst e2 e3 e4
    have g := smalls_of h
    exact .c0 _ _ _ (g _ (by simp)) (g _ (by simp)) (g _ (by simp))
  · obtain ⟨e1, e2⟩ := List.cons.inj hc
    obtain ⟨e3, e4⟩ := List.cons.inj e1
    subst e2 e3 e4
    have g := smalls_of h
    exact .c1 _ _ (g _ (by simp)) (g _ (by simp))
  · obtain ⟨e1, e2⟩ := List.cons.inj hc
    obtain ⟨e3, e4⟩ := List.cons.inj e1
    subst e2 e3 e4
    have g := smalls_of h
    exact .c2 _ _ (g _ (by simp)) (g _ (by simp))
  · obtain ⟨e1, e2⟩ := List.cons.inj hc
    obtain ⟨e3, e4⟩ := List.cons.inj e1
    subst e2 e3 e4
    have g := smalls_of h
    exact .c3 _ _ (g _ (by simp)) (g _ (by simp))
  · obtain ⟨e1, e2⟩ := List.cons.inj hc
    obtain ⟨e3, e4⟩ := List.cons.inj e1
    subst e2 e3 e4
    have g := smalls_of h
    exact .c4 _ (g _ (by simp))
  · obtain ⟨e1, e2⟩ := List.cons.inj hc
    obtain ⟨e3, e4⟩ := List.cons.inj e1
    subst e2 e3 e4
    rw [Bool.and_eq_true] at h
    have g := row_of h.1
    have g' := row_of h.2
    exact .c5 _ _ g.1 g.2 g'.1 g'.2
  · obtain ⟨e1, e2⟩ := List.cons.inj hc
    obtain ⟨e3, e4⟩ := List.cons.inj e1
    subst e2 e3 e4
    have g := row_of h
    exact .c6 _ g.1 g.2
  · obtain ⟨e1, e2⟩ := List.cons.inj hc
    obtain ⟨e3, e4⟩ := List.cons.inj e1
    subst e2 e3 e4
    rw [Bool.and_eq_true] at h
    have g := smalls_of h.1
    have g' := row_of h.2
    exact .c7 _ _ (g _ (by simp)) g'.1 g'.2
  · obtain ⟨e1, e2⟩ := List.cons.inj hc
    obtain ⟨e3, e4⟩ := List.cons.inj e1
    subst e2 e3 e4
    rw [Bool.and_eq_true] at h
    have g := smalls_of h.1
    have g' := row_of h.2
    exact .c8 _ _ _ (g _ (by simp)) (g _ (by simp)) g'.1 g'.2
  · obtain ⟨e1, e2⟩ := List.cons.inj hc
    obtain ⟨e3, e4⟩ := List.cons.inj e1
    subst e2 e3 e4
    have g := smalls_of h
    exact .c9 _ (g _ (by simp))
  · obtain ⟨e1, e2⟩ := List.cons.inj hc
    obtain ⟨e3, e4⟩ := List.cons.inj e1
    subst e2 e3 e4
    have g := smalls_of h
    exact .c10 _ (g _ (by simp))
  · obtain ⟨e1, e2⟩ := List.cons.inj hc
    obtain ⟨e3, e4⟩ := List.cons.inj e1
    subst e2 e3 e4
    exact .c11
  · obtain ⟨e1, e2⟩ := List.cons.inj hc
    obtain ⟨e3, e4⟩ := List.cons.inj e1
    subst e2 e3 e4
    have g := smalls_of h
    exact .c12 _ (g _ (by simp))
  · obtain ⟨e1, e2⟩ := List.cons.inj hc
    obtain ⟨e3, e4⟩ := List.cons.inj e1
    subst e2 e3 e4
    exact .c13
  · obtain ⟨e1, e2⟩ := List.cons.inj hc
    obtain ⟨e3, e4⟩ := List.cons.inj e1
    subst e2 e3 e4
    have g := smalls_of h
    exact .c14 _ (g _ (by simp))
  · obtain ⟨e1, e2⟩ := List.cons.inj hc
    obtain ⟨e3, e4⟩ := List.cons.inj e1
    subst e2 e3 e4
    exact .c15
  · cases h
end Few
/-! Terms: ways, what is so of a seed, the best. -/
namespace Few
open Sr58 (Frac frac Kind Term)
theorem nodup_dedup {α : Type} [BEq α] [LawfulBEq α] : ∀ (n : Nat) (l : List α), l.length ≤ n → l.eraseDups.Nodup
  | _, [], _ => by
    rw [List.eraseDups_nil]
    exact List.nodup_nil
  | n + 1, a :: l, h => by
    rw [List.length_cons] at h
    rw [List.eraseDups_cons, List.nodup_cons]
    have hf := List.length_filter_le (fun b => !b == a) l
    refine ⟨fun hm => ?_, nodup_dedup n _ (by omega)⟩
    have := (List.mem_filter.mp (List.mem_eraseDups.mp hm)).2
    simp at this
theorem dedup_nodup {α : Type} [BEq α] [LawfulBEq α] (l : List α) : l.eraseDups.Nodup := nodup_dedup l.length l (Nat.le_refl _)
theorem same_len {α : Type} {a b : List α} (ha : a.Nodup) (hb : b.Nodup) (h : ∀ x, x ∈ a ↔ x ∈ b) : a.length = b.length :=
  Nat.le_antisymm (List.Nodup.length_le_of_subset ha fun x hx => (h x).mp hx) (List.Nodup.length_le_of_subset hb fun x hx => (h x).mpr hx)
theorem nodup_map {α β : Type} {f : α → β} {l : List α} (h : l.Nodup) (hf : ∀ x ∈ l, ∀ y ∈ l, f x = f y → x = y) : (l.map f).Nodup := by
  rw [List.Nodup, List.pairwise_map]
  exact List.Pairwise.imp_of_mem (fun {a b} ha hb hne e => hne (hf a ha b hb e)) h
/-- as ints or as naturals: as many different ones -/
theorem dedup_cast (l : List Nat) : (l.map fun (n : Nat) => (n : Int)).eraseDups.length = l.eraseDups.length := by
  have e : l.eraseDups.length = (l.eraseDups.map fun (n : Nat) => (n : Int)).length := by rw [List.length_map]
  rw [e]
  refine same_len (dedup_nodup _) (nodup_map (dedup_nodup l) fun x _ y _ h => by omega) fun x => ?_
  rw [List.mem_eraseDups, List.mem_map, List.mem_map]
  constructor
  · rintro ⟨y, hy, rfl⟩
    exact ⟨y, List.mem_eraseDups.mpr hy, rfl⟩
  · rintro ⟨y, hy, rfl⟩
    exact ⟨y, List.mem_eraseDups.mp hy, rfl⟩
def halves (l : List Nat) : List Nat := (l.map fun x => x / 2).eraseDups
theorem halves_mem {l : List Nat} {c : Nat} : c ∈ halves l ↔ ∃ x ∈ l, x / 2 = c := by
  unfold halves
  rw [List.mem_eraseDups, List.mem_map]
theorem halves_le {n : Nat} {l : List Nat} (h : ∀ x ∈ l, x < 2 * n) : (halves l).length ≤ n := by
  have := List.Nodup.length_le_of_subset (l₁ := halves l) (l₂ := List.range n) (dedup_nodup _) fun c hc => by
    obtain ⟨x, hx, rfl⟩ := halves_mem.mp hc
    have := h x hx
    exact List.mem_range.mpr (by omega)
  rw [List.length_range] at this
  exact this
theorem opp_half (x : Nat) : Sr58.opposite x / 2 = x / 2 ∧ Sr58.opposite x ≠ x := by
  unfold Sr58.opposite
  split <;> omega
theorem opp_or {x y : Nat} (h : x / 2 = y / 2) : x = y ∨ y = Sr58.opposite x := by
  unfold Sr58.opposite
  split <;> omega
theorem both_less {l : List Nat} (h : (l.any fun x => l.contains (Sr58.opposite x)) = true) : (halves l).length < l.eraseDups.length := by
  obtain ⟨x, hx, hy⟩ := List.any_eq_true.mp h
  have hy : Sr58.opposite x ∈ l := by simpa using hy
  obtain ⟨o1, o2⟩ := opp_half x
  have hx2 : x ∈ l.eraseDups := List.mem_eraseDups.mpr hx
  have hl := List.length_erase_of_mem hx2
  have hp : 0 < l.eraseDups.length := List.length_pos_of_mem hx2
  have := List.Nodup.length_le_of_subset (l₁ := halves l) (l₂ := (l.eraseDups.erase x).map fun x => x / 2) (dedup_nodup _) fun c hc => by
    obtain ⟨z, hz, rfl⟩ := halves_mem.mp hc
    rw [List.mem_map]
    by_cases e : z = x
    · subst e
      exact ⟨Sr58.opposite z, (List.mem_erase_of_ne o2).mpr (List.mem_eraseDups.mpr hy), o1⟩
    · exact ⟨z, (List.mem_erase_of_ne e).mpr (List.mem_eraseDups.mpr hz), rfl⟩
  rw [List.length_map] at this
  omega
theorem none_same {l : List Nat} (h : (l.any fun x => l.contains (Sr58.opposite x)) = false) : l.eraseDups.length = (halves l).length := by
  have e : l.eraseDups.length = (l.eraseDups.map fun x => x / 2).length := by rw [List.length_map]
  rw [e]
  refine same_len (nodup_map (dedup_nodup l) fun x hx y hy hxy => ?_) (dedup_nodup _) fun c => ?_
  · rcases opp_or hxy with e | e
    · exact e
    · have : (l.any fun x => l.contains (Sr58.opposite x)) = true := List.any_eq_true.mpr ⟨x, List.mem_eraseDups.mp hx, by simpa [← e] using List.mem_eraseDups.mp hy⟩
      rw [h] at this
      cases this
  · rw [List.mem_map]
    constructor
    · rintro ⟨x, hx, rfl⟩
      exact halves_mem.mpr ⟨x, List.mem_eraseDups.mp hx, rfl⟩
    · intro hc
      obtain ⟨x, hx, rfl⟩ := halves_mem.mp hc
      exact ⟨x, List.mem_eraseDups.mpr hx, rfl⟩
/-- in how many of all ways a term is so -/
def waysOf (n : Nat) : Kind → Nat
  | .all l => (if l.eraseDups.length = (halves l).length then 1 else 0) * 2 ^ (n - (halves l).length)
  | .many t s => atLeast s.length t * 2 ^ (n - s.length)
def GoodK (n : Nat) : Kind → Prop
  | .all l => l.length ≤ 20 ∧ ∀ x ∈ l, x < 2 * n
  | .many t s => t ≤ 20 ∧ s.length ≤ n ∧ ∀ x ∈ s, x < n
theorem likely_ways {d : Sr59.Desk} {k : Kind} (h : GoodK (Sr59.coins d.s) k) : Sr58.likelyTerm (Sr59.trueDesk d) k = frac (waysOf (Sr59.coins d.s) k : Nat) (2 ^ Sr59.coins d.s) := by
  cases k with
  | many t s =>
    obtain ⟨_, h2, h3⟩ := h
    rw [likely_many h3, frac_lift _ h2, ← Int.natCast_mul]
    rfl
  | all l =>
    obtain ⟨_, h2⟩ := h
    rw [likely_all h2]
    cases e : (l.any fun x => l.contains (Sr58.opposite x)) with
    | true =>
      rw [if_pos rfl]
      show _ = frac ((((if l.eraseDups.length = (halves l).length then 1 else 0) * 2 ^ (Sr59.coins d.s - (halves l).length) : Nat)) : Int) _
      rw [if_neg (by have := both_less e; omega), Nat.zero_mul]
      exact frac_eq (by decide) (two_pos _) (by simp)
    | false =>
      have e2 := none_same e
      rw [if_neg (by simp), frac_lift _ (show l.eraseDups.length ≤ Sr59.coins d.s by rw [e2]; exact halves_le h2)]
      show _ = frac ((((if l.eraseDups.length = (halves l).length then 1 else 0) * 2 ^ (Sr59.coins d.s - (halves l).length) : Nat)) : Int) _
      rw [if_pos e2, Nat.one_mul, Int.one_mul, e2]
theorem mean_ways {d : Sr59.Desk} (h : ∀ t ∈ d.terms, GoodK (Sr59.coins d.s) t.sort) : Sr59.trueMean d = frac ((d.terms.map fun t => t.w * ((waysOf (Sr59.coins d.s) t.sort : Nat) : Int)).sum) (2 ^ Sr59.coins d.s) :=
  mean_frac (two_pos _) (fun k => ((waysOf (Sr59.coins d.s) k : Nat) : Int)) fun t ht => likely_ways (h t ht)
theorem mean_seeds (d : Sr59.Desk) : Sr59.seedMean d = frac ((d.terms.map fun t => t.w * ((hits d.s (List.range (Sr59.seeds d.s)) t.sort : Nat) : Int)).sum) (Sr59.seeds d.s) := by
  rw [seedMean_eq, seeds_sum]
/-! ### of each seed, whether it's so -/
def soI (s : Sr59.Space) (k : Kind) : List Int := (List.range (2 ^ (s.m * s.k))).map fun x => Sr58.bit (Sr58.holds (Sr59.row s x) k)
theorem soI_len (s : Sr59.Space) (k : Kind) : (soI s k).length = 2 ^ (s.m * s.k) := by
  unfold soI
  rw [List.length_map, List.length_range]
theorem soI_at {s : Sr59.Space} {k : Kind} {x : Nat} (h : x < 2 ^ (s.m * s.k)) : (soI s k)[x]? = some (Sr58.bit (Sr58.holds (Sr59.row s x) k)) := by
  unfold soI
  rw [List.getElem?_map, List.getElem?_range h]
  rfl
theorem sum_bits (p : Nat → Bool) : ∀ l : List Nat, (l.map fun x => Sr58.bit (p x)).sum = ((l.filter p).length : Int)
  | [] => rfl
  | x :: l => by
    rw [List.map_cons, List.sum_cons, sum_bits p l, List.filter_cons]
    cases p x
    · simp [Sr58.bit]
    · simp [Sr58.bit]
      omega
theorem soI_sum (s : Sr59.Space) (k : Kind) : (soI s k).sum = ((hits s (List.range (Sr59.seeds s)) k : Nat) : Int) := sum_bits _ _
theorem worth_bits (d : Sr59.Desk) (x : Nat) : Sr59.worth d x = (d.terms.map fun t => t.w * Sr58.bit (Sr58.holds (Sr59.row d.s x) t.sort)).sum := by
  rw [worth_sum]
  congr 1
  refine List.map_congr_left fun t _ => ?_
  cases Sr58.holds (Sr59.row d.s x) t.sort <;> simp [Sr58.bit]
/-! ### the best -/
theorem better_on {much : Bool} {a b x : Int} (h : better much a b = true) (g : better much a x = false) : better much b x = false ∧ x ≠ b := by
  unfold better at *
  cases much
  · rw [if_neg (by simp), decide_eq_true_eq] at h
    rw [if_neg (by simp), decide_eq_false_iff_not] at g
    rw [if_neg (by simp), decide_eq_false_iff_not]
    omega
  · rw [if_pos rfl, decide_eq_true_eq] at h
    rw [if_pos rfl, decide_eq_false_iff_not] at g
    rw [if_pos rfl, decide_eq_false_iff_not]
    omega
theorem bestOf_spec (d : Sr59.Desk) : ∀ n, bestOf d (n + 1) < n + 1 ∧ (∀ x, x < n + 1 → better d.much (Sr59.worth d (bestOf d (n + 1))) (Sr59.worth d x) = false) ∧ ∀ x, x < bestOf d (n + 1) → Sr59.worth d x ≠ Sr59.worth d (bestOf d (n + 1))
  | 0 => by
    have e : bestOf d 1 = 0 := by
      rw [bestOf_succ]
      show (if _ then 0 else 0) = 0
      split <;> rfl
    rw [e]
    refine ⟨by omega, fun x hx => ?_, fun x hx => by omega⟩
    obtain rfl : x = 0 := by omega
    unfold better
    cases d.much <;> simp
  | n + 1 => by
    obtain ⟨h1, h2, h3⟩ := bestOf_spec d n
    rw [bestOf_succ d (n + 1)]
    cases e : better d.much (Sr59.worth d (bestOf d (n + 1))) (Sr59.worth d (n + 1)) with
    | true =>
      rw [if_pos rfl]
      refine ⟨by omega, fun x hx => ?_, fun x hx => ?_⟩
      · by_cases hx2 : x = n + 1
        · subst hx2
          unfold better
          cases d.much <;> simp
        · exact (better_on e (h2 x (by omega))).1
      · exact (better_on e (h2 x (by omega))).2
    | false =>
      rw [if_neg (by simp)]
      refine ⟨by omega, fun x hx => ?_, h3⟩
      by_cases hx2 : x = n + 1
      · subst hx2
        exact e
      · exact h2 x (by omega)
theorem best_spec (d : Sr59.Desk) : Sr59.best d < Sr59.seeds d.s ∧ (∀ x, x < Sr59.seeds d.s → better d.much (Sr59.worth d (Sr59.best d)) (Sr59.worth d x) = false) ∧ ∀ x, x < Sr59.best d → Sr59.worth d x ≠ Sr59.worth d (Sr59.best d) := by
  have hp : 0 < Sr59.seeds d.s := Nat.pow_pos (by decide)
  rw [best_eq]
  obtain ⟨n, hn⟩ : ∃ n, Sr59.seeds d.s = n + 1 := ⟨Sr59.seeds d.s - 1, by omega⟩
  rw [hn]
  exact bestOf_spec d n
/-! ### a row, looked at -/
theorem rowB_at {s : Sr59.Space} {x i : Nat} (h : i < 2 ^ s.m) : (Sr59.row s x).getD i false = Sr59.coin s x i := by
  unfold Sr59.row Sr59.coins
  rw [List.getD_eq_getElem?_getD, List.getElem?_map, List.getElem?_range h]
  rfl
theorem coin_lit (s : Sr59.Space) (x t : Nat) : (coinN s x (t / 2) == t % 2) = (Sr59.coin s x (t / 2) == (t % 2 == 1)) := coinN_beq s x (t / 2) (Nat.mod_lt _ (by decide))
theorem holds_all {s : Sr59.Space} {x : Nat} {l : List Nat} (h : ∀ t ∈ l, t < 2 * 2 ^ s.m) : Sr58.holds (Sr59.row s x) (.all l) = l.all fun t => coinN s x (t / 2) == t % 2 := by
  show l.all (Sr58.lit (Sr59.row s x)) = _
  induction l with
  | nil => rfl
  | cons t l ih =>
    rw [List.all_cons, List.all_cons, ih fun y hy => h y (List.mem_cons_of_mem _ hy)]
    congr 1
    unfold Sr58.lit
    rw [rowB_at (by have := h t List.mem_cons_self; omega), coin_lit]
theorem ones_sum {s : Sr59.Space} {x : Nat} : ∀ {l : List Nat}, (∀ c ∈ l, c < 2 ^ s.m) → Sr58.ones (Sr59.row s x) l = (l.map (coinN s x)).sum
  | [], _ => rfl
  | c :: l, h => by
    rw [List.map_cons, List.sum_cons, ← ones_sum fun y hy => h y (List.mem_cons_of_mem _ hy)]
    unfold Sr58.ones coinN
    rw [List.filter_cons, rowB_at (h c List.mem_cons_self)]
    cases Sr59.coin s x c
    · simp
    · simp
      omega
theorem holds_many {s : Sr59.Space} {x t : Nat} {l : List Nat} (h : ∀ c ∈ l, c < 2 ^ s.m) : Sr58.holds (Sr59.row s x) (.many t l) = decide (t ≤ (l.map (coinN s x)).sum) := by
  show decide (t ≤ Sr58.ones (Sr59.row s x) l) = _
  rw [ones_sum h]
/-! ### ways by how many are 1 -/
def binRow (n : Nat) : List Nat := (List.range (n + 1)).map (binom n)
theorem binRow_len (n : Nat) : (binRow n).length = n + 1 := by
  unfold binRow
  rw [List.length_map, List.length_range]
theorem binRow_at {n i : Nat} (h : i < n + 1) : (binRow n)[i]? = some (binom n i) := by
  unfold binRow
  rw [List.getElem?_map, List.getElem?_range h]
  rfl
theorem binom_le : ∀ n k, binom n k ≤ 2 ^ n
  | n, 0 => by
    rw [binom_zero]
    exact two_pos n
  | 0, k + 1 => Nat.zero_le _
  | n + 1, k + 1 => by
    have h1 := binom_le n k
    have h2 := binom_le n (k + 1)
    rw [binom_succ, Nat.pow_succ]
    omega
theorem sum_le {b : Nat} : ∀ {l : List Nat}, (∀ x ∈ l, x ≤ b) → l.sum ≤ l.length * b
  | [], _ => by simp
  | x :: l, h => by
    have ih := sum_le fun y hy => h y (List.mem_cons_of_mem _ hy)
    have := h x List.mem_cons_self
    rw [List.sum_cons, List.length_cons, Nat.succ_mul]
    omega
theorem atLeast_eq (n t : Nat) : atLeast n t = ((binRow n).drop t).sum := by
  unfold atLeast binRow
  rw [List.map_drop]
theorem atLeast_lt {n t : Nat} (h : n ≤ 64) : atLeast n t < 2 ^ 100 := by
  rw [atLeast_eq]
  have h1 : ((binRow n).drop t).sum ≤ ((binRow n).drop t).length * 2 ^ n := sum_le fun x hx => by
    have hx := List.mem_of_mem_drop hx
    unfold binRow at hx
    obtain ⟨k, _, rfl⟩ := List.mem_map.mp hx
    exact binom_le n k
  have h2 : ((binRow n).drop t).length ≤ 65 := by
    rw [List.length_drop, binRow_len]
    omega
  have h3 : 2 ^ n ≤ 2 ^ 64 := Nat.pow_le_pow_right (by decide) h
  have h4 := Nat.mul_le_mul h2 h3
  omega
theorem bin_step {n i : Nat} (h : i < n + 2) : ∃ a b, (0 :: binRow n)[i]? = some a ∧ (binRow n ++ [0])[i]? = some b ∧ a + b = binom (n + 1) i := by
  cases i with
  | zero =>
    refine ⟨0, 1, rfl, ?_, by rw [binom_zero]⟩
    rw [List.getElem?_append_left (by rw [binRow_len]; omega), binRow_at (by omega), binom_zero]
  | succ i =>
    by_cases hi : i < n
    · refine ⟨binom n i, binom n (i + 1), ?_, ?_, (binom_succ n i).symm⟩
      · rw [List.getElem?_cons_succ]
        exact binRow_at (by omega)
      · rw [List.getElem?_append_left (by rw [binRow_len]; omega), binRow_at (by omega)]
    · obtain rfl : i = n := by omega
      refine ⟨binom i i, 0, ?_, ?_, ?_⟩
      · rw [List.getElem?_cons_succ]
        exact binRow_at (by omega)
      · rw [List.getElem?_append_right (by rw [binRow_len]; omega), binRow_len, Nat.sub_self]
        rfl
      · rw [binom_succ, binom_over (n := i) (k := i + 1) (by omega)]
/-! ### a rising row is no longer than the coins are many -/
theorem up_len {n : Nat} : ∀ (l : List Int) (last : Int), -1 ≤ last → upFrom n last l = true → (l.length : Int) + last + 1 ≤ (n : Int) ∨ l = []
  | [], _, _, _ => .inr rfl
  | x :: l, last, h0, h => by
    have h : (if decide (x ≤ last) || !inR n x then false else upFrom n x l) = true := h
    cases c : (decide (x ≤ last) || !inR n x) with
    | true =>
      rw [c, if_pos rfl] at h
      cases h
    | false =>
      rw [c, if_neg (by simp)] at h
      rw [Bool.or_eq_false_iff, decide_eq_false_iff_not] at c
      have hi : inR n x = true := by
        cases e : inR n x
        · rw [e] at c
          exact absurd c.2 (by decide)
        · rfl
      unfold inR at hi
      rw [Bool.and_eq_true, decide_eq_true_eq, decide_eq_true_eq] at hi
      rcases up_len l x (by omega) h with g | rfl
      · left
        rw [List.length_cons]
        omega
      · left
        simp
        omega
theorem up_le {n : Nat} {l : List Int} (h : upFrom n (-1) l = true) : l.length ≤ n := by
  rcases up_len l (-1) (by omega) h with g | rfl
  · omega
  · exact Nat.zero_le _
end Few
set_option Elab.async false
set_option linter.all false
set_option maxRecDepth 100000
set_option maxHeartbeats 2000000
/-! ### numbers -/
namespace Few
open PySem PySem.Spec PyProof.Rows L2 Evl
theorem bits_split (n : Nat) : n = 2 * (n / 2) + n % 2 := by omega
theorem xor_mod2 (a b : Nat) : (a ^^^ b) % 2 = (a + b) % 2 := by
  have h : (a ^^^ b) % 2 ^ 1 = (a % 2 ^ 1) ^^^ (b % 2 ^ 1) := Nat.xor_mod_two_pow
  rw [Nat.pow_one] at h
  rw [h]
  rcases Nat.mod_two_eq_zero_or_one a with ha | ha <;> rcases Nat.mod_two_eq_zero_or_one b with hb | hb <;> rw [ha, hb] <;> simp <;> omega
theorem and_mod2 (a b : Nat) : (a &&& b) % 2 = (a % 2) * (b % 2) := by
  have h : (a &&& b) % 2 ^ 1 = (a % 2 ^ 1) &&& (b % 2 ^ 1) := Nat.and_mod_two_pow
  rw [Nat.pow_one] at h
  rw [h]
  rcases Nat.mod_two_eq_zero_or_one a with ha | ha <;> rcases Nat.mod_two_eq_zero_or_one b with hb | hb <;> rw [ha, hb] <;> simp
theorem xor_add : ∀ (a b : Nat), (a ^^^ b) + 2 * (a &&& b) = a + b := by
  intro a
  induction a using Nat.strongRecOn with
  | _ a ih =>
    intro b
    by_cases h : a = 0
    · subst h; simp
    · have i := ih (a / 2) (by omega) (b / 2)
      have m1 : (a ^^^ b) / 2 = (a / 2) ^^^ (b / 2) := Nat.xor_div_two
      have m2 : (a &&& b) / 2 = (a / 2) &&& (b / 2) := Nat.and_div_two
      rw [bits_split (a ^^^ b), bits_split (a &&& b), m1, m2, xor_mod2, and_mod2]
      generalize (a / 2 ^^^ b / 2) = u at *
      generalize (a / 2 &&& b / 2) = v at *
      rcases Nat.mod_two_eq_zero_or_one a with ha | ha <;> rcases Nat.mod_two_eq_zero_or_one b with hb | hb <;> simp only [ha, hb] <;> omega
theorem xor_nat (a b : Nat) : Builtin.bitXor (a : Int) (b : Int) = ((a ^^^ b : Nat) : Int) := by
  rw [bitXor_and, PySem.W.os_band]
  have := xor_add a b
  omega
theorem and_nat (a b : Nat) : Builtin.bitAnd (a : Int) (b : Int) = ((a &&& b : Nat) : Int) := PySem.W.os_band a b
theorem and_one (a : Nat) : Builtin.bitAnd (a : Int) 1 = ((a % 2 : Nat) : Int) := by
  have := and_nat a 1
  rw [show ((1 : Nat) : Int) = 1 from rfl] at this
  rw [this, Nat.and_one_is_mod]
theorem shl_nat (a j : Nat) : (a : Int) * 2 ^ (j : Int).toNat = ((a <<< j : Nat) : Int) := by
  rw [Int.toNat_natCast, Nat.shiftLeft_eq, Int.natCast_mul, Int.natCast_pow]
  rfl
theorem shr_nat (a j : Nat) : (a : Int) / 2 ^ (j : Int).toNat = ((a >>> j : Nat) : Int) := by
  rw [Int.toNat_natCast, Nat.shiftRight_eq_div_pow, Int.natCast_ediv, Int.natCast_pow]
  rfl
theorem bits_nat (n : Nat) : Builtin.Int.intBits (n : Int) = bits n := by
  unfold Builtin.Int.intBits bits
  rw [Int.natAbs_natCast]
  by_cases h : n = 0
  · subst h
    rfl
  · rw [if_neg h, if_neg (by simp; omega)]

/-! ### defs, methods, classes by what they promise -/
/-- a def of the module: where it stands, and its promise -/
def Ok (P : Program) (w : World) (K : PySem.W.Frag) (mg : Str → Option Value) (base : Heap) (k : Nat) (x : Str) (ps : List Str) (sp : Sp) : Prop :=
  ∃ f fd, mg x = some (.ref f) ∧ PySem.W.keepIn K (.ref f) = true ∧ Binds K fd ps [] ∧ FnOk P w K mg base CX0 k f fd ps sp
/-- a method -/
def OkM (P : Program) (w : World) (K : PySem.W.Frag) (mg : Str → Option Value) (base : Heap) (k : Nat) (C : Addr) (m : Str) (ps : List Str) (sp : Sp) : Prop :=
  ∃ f fd, Meth K C m f ∧ Binds K fd ps [] ∧ FnOk P w K mg base CX0 k f fd ps sp
/-- a class by its __init__ -/
def OkC (P : Program) (w : World) (K : PySem.W.Frag) (mg : Str → Option Value) (base : Heap) (k : Nat) (x : Str) (C : Addr) (ps : List Str) (sp : Sp) : Prop :=
  ∃ f fd, mg x = some (.ref C) ∧ Mk K C f ∧ Binds K fd ps [] ∧ FnOk P w K mg base CX0 k f fd ps sp
section
variable {P : Program} {w : World} {K : PySem.W.Frag} {mg : Str → Option Value} {base : Heap} {k : Nat} {x m : Str} {C : Addr} {ps : List Str} {sp : Sp} {R : Prop}
theorem by_fn (O : Ok P w K mg base k x ps sp) (h : ∀ f fd, mg x = some (.ref f) → PySem.W.keepIn K (.ref f) = true → Binds K fd ps [] → FnOk P w K mg base CX0 k f fd ps sp → R) : R := by
  obtain ⟨f, fd, h1, h2, h3, h4⟩ := O
  exact h f fd h1 h2 h3 h4
theorem by_mth (O : OkM P w K mg base k C m ps sp) (h : ∀ f fd, Meth K C m f → Binds K fd ps [] → FnOk P w K mg base CX0 k f fd ps sp → R) : R := by
  obtain ⟨f, fd, h1, h2, h3⟩ := O
  exact h f fd h1 h2 h3
theorem by_cls (O : OkC P w K mg base k x C ps sp) (h : ∀ f fd, mg x = some (.ref C) → Mk K C f → Binds K fd ps [] → FnOk P w K mg base CX0 k f fd ps sp → R) : R := by
  obtain ⟨f, fd, h1, h2, h3, h4⟩ := O
  exact h f fd h1 h2 h3 h4
end
/-! ### what evaluates to what: fields, methods, calls -/
section
variable {K : PySem.W.Frag} {σ : L2.St} {H H' : Hp} {ta tb te : TE} {z v : V} {a C dx : Addr} {fs : List (Str × V)} {f m : Str} {sp : Sp} {E : XK} {t : TA} {vs : List V}
theorem ev_fld (h : Ev ta σ H (.ref a)) (ho : H a = some (.ins C dx fs)) (c : Cls K C) (n : NoAttr K C f) (hl : fs.lookup f = some v) : Ev (tFld K ta f) σ H v := fun H1 e Q q =>
  h H1 e _ fun H2 e2 => ⟨a, C, dx, fs, v, rfl, e2 a _ (e a _ ho), c, n, hl, q H2 e2⟩
theorem ev_meth (h : Ev ta σ H (.ref a)) (ho : H a = some (.ins C dx fs)) (hl : fs.lookup m = none) (hv : EvA t σ H vs) (hs : SpV sp (.ref a :: vs) H z) : Ev (tMeth C m sp [] E ta t) σ H z := fun H1 e Q q =>
  h H1 e _ fun H2 e2 => ⟨a, dx, fs, rfl, e2 a _ (e a _ ho), hl, hv H2 (e.trans e2) _ fun H3 e3 => by
    rw [List.append_nil]
    exact hs H3 ((e.trans e2).trans e3) Q (fun H4 e4 => q H4 ((e2.trans e3).trans e4)) E⟩
theorem el_meth {xs : List V} (h : Ev ta σ H (.ref a)) (ho : H a = some (.ins C dx fs)) (hl : fs.lookup m = none) (hv : EvA t σ H vs) (hs : SpL sp (.ref a :: vs) H xs) : EvL (tMeth C m sp [] E ta t) σ H xs := fun H1 e Q q =>
  h H1 e _ fun H2 e2 => ⟨a, dx, fs, rfl, e2 a _ (e a _ ho), hl, hv H2 (e.trans e2) _ fun H3 e3 => by
    rw [List.append_nil]
    exact hs H3 ((e.trans e2).trans e3) Q (fun p H4 hp e4 h4 => q p H4 (fresh_back (e2.trans e3) hp) ((e2.trans e3).trans e4) h4) E⟩
theorem ev_fn (hv : EvA t σ H vs) (hs : SpV sp vs H z) : Ev (tCall sp [] E t) σ H z := ev_call hv (by rw [List.append_nil]; exact hs)
theorem el_fn {xs : List V} (hv : EvA t σ H vs) (hs : SpL sp vs H xs) : EvL (tCall sp [] E t) σ H xs := el_call hv (by rw [List.append_nil]; exact hs)
theorem ev_bits {i : Int} (h : Ev ta σ H (.int i)) : Ev (tBits ta) σ H (.int (Builtin.Int.intBits i : Nat)) := fun H1 e Q q =>
  h H1 e _ fun H2 e2 => ⟨i, rfl, q H2 e2⟩
theorem sq_mono {xs : List V} (e : Ex H H') (h : SqL K H a xs) : SqL K H' a xs := ex_l e h
end
end Few
set_option Elab.async false
set_option linter.all false
set_option maxRecDepth 100000
set_option maxHeartbeats 2000000
namespace Few
open PySem PySem.Spec PyProof.Rows L2 Evl
theorem pe_gref {X : Cx} {x : Str} {a : Addr} {pos : Pos} (hg : Gl X x) (hm : X.mg x = some (.ref a)) (hdb : (x == ("__debug__" : Str)) = false := by decide) : PE X (.Name x pos) (tC (.ref a)) := pe_glob hg hm rfl hdb
theorem pe_gint {X : Cx} {x : Str} {i : Int} {pos : Pos} (hg : Gl X x) (hm : ∃ u, X.mg x = some u ∧ L2.RelV (.int i) u) (hdb : (x == ("__debug__" : Str)) = false := by decide) : PE X (.Name x pos) (tC (.int i)) := by
  obtain ⟨u, hm, hu⟩ := hm
  exact pe_glob hg hm hu hdb
/-! ### rules whose reading names the written part K itself (in a comprehension's block, too) -/
section
variable {X : Cx} {K : PySem.W.Frag} {a b e o tg : Expr} {es : List Expr} {pos apos p : Pos} {ta tb te : TE} {t : TA} {f x : Str}
theorem pe_ixL (hK : X.K = K) (ha : PE X a ta) (hb : PE X b tb) (hs : PlainIx b) : PE X (.Subscript a b pos) (tOp (rIxL K) ta tb) := by
  subst hK
  exact pe_ix ix_list ha hb hs
theorem pe_ixT (hK : X.K = K) (ha : PE X a ta) (hb : PE X b tb) (hs : PlainIx b) : PE X (.Subscript a b pos) (tOp (rIxT K) ta tb) := by
  subst hK
  exact pe_ix ix_tup ha hb hs
theorem pe_fldK (hK : X.K = K) (he : PE X e ta) (hb : attributeBase e f X.env (eval e X.env) = eval e X.env) : PE X (.Attribute e f pos) (tFld K ta f) := by
  subst hK
  exact pe_fld he hb
theorem pi_listK (hK : X.K = K) (he : PE X e te) : PI X tg e (iList K te) := by
  subst hK
  exact pi_list he
theorem pi_tupK (hK : X.K = K) (he : PE X e te) : PI X tg e (iTup K te) := by
  subst hK
  exact pi_tup he
theorem cr_lenK (hK : X.K = K) : CallR X (.builtin "len") (rLenS K) := by
  subst hK
  exact call_len_seq
theorem cr_sumK (hK : X.K = K) (hc : X.calm = true) : CallR X (.builtin "sum") (rSum K) := by
  subst hK
  exact cr_sum hc
theorem sl_listK (hK : X.K = K) : SlR X (rSlL K) := by
  subst hK
  exact sl_list
end
/-! ### while, the next turn's word written out -/
section
variable {σ : L2.St} {H : Hp} {t : TT} {tu tz : TS} {D : Ends}
def Less (W : Nat → L2.St → Hp → Prop) (m : Nat) : L2.St → Hp → Prop := fun σ2 H2 => ∃ m', m' < m ∧ W m' σ2 H2
theorem q_whl (W : Nat → L2.St → Hp → Prop) (m0 : Nat) (h0 : W m0 σ H)
    (hs : ∀ m σ' H', W m σ' H' → ∃ b, EvT t σ' H' b ∧ (b = true → ∀ H1, Ex H' H1 → tu { D with nx := Less W m, ct := Less W m, bk := tz D } σ' H1) ∧ (b = false → ∀ H1, Ex H' H1 → tz D σ' H1)) : tSeq (tWhile t tu) tz D σ H :=
  q_while W m0 h0 fun m σ' H' hw => by
    obtain ⟨b, h1, h2, h3⟩ := hs m σ' H' hw
    exact ⟨b, h1, fun hb H1 e => ⟨Less W m, fun _ _ h => h, h2 hb H1 e⟩, h3⟩
end
/-- the part of a heap that is new -/
def newPart (H H2 : Hp) : Hp := fun b => match H b with
  | none => H2 b
  | some _ => none
theorem newPart_of {H H2 : Hp} {b : Addr} {o : HO} (h : H b = none) (h2 : H2 b = some o) : newPart H H2 b = some o := by
  unfold newPart
  rw [h]
  exact h2
theorem newPart_ex {H H2 : Hp} : Ex (newPart H H2) H2 := fun b o h => by
  unfold newPart at h
  split at h
  · exact h
  · cases h
theorem newPart_none {H H2 : Hp} {b : Addr} {o : HO} (h : newPart H H2 b = some o) : H b = none := by
  unfold newPart at h
  split at h
  · assumption
  · cases h
theorem np_ex {H0 H1 H2 H3 : Hp} (a : Ex H0 H1) (c : Ex H2 H3) : Ex (newPart H1 H2) (newPart H0 H3) := fun b o h => newPart_of (fresh_back a (newPart_none h)) (c _ _ (newPart_ex _ _ h))
/-! ### lists of lists -/
def Rows (H : Hp) (p : Addr) (rows : List (List V)) : Prop := ∃ ps : List Addr, H p = some (.lst (ps.map V.ref)) ∧ ps.length = rows.length ∧ ∀ (i : Nat) (row : List V), rows[i]? = some row → ∃ a, ps[i]? = some a ∧ H a = some (.lst row)
theorem Rows.mono {H H' : Hp} {p : Addr} {rows : List (List V)} (e : Ex H H') (h : Rows H p rows) : Rows H' p rows := by
  obtain ⟨ps, h1, h2, h3⟩ := h
  exact ⟨ps, e _ _ h1, h2, fun i row hi => by
    obtain ⟨a, ha, hb⟩ := h3 i row hi
    exact ⟨a, ha, e _ _ hb⟩⟩
/-- a new list of new lists -/
def EvR (te : TE) (σ : L2.St) (H : Hp) (rows : List (List V)) : Prop := ∀ H1, Ex H H1 → ∀ Q : VK, (∀ p H2, H1 p = none → Ex H1 H2 → Rows (newPart H1 H2) p rows → Q (.ref p) H2) → te σ H1 Q
theorem EvR.mono {te : TE} {σ : L2.St} {H H' : Hp} {rows : List (List V)} (e : Ex H H') (h : EvR te σ H rows) : EvR te σ H' rows := fun H1 a Q q => h H1 (e.trans a) Q q
def Cr (H : Hp) (v : Nat → List V) (Dl : Addr) (i : Nat) (H' : Hp) : Prop := H Dl = none ∧ Ex H H' ∧ ∃ ps : List Addr, H' Dl = some (.lst (ps.map V.ref)) ∧ ps.length = i ∧ ∀ k : Nat, k < i → ∃ a, ps[k]? = some a ∧ (a ≠ Dl ∧ H a = none) ∧ H' a = some (.lst (v k))
section
variable {K : PySem.W.Frag} {σ σ2 : L2.St} {H H' : Hp} {te tl : TE} {v : Nat → List V} {Dl : Addr} {i : Nat}
theorem cr_step {H1 : Hp} {ps : List Addr} {q : Addr} (p1 : H Dl = none) (p2 : Ex H H') (p3 : H' Dl = some (.lst (ps.map V.ref))) (p4 : ps.length = i) (p5 : ∀ k : Nat, k < i → ∃ a, ps[k]? = some a ∧ (a ≠ Dl ∧ H a = none) ∧ H' a = some (.lst (v k))) (hq : H' q = none) (e4 : Ex H' H1) (h4 : H1 q = some (.lst (v i))) :
    Cr H v Dl (i + 1) (upd H1 Dl (.lst (ps.map V.ref ++ [.ref q]))) := by
  refine ⟨p1, Ex.mut (p2.trans e4) p1, ps ++ [q], ?_, ?_, ?_⟩
  · rw [upd_same, List.map_append]
    rfl
  · rw [List.length_append, p4]
    rfl
  · have nq : q ≠ Dl := fun e => by
      rw [e, p3] at hq
      cases hq
    intro k hk
    by_cases hki : k < i
    · obtain ⟨a, ha, na, hb⟩ := p5 k hki
      refine ⟨a, ?_, na, ?_⟩
      · rw [List.getElem?_append_left (by omega)]
        exact ha
      · rw [upd_ne na.1]
        exact e4 _ _ hb
    · have ek : k = i := by omega
      subst ek
      refine ⟨q, ?_, ⟨nq, fresh_back p2 hq⟩, ?_⟩
      · rw [← p4, List.getElem?_append_right (Nat.le_refl _), Nat.sub_self]
        rfl
      · rw [upd_ne nq]
        exact h4
theorem cr_turn (p : Cr H v Dl i H') (hi : i < 50000) (he : EvL te σ2 H' (v i)) :
    te σ2 H' fun y H4 => ∃ acc, H4 Dl = some (.lst acc) ∧ acc.length < sizeLine ∧ Cr H v Dl (i + 1) (upd H4 Dl (.lst (acc ++ [y]))) := by
  obtain ⟨p1, p2, ps, p3, p4, p5⟩ := p
  exact he H' (Ex.refl H') _ fun q H4 hq e4 h4 => ⟨ps.map V.ref, e4 _ _ p3, sz_lt (by rw [List.length_map]; omega), cr_step p1 p2 p3 p4 p5 hq e4 h4⟩
theorem cr_end {n : Nat} (p : Cr H v Dl n H') : Rows H' Dl ((List.range n).map v) := by
  obtain ⟨p1, p2, ps, p3, p4, p5⟩ := p
  refine ⟨ps, p3, by rw [p4, List.length_map, List.length_range], fun i row hi => ?_⟩
  rw [List.getElem?_map] at hi
  by_cases h : i < n
  · rw [List.getElem?_range h] at hi
    obtain ⟨a, ha, _, hb⟩ := p5 i h
    refine ⟨a, ha, ?_⟩
    rw [hb]
    exact congrArg (fun x => some (HO.lst x)) (Option.some.inj hi)
  · rw [List.getElem?_eq_none (by rw [List.length_range]; omega)] at hi
    cases hi
theorem cr_new {H0 : Hp} {n : Nat} (e0 : Ex H0 H) (p : Cr H v Dl n H') : Rows (newPart H0 H') Dl ((List.range n).map v) := by
  obtain ⟨p1, p2, ps, p3, p4, p5⟩ := p
  refine ⟨ps, newPart_of (fresh_back e0 p1) p3, by rw [p4, List.length_map, List.length_range], fun i row hi => ?_⟩
  rw [List.getElem?_map] at hi
  by_cases h : i < n
  · rw [List.getElem?_range h] at hi
    obtain ⟨a, ha, na, hb⟩ := p5 i h
    refine ⟨a, ha, newPart_of (fresh_back e0 na.2) ?_⟩
    rw [hb]
    exact congrArg (fun x => some (HO.lst x)) (Option.some.inj hi)
  · rw [List.getElem?_eq_none (by rw [List.length_range]; omega)] at hi
    cases hi
theorem er_lcR1 {ta : TA} {j : Nat} {vs : List Nat} {n : Int} (v : Nat → List V) (h : EvA ta σ H [.int n]) (hn : 0 ≤ n ∧ n ≤ 40000) (hw : ∀ x, wipe ((wipe σ vs).set j (some x)) vs = wipe σ vs)
    (he : ∀ (i : Nat) H1, Ex H H1 → (i : Int) < n → EvL te ((wipe σ vs).set j (some (.int (i : Int)))) H1 (v i)) :
    EvR (tLc (iRng1 ta) (gName j) tYes te vs) σ H ((List.range n.toNat).map v) := fun H0 e Q q => h H0 e _ fun H1 e1 => ⟨n, rfl, by omega, by omega, fun Dl hD =>
  lc_range (lo := 0) (n := n.toNat) (Cr H1 v Dl) ⟨hD, Ex.new hD, [], upd_same, rfl, fun k hk => absurd hk (Nat.not_lt_zero k)⟩ (fun i H' hi p => by
    have e0 : (0 : Int) + (i : Int) = (i : Int) := Int.zero_add _
    show wipe ((wipe σ vs).set j (some (.int ((0 : Int) + (i : Int))))) vs = wipe σ vs ∧ te ((wipe σ vs).set j (some (.int ((0 : Int) + (i : Int))))) H' fun y H4 => ∃ acc, H4 Dl = some (.lst acc) ∧ acc.length < sizeLine ∧ Cr H1 v Dl (i + 1) (upd H4 Dl (.lst (acc ++ [y])))
    rw [e0]
    exact ⟨hw _, cr_turn p (by omega) (he i H' ((e.trans e1).trans p.2.1) (by omega))⟩) (fun H' p => q Dl H' (fresh_back e1 p.1) (e1.trans p.2.1) (cr_new e1 p))⟩
/-! ### comprehensions without a test -/
theorem given_all (n : Nat) (v : Nat → V) : given n (fun _ => true) v = (List.range n).map v := by
  unfold given
  rw [List.filter_eq_self.mpr fun _ _ => rfl]
theorem el_lcR {ta : TA} {j : Nat} {vs : List Nat} {n : Int} (v : Nat → V) (h : EvA ta σ H [.int n]) (hn : 0 ≤ n ∧ n ≤ 40000) (hw : ∀ x, wipe ((wipe σ vs).set j (some x)) vs = wipe σ vs)
    (he : ∀ (i : Nat) H1, Ex H H1 → (i : Int) < n → Ev te ((wipe σ vs).set j (some (.int (i : Int)))) H1 (v i)) :
    EvL (tLc (iRng1 ta) (gName j) tYes te vs) σ H ((List.range n.toNat).map v) := by
  rw [← given_all]
  exact el_lcR1 (fun _ => true) v h hn hw (fun _ _ _ _ H1 _ Q q => q H1 (Ex.refl H1)) (fun i H1 e hi _ => he i H1 e hi)
/-- over a list that is read: by its items -/
theorem el_lcI {a : Addr} {xs : List V} {j : Nat} {vs : List Nat} (v : V → V) (h : Ev tl σ H (.ref a)) (hx : SqL K H a xs) (hz : xs.length ≤ 40000) (hw : ∀ x, wipe ((wipe σ vs).set j (some x)) vs = wipe σ vs)
    (he : ∀ (x : V) H1, Ex H H1 → x ∈ xs → Ev te ((wipe σ vs).set j (some x)) H1 (v x)) : EvL (tLc (iList K tl) (gName j) tYes te vs) σ H (xs.map v) := by
  have hm : given xs.length (fun _ => true) (fun i => v (xs.getD i .non)) = xs.map v := by
    rw [given_all]
    refine List.ext_getElem? fun i => ?_
    rw [List.getElem?_map, List.getElem?_map]
    by_cases hi : i < xs.length
    · rw [List.getElem?_range hi, List.getElem?_eq_getElem hi]
      simp [List.getD_eq_getElem?_getD, hi]
    · rw [List.getElem?_eq_none (by rw [List.length_range]; omega), List.getElem?_eq_none (by omega)]
      rfl
  rw [← hm]
  refine el_lcL (fun _ => true) (fun i => v (xs.getD i .non)) h hx hz hw (fun _ _ _ _ _ H1 _ Q q => q H1 (Ex.refl H1)) (fun i x H1 e hi _ => ?_)
  have ex : xs.getD i .non = x := by rw [List.getD_eq_getElem?_getD, hi]; rfl
  rw [ex]
  exact he x H1 e (List.mem_of_getElem? hi)
end
end Few
set_option Elab.async false
set_option linter.all false
set_option maxRecDepth 100000
set_option maxHeartbeats 2000000
namespace Few
open PySem PySem.Spec PyProof.Rows L2 Evl
def top (i : Nat) : Stmt := PySem.Challenge.pw_fewcoins_s01_answers.main.body.getD i (.Pass ⟨0, 0, 0, 0⟩)
abbrev s_polynomial_product : Stmt := top 2
theorem sc_polynomial_product : FnScope ["x", "y", "m", "total", "place"] ["x", "y", "m"] (defScope s_polynomial_product) := ⟨rfl, rfl, rfl, by decide +kernel, rfl, by decide +kernel, by decide +kernel⟩
abbrev s_brought_down : Stmt := top 3
theorem sc_brought_down : FnScope ["number", "m", "divisor", "rest"] ["number", "m"] (defScope s_brought_down) := ⟨rfl, rfl, rfl, by decide +kernel, rfl, by decide +kernel, by decide +kernel⟩
abbrev s_products_with : Stmt := top 4
theorem sc_products_with : FnScope ["x", "m", "y"] ["x", "m"] (defScope s_products_with) := ⟨rfl, rfl, rfl, by decide +kernel, rfl, by decide +kernel, by decide +kernel⟩
abbrev s_Field_init : Stmt := inClass (top 5) 0
theorem sc_Field_init : FnScope ["self", "m", "x"] ["self", "m"] (defScope s_Field_init) := ⟨rfl, rfl, rfl, by decide +kernel, rfl, by decide +kernel, by decide +kernel⟩
abbrev s_Field_holds : Stmt := inClass (top 5) 1
theorem sc_Field_holds : FnScope ["self", "x"] ["self", "x"] (defScope s_Field_holds) := ⟨rfl, rfl, rfl, by decide +kernel, rfl, by decide +kernel, by decide +kernel⟩
abbrev s_Field_product : Stmt := inClass (top 5) 2
theorem sc_Field_product : FnScope ["self", "x", "y"] ["self", "x", "y"] (defScope s_Field_product) := ⟨rfl, rfl, rfl, by decide +kernel, rfl, by decide +kernel, by decide +kernel⟩
abbrev s_Field_power : Stmt := inClass (top 5) 3
theorem sc_Field_power : FnScope ["self", "x", "e", "total", "step"] ["self", "x", "e"] (defScope s_Field_power) := ⟨rfl, rfl, rfl, by decide +kernel, rfl, by decide +kernel, by decide +kernel⟩
abbrev s_seed_numbers : Stmt := top 7
theorem sc_seed_numbers : FnScope ["field", "k", "seed", "numbers", "rest", "place"] ["field", "k", "seed"] (defScope s_seed_numbers) := ⟨rfl, rfl, rfl, by decide +kernel, rfl, by decide +kernel, by decide +kernel⟩
abbrev s_odd_ones : Stmt := top 8
theorem sc_odd_ones : FnScope ["number", "odd", "rest"] ["number"] (defScope s_odd_ones) := ⟨rfl, rfl, rfl, by decide +kernel, rfl, by decide +kernel, by decide +kernel⟩
abbrev s_first_powers : Stmt := top 9
theorem sc_first_powers : FnScope ["field", "x", "k", "e"] ["field", "x", "k"] (defScope s_first_powers) := ⟨rfl, rfl, rfl, by decide +kernel, rfl, by decide +kernel, by decide +kernel⟩
abbrev s_plain_coin : Stmt := top 10
theorem sc_plain_coin : FnScope ["field", "numbers", "powers", "total", "place", "number"] ["field", "numbers", "powers"] (defScope s_plain_coin) := ⟨rfl, rfl, rfl, by decide +kernel, rfl, by decide +kernel, by decide +kernel⟩
abbrev s_plain_rows : Stmt := top 11
theorem sc_plain_rows : FnScope ["field", "k", "seeds", "powers", "rows", "seed", "numbers", "i"] ["field", "k", "seeds"] (defScope s_plain_rows) := ⟨rfl, rfl, rfl, by decide +kernel, rfl, by decide +kernel, by decide +kernel⟩
abbrev s_faint_row : Stmt := top 12
theorem sc_faint_row : FnScope ["field", "numbers", "powers", "power"] ["field", "numbers"] (defScope s_faint_row) := ⟨rfl, rfl, rfl, by decide +kernel, rfl, by decide +kernel, by decide +kernel⟩
abbrev s_faint_rows : Stmt := top 13
theorem sc_faint_rows : FnScope ["field", "k", "seeds", "seed"] ["field", "k", "seeds"] (defScope s_faint_rows) := ⟨rfl, rfl, rfl, by decide +kernel, rfl, by decide +kernel, by decide +kernel⟩
abbrev s_lies_so : Stmt := top 14
theorem sc_lies_so : FnScope ["row", "coins", "lie", "place", "coin"] ["row", "coins", "lie"] (defScope s_lies_so) := ⟨rfl, rfl, rfl, by decide +kernel, rfl, by decide +kernel, by decide +kernel⟩
abbrev s_Coins_init : Stmt := inClass (top 15) 0
theorem sc_Coins_init : FnScope ["self", "m", "k", "faint"] ["self", "m", "k", "faint"] (defScope s_Coins_init) := ⟨rfl, rfl, rfl, by decide +kernel, rfl, by decide +kernel, by decide +kernel⟩
abbrev s_Coins_has_seed : Stmt := inClass (top 15) 1
theorem sc_Coins_has_seed : FnScope ["self", "s"] ["self", "s"] (defScope s_Coins_has_seed) := ⟨rfl, rfl, rfl, by decide +kernel, rfl, by decide +kernel, by decide +kernel⟩
abbrev s_Coins_has_coin : Stmt := inClass (top 15) 2
theorem sc_Coins_has_coin : FnScope ["self", "i"] ["self", "i"] (defScope s_Coins_has_coin) := ⟨rfl, rfl, rfl, by decide +kernel, rfl, by decide +kernel, by decide +kernel⟩
abbrev s_Coins_are_rising : Stmt := inClass (top 15) 3
theorem sc_Coins_are_rising : FnScope ["self", "coins", "last", "coin"] ["self", "coins"] (defScope s_Coins_are_rising) := ⟨rfl, rfl, rfl, by decide +kernel, rfl, by decide +kernel, by decide +kernel⟩
abbrev s_Coins_seeds_lying_so : Stmt := inClass (top 15) 4
theorem sc_Coins_seeds_lying_so : FnScope ["self", "coins", "lie", "row"] ["self", "coins", "lie"] (defScope s_Coins_seeds_lying_so) := ⟨rfl, rfl, rfl, by decide +kernel, rfl, by decide +kernel, by decide +kernel⟩
abbrev s_Coins_seeds_with_odd : Stmt := inClass (top 15) 5
theorem sc_Coins_seeds_with_odd : FnScope ["self", "coins", "row", "coin"] ["self", "coins"] (defScope s_Coins_seeds_with_odd) := ⟨rfl, rfl, rfl, by decide +kernel, rfl, by decide +kernel, by decide +kernel⟩
abbrev s_greatest_common : Stmt := top 17
theorem sc_greatest_common : FnScope ["x", "y", "greater", "smaller", "rest"] ["x", "y"] (defScope s_greatest_common) := ⟨rfl, rfl, rfl, by decide +kernel, rfl, by decide +kernel, by decide +kernel⟩
abbrev s_as_fraction : Stmt := top 18
theorem sc_as_fraction : FnScope ["upper", "lower", "common"] ["upper", "lower"] (defScope s_as_fraction) := ⟨rfl, rfl, rfl, by decide +kernel, rfl, by decide +kernel, by decide +kernel⟩
abbrev s_Term_init : Stmt := inClass (top 20) 0
theorem sc_Term_init : FnScope ["self", "weight", "looks_at", "ways", "so"] ["self", "weight", "looks_at", "ways", "so"] (defScope s_Term_init) := ⟨rfl, rfl, rfl, by decide +kernel, rfl, by decide +kernel, by decide +kernel⟩
abbrev s_is_all : Stmt := top 21
theorem sc_is_all : FnScope ["row", "lie", "told"] ["row", "lie"] (defScope s_is_all) := ⟨rfl, rfl, rfl, by decide +kernel, rfl, by decide +kernel, by decide +kernel⟩
abbrev s_is_many : Stmt := top 22
theorem sc_is_many : FnScope ["row", "chosen", "t", "coin"] ["row", "chosen", "t"] (defScope s_is_many) := ⟨rfl, rfl, rfl, by decide +kernel, rfl, by decide +kernel, by decide +kernel⟩
abbrev s_ways_by_ones : Stmt := top 23
theorem sc_ways_by_ones : FnScope ["how_many", "ways", "coin", "one_fewer", "as_many"] ["how_many"] (defScope s_ways_by_ones) := ⟨rfl, rfl, rfl, by decide +kernel, rfl, by decide +kernel, by decide +kernel⟩
abbrev s_all_term : Stmt := top 24
theorem sc_all_term : FnScope ["coins", "weight", "lie", "looks_at", "ways", "so", "told", "row"] ["coins", "weight", "lie"] (defScope s_all_term) := ⟨rfl, rfl, rfl, by decide +kernel, rfl, by decide +kernel, by decide +kernel⟩
abbrev s_many_term : Stmt := top 25
theorem sc_many_term : FnScope ["coins", "weight", "t", "chosen", "looks_at", "ways", "so", "row"] ["coins", "weight", "t", "chosen"] (defScope s_many_term) := ⟨rfl, rfl, rfl, by decide +kernel, rfl, by decide +kernel, by decide +kernel⟩
abbrev s_true_chance : Stmt := top 26
theorem sc_true_chance : FnScope ["coins", "term"] ["coins", "term"] (defScope s_true_chance) := ⟨rfl, rfl, rfl, by decide +kernel, rfl, by decide +kernel, by decide +kernel⟩
abbrev s_seeds_chance : Stmt := top 27
theorem sc_seeds_chance : FnScope ["coins", "term"] ["coins", "term"] (defScope s_seeds_chance) := ⟨rfl, rfl, rfl, by decide +kernel, rfl, by decide +kernel, by decide +kernel⟩
abbrev s_true_mean : Stmt := top 28
theorem sc_true_mean : FnScope ["coins", "terms", "term"] ["coins", "terms"] (defScope s_true_mean) := ⟨rfl, rfl, rfl, by decide +kernel, rfl, by decide +kernel, by decide +kernel⟩
abbrev s_seeds_mean : Stmt := top 29
theorem sc_seeds_mean : FnScope ["coins", "terms", "term"] ["coins", "terms"] (defScope s_seeds_mean) := ⟨rfl, rfl, rfl, by decide +kernel, rfl, by decide +kernel, by decide +kernel⟩
abbrev s_worth_of : Stmt := top 30
theorem sc_worth_of : FnScope ["terms", "s", "term"] ["terms", "s"] (defScope s_worth_of) := ⟨rfl, rfl, rfl, by decide +kernel, rfl, by decide +kernel, by decide +kernel⟩
abbrev s_can_begin : Stmt := top 57
theorem sc_can_begin : FnScope ["m", "k", "f"] ["m", "k", "f"] (defScope s_can_begin) := ⟨rfl, rfl, rfl, by decide +kernel, rfl, by decide +kernel, by decide +kernel⟩
abbrev s_is_weight : Stmt := top 58
theorem sc_is_weight : FnScope ["w"] ["w"] (defScope s_is_weight) := ⟨rfl, rfl, rfl, by decide +kernel, rfl, by decide +kernel, by decide +kernel⟩
abbrev s_answer_mul : Stmt := top 59
theorem sc_answer_mul : FnScope ["coins", "x", "y", "field"] ["coins", "x", "y"] (defScope s_answer_mul) := ⟨rfl, rfl, rfl, by decide +kernel, rfl, by decide +kernel, by decide +kernel⟩
abbrev s_answer_pow : Stmt := top 60
theorem sc_answer_pow : FnScope ["coins", "x", "e"] ["coins", "x", "e"] (defScope s_answer_pow) := ⟨rfl, rfl, rfl, by decide +kernel, rfl, by decide +kernel, by decide +kernel⟩
abbrev s_answer_coin : Stmt := top 61
theorem sc_answer_coin : FnScope ["coins", "s", "i"] ["coins", "s", "i"] (defScope s_answer_coin) := ⟨rfl, rfl, rfl, by decide +kernel, rfl, by decide +kernel, by decide +kernel⟩
abbrev s_answer_row : Stmt := top 62
theorem sc_answer_row : FnScope ["coins", "s"] ["coins", "s"] (defScope s_answer_row) := ⟨rfl, rfl, rfl, by decide +kernel, rfl, by decide +kernel, by decide +kernel⟩
abbrev s_answer_count : Stmt := top 63
theorem sc_answer_count : FnScope ["coins", "row", "lie", "side"] ["coins", "row", "lie"] (defScope s_answer_count) := ⟨rfl, rfl, rfl, by decide +kernel, rfl, by decide +kernel, by decide +kernel⟩
abbrev s_answer_odds : Stmt := top 64
theorem sc_answer_odds : FnScope ["coins", "row"] ["coins", "row"] (defScope s_answer_odds) := ⟨rfl, rfl, rfl, by decide +kernel, rfl, by decide +kernel, by decide +kernel⟩
abbrev s_can_lie : Stmt := top 65
theorem sc_can_lie : FnScope ["coins", "lie", "told"] ["coins", "lie"] (defScope s_can_lie) := ⟨rfl, rfl, rfl, by decide +kernel, rfl, by decide +kernel, by decide +kernel⟩
abbrev s_can_choose : Stmt := top 66
theorem sc_can_choose : FnScope ["coins", "t", "chosen"] ["coins", "t", "chosen"] (defScope s_can_choose) := ⟨rfl, rfl, rfl, by decide +kernel, rfl, by decide +kernel, by decide +kernel⟩
abbrev s_answer_of_coins : Stmt := top 67
theorem sc_answer_of_coins : FnScope ["coins", "call", "numbers"] ["coins", "call"] (defScope s_answer_of_coins) := ⟨rfl, rfl, rfl, by decide +kernel, rfl, by decide +kernel, by decide +kernel⟩
abbrev s_Line_init : Stmt := inClass (top 68) 0
theorem sc_Line_init : FnScope ["self"] ["self"] (defScope s_Line_init) := ⟨rfl, rfl, rfl, by decide +kernel, rfl, by decide +kernel, by decide +kernel⟩
abbrev s_Line_answer : Stmt := inClass (top 68) 1
theorem sc_Line_answer : FnScope ["self", "call"] ["self", "call"] (defScope s_Line_answer) := ⟨rfl, rfl, rfl, by decide +kernel, rfl, by decide +kernel, by decide +kernel⟩
abbrev s_Line_answer_change : Stmt := inClass (top 68) 2
theorem sc_Line_answer_change : FnScope ["self", "call", "numbers"] ["self", "call"] (defScope s_Line_answer_change) := ⟨rfl, rfl, rfl, by decide +kernel, rfl, by decide +kernel, by decide +kernel⟩
abbrev s_Line_answer_look : Stmt := inClass (top 68) 3
theorem sc_Line_answer_look : FnScope ["self", "call"] ["self", "call"] (defScope s_Line_answer_look) := ⟨rfl, rfl, rfl, by decide +kernel, rfl, by decide +kernel, by decide +kernel⟩
abbrev s_Line_answer_begin : Stmt := inClass (top 68) 4
theorem sc_Line_answer_begin : FnScope ["self", "m", "k", "f"] ["self", "m", "k", "f"] (defScope s_Line_answer_begin) := ⟨rfl, rfl, rfl, by decide +kernel, rfl, by decide +kernel, by decide +kernel⟩
abbrev s_Line_is_full : Stmt := inClass (top 68) 5
theorem sc_Line_is_full : FnScope ["self"] ["self"] (defScope s_Line_is_full) := ⟨rfl, rfl, rfl, by decide +kernel, rfl, by decide +kernel, by decide +kernel⟩
abbrev s_Line_has_term : Stmt := inClass (top 68) 6
theorem sc_Line_has_term : FnScope ["self", "j"] ["self", "j"] (defScope s_Line_has_term) := ⟨rfl, rfl, rfl, by decide +kernel, rfl, by decide +kernel, by decide +kernel⟩
abbrev s_Line_answer_all : Stmt := inClass (top 68) 7
theorem sc_Line_answer_all : FnScope ["self", "w", "lie"] ["self", "w", "lie"] (defScope s_Line_answer_all) := ⟨rfl, rfl, rfl, by decide +kernel, rfl, by decide +kernel, by decide +kernel⟩
abbrev s_Line_answer_many : Stmt := inClass (top 68) 8
theorem sc_Line_answer_many : FnScope ["self", "w", "t", "chosen"] ["self", "w", "t", "chosen"] (defScope s_Line_answer_many) := ⟨rfl, rfl, rfl, by decide +kernel, rfl, by decide +kernel, by decide +kernel⟩
abbrev s_Line_answer_drop : Stmt := inClass (top 68) 9
theorem sc_Line_answer_drop : FnScope ["self", "j"] ["self", "j"] (defScope s_Line_answer_drop) := ⟨rfl, rfl, rfl, by decide +kernel, rfl, by decide +kernel, by decide +kernel⟩
abbrev s_Line_answer_want : Stmt := inClass (top 68) 10
theorem sc_Line_answer_want : FnScope ["self", "v", "before"] ["self", "v"] (defScope s_Line_answer_want) := ⟨rfl, rfl, rfl, by decide +kernel, rfl, by decide +kernel, by decide +kernel⟩
abbrev s_Line_answer_means : Stmt := inClass (top 68) 11
theorem sc_Line_answer_means : FnScope ["self", "of_true", "of_seeds", "same"] ["self"] (defScope s_Line_answer_means) := ⟨rfl, rfl, rfl, by decide +kernel, rfl, by decide +kernel, by decide +kernel⟩
abbrev s_Line_answer_worth : Stmt := inClass (top 68) 12
theorem sc_Line_answer_worth : FnScope ["self", "s"] ["self", "s"] (defScope s_Line_answer_worth) := ⟨rfl, rfl, rfl, by decide +kernel, rfl, by decide +kernel, by decide +kernel⟩
abbrev s_Line_answer_best : Stmt := inClass (top 68) 13
theorem sc_Line_answer_best : FnScope ["self", "worths", "best", "s"] ["self"] (defScope s_Line_answer_best) := ⟨rfl, rfl, rfl, by decide +kernel, rfl, by decide +kernel, by decide +kernel⟩
abbrev s_Line_answer_chances : Stmt := inClass (top 68) 14
theorem sc_Line_answer_chances : FnScope ["self", "j", "term"] ["self", "j"] (defScope s_Line_answer_chances) := ⟨rfl, rfl, rfl, by decide +kernel, rfl, by decide +kernel, by decide +kernel⟩
abbrev s_Call_init : Stmt := inClass (top 71) 0
theorem sc_Call_init : FnScope ["self", "kind", "numbers", "rows", "behind"] ["self", "kind", "numbers", "rows", "behind"] (defScope s_Call_init) := ⟨rfl, rfl, rfl, by decide +kernel, rfl, by decide +kernel, by decide +kernel⟩
abbrev s_read_call : Stmt := top 72
theorem sc_read_call : FnScope ["calls", "place", "kind", "shape", "behind", "numbers", "rows", "which", "begins"] ["calls", "place"] (defScope s_read_call) := ⟨rfl, rfl, rfl, by decide +kernel, rfl, by decide +kernel, by decide +kernel⟩
abbrev s_answers : Stmt := top 74
theorem sc_answers : FnScope ["calls", "line", "told", "place", "call", "answer"] ["calls"] (defScope s_answers) := ⟨rfl, rfl, rfl, by decide +kernel, rfl, by decide +kernel, by decide +kernel⟩
/-! ### what the top has written of names -/
def TupK (K : PySem.W.Frag) (a : Addr) (xs : List V) : Prop := ∀ H, SqT K H a xs
def TupK2 (K : PySem.W.Frag) (a : Addr) (rows : List (List V)) : Prop := ∃ ps : List Addr, TupK K a (ps.map V.ref) ∧ ps.length = rows.length ∧ ∀ (i : Nat) (row : List V), rows[i]? = some row → ∃ q, ps[i]? = some q ∧ TupK K q row
def v_DIVISORS : List (V) := [.int (3), .int (7), .int (11), .int (19), .int (37), .int (67)]
def v_SHAPES : List (List V) := [[.int (3), .int (0)], [.int (2), .int (0)], [.int (2), .int (0)], [.int (2), .int (0)], [.int (1), .int (0)], [.int (0), .int (2)], [.int (0), .int (1)], [.int (1), .int (1)], [.int (2), .int (1)], [.int (1), .int (0)], [.int (1), .int (0)], [.int (0), .int (0)], [.int (1), .int (0)], [.int (0), .int (0)], [.int (1), .int (0)], [.int (0), .int (0)]]
structure Txt (K : PySem.W.Frag) (mg : Str → Option Value) (a_DIVISORS a_SHAPES : Addr) : Prop where
  n_abs : mg "abs" = none
  n_enumerate : mg "enumerate" = none
  n_len : mg "len" = none
  n_max : mg "max" = none
  n_min : mg "min" = none
  n_range : mg "range" = none
  n_set : mg "set" = none
  n_sum : mg "sum" = none
  n_zip : mg "zip" = none
  g_DIVISORS : mg "DIVISORS" = some (.ref a_DIVISORS)
  d_DIVISORS : TupK K a_DIVISORS v_DIVISORS
  g_BEGIN : ∃ u, mg "BEGIN" = some u ∧ L2.RelV (.int (0)) u
  g_MUL : ∃ u, mg "MUL" = some u ∧ L2.RelV (.int (1)) u
  g_POW : ∃ u, mg "POW" = some u ∧ L2.RelV (.int (2)) u
  g_COIN : ∃ u, mg "COIN" = some u ∧ L2.RelV (.int (3)) u
  g_ROW : ∃ u, mg "ROW" = some u ∧ L2.RelV (.int (4)) u
  g_COUNT : ∃ u, mg "COUNT" = some u ∧ L2.RelV (.int (5)) u
  g_ALL : ∃ u, mg "ALL" = some u ∧ L2.RelV (.int (7)) u
  g_MANY : ∃ u, mg "MANY" = some u ∧ L2.RelV (.int (8)) u
  g_DROP : ∃ u, mg "DROP" = some u ∧ L2.RelV (.int (9)) u
  g_MEANS : ∃ u, mg "MEANS" = some u ∧ L2.RelV (.int (11)) u
  g_WORTH : ∃ u, mg "WORTH" = some u ∧ L2.RelV (.int (12)) u
  g_BEST : ∃ u, mg "BEST" = some u ∧ L2.RelV (.int (13)) u
  g_CHANCES : ∃ u, mg "CHANCES" = some u ∧ L2.RelV (.int (14)) u
  g_NONE_SUCH : ∃ u, mg "NONE_SUCH" = some u ∧ L2.RelV (.int (-2)) u
  g_NOT_BEGUN : ∃ u, mg "NOT_BEGUN" = some u ∧ L2.RelV (.int (-11)) u
  g_WRONG : ∃ u, mg "WRONG" = some u ∧ L2.RelV (.int (-22)) u
  g_FULL : ∃ u, mg "FULL" = some u ∧ L2.RelV (.int (-28)) u
  g_MOST_DIGITS : ∃ u, mg "MOST_DIGITS" = some u ∧ L2.RelV (.int (6)) u
  g_MOST_FAINT_DIGITS : ∃ u, mg "MOST_FAINT_DIGITS" = some u ∧ L2.RelV (.int (4)) u
  g_MOST_SEED_DIGITS : ∃ u, mg "MOST_SEED_DIGITS" = some u ∧ L2.RelV (.int (10)) u
  g_MOST_POWER : ∃ u, mg "MOST_POWER" = some u ∧ L2.RelV (.int (100)) u
  g_MOST_WEIGHT : ∃ u, mg "MOST_WEIGHT" = some u ∧ L2.RelV (.int (100)) u
  g_MOST_TERMS : ∃ u, mg "MOST_TERMS" = some u ∧ L2.RelV (.int (12)) u
  g_MOST_LIE : ∃ u, mg "MOST_LIE" = some u ∧ L2.RelV (.int (20)) u
  g_MOST_ONES : ∃ u, mg "MOST_ONES" = some u ∧ L2.RelV (.int (20)) u
  g_SHAPES : mg "SHAPES" = some (.ref a_SHAPES)
  d_SHAPES : TupK2 K a_SHAPES v_SHAPES
/-! ### numbers, once more -/
set_option maxRecDepth 100000 in
theorem down_check : (six fun m => (List.range 2048).all fun r => decide (bits r ≤ m) || decide (bits (downStep m r) < bits r ∧ downStep m r < 2048)) = true := by decide +kernel
theorem down_less {m r : Nat} (h1 : 1 ≤ m) (h6 : m ≤ 6) (hr : r < 2048) (hb : m < bits r) : bits (downStep m r) < bits r ∧ downStep m r < 2048 := by
  have h := List.all_eq_true.mp (six_at down_check h1 h6) r (List.mem_range.mpr hr)
  rw [Bool.or_eq_true, decide_eq_true_eq, decide_eq_true_eq] at h
  rcases h with h | h
  · omega
  · exact h
theorem bits_lt {r : Nat} (h : r < 2048) : bits r ≤ 11 := by
  unfold bits
  split
  · omega
  · rename_i h0
    have := (Nat.log2_lt h0).mpr (show r < 2 ^ 11 by omega)
    omega
set_option maxRecDepth 100000 in
theorem poly_lt_check : (six fun m => both m fun x y => decide (polyProd x y m < 2048)) = true := by decide +kernel
section
variable {P : Program} {w : World} {K : PySem.W.Frag} {mg : Str → Option Value} {base : Heap} {a_DIVISORS a_SHAPES : Addr} {f : Addr} {fd : FuncData}
/-! ### polynomial_product -/
def sp_polynomial_product : Sp := fun vs H Q _ => ∃ x y m : Nat, vs = [.int x, .int y, .int m] ∧ x < 64 ∧ y < 64 ∧ m ≤ 6 ∧ RetV (.int (polyProd x y m)) H Q
theorem ok_polynomial_product (F : Fun K "polynomial_product" "polynomial_product" s_polynomial_product f fd) (T : Txt K mg a_DIVISORS a_SHAPES) : FnOk P w K mg base CX0 1 f fd ["x", "y", "m"] sp_polynomial_product := by
  refine F.ok sc_polynomial_product (fun vs H Q E h => ?_) (fun cdv A outer s H vs Q E hr h => ?_)
  · obtain ⟨x, y, m, rfl, _⟩ := h
    rfl
  · obtain ⟨x, y, m, rfl, hx, hy, hm, q⟩ := h
    refine ⟨_, (pss_cons (ps_set (i := 3) sc_polynomial_product.nd rfl (.inl rfl) pe_int) (pss_cons (ps_for PassesOwn.never rfl (pi_range1 rfl T.n_range (pa_cons (pv 2) pa_nil)) (pg_name (i := 4) sc_polynomial_product.nd rfl (.inl rfl)) (pss_one (ps_if (pt_cmpR op_eq (pe_op op_and (pe_op op_shr (pv 1) (pv 4)) pe_int) pe_int (nomark _)) (pss_one (ps_set (i := 3) sc_polynomial_product.nd rfl (.inl rfl) (pe_op op_xor (pv 3) (pe_op op_shl (pv 0) (pv 4))))) pss_nil))) (pss_one (ps_ret (pv 3))))), ?_⟩
    refine q_asg ev_c fun H1 e1 => ?_
    refine q_forR1 (n := m) (ea_cons (ev_var rfl) ea_nil) (by omega) (fun i σ H' => ∃ v, σ = [some (.int x), some (.int y), some (.int m), some (.int ((List.range i).foldl (polyStep x y) 0 : Nat)), v] ∧ Ex H H') ?_ ?_ ?_
    · exact fun H2 e2 => ⟨_, rfl, e1.trans e2⟩
    · rintro i σ H2 hi ⟨v, rfl, e2⟩
      have hi' : i < m := by omega
      have hst : (List.range (i + 1)).foldl (polyStep x y) 0 = polyStep x y ((List.range i).foldl (polyStep x y) 0) i := by
        rw [List.range_succ, List.foldl_append]
        rfl
      refine s_when (b := decide (y >>> i &&& 1 = 1)) (et_is (et_test (ev_op (ev_op (ev_op (ev_var rfl) (ev_var rfl) (rv_I ?_)) ev_c rv_I0) ev_c (rv_eq rfl))) ?_) ?_ ?_
      · show (0 : Int) ≤ (i : Int)
        omega
      · rw [shr_nat, and_one, Nat.and_one_is_mod, decide_eq_decide]
        constructor
        · intro h
          have := V.int.inj h
          omega
        · intro h
          rw [h]
          rfl
      · intro hb H3 e3
        refine s_asg (ev_op (ev_var rfl) (ev_op (ev_var rfl) (ev_var rfl) (rv_I ?_)) rv_I0) fun H4 e4 => ?_
        · show (0 : Int) ≤ (i : Int) ∧ (i : Int) ≤ 1000000 ∧ (x : Int).natAbs < 2 ^ 64
          omega
        · refine ⟨some (.int i), ?_, (e2.trans e3).trans e4⟩
          rw [shl_nat, xor_nat, hst]
          unfold polyStep
          rw [if_pos (of_decide_eq_true hb)]
          rfl
      · intro hb H3 e3
        refine ⟨some (.int i), ?_, e2.trans e3⟩
        rw [hst]
        unfold polyStep
        rw [if_neg (of_decide_eq_false hb)]
        rfl
    · rintro σ H2 ⟨v, rfl, e2⟩
      exact s_ret (ev_var rfl) fun H3 e3 => q.go (e2.trans e3)
/-! ### brought_down -/
def sp_brought_down : Sp := fun vs H Q _ => ∃ n m : Nat, vs = [.int n, .int m] ∧ n < 2048 ∧ 1 ≤ m ∧ m ≤ 6 ∧ RetV (.int (down m 12 n)) H Q
theorem at_div {m : Nat} (h1 : 1 ≤ m) (h6 : m ≤ 6) : atI v_DIVISORS ((m : Int) - 1) = some (.int (Sr59.poly m : Nat)) := by
  rcases (by omega : m = 1 ∨ m = 2 ∨ m = 3 ∨ m = 4 ∨ m = 5 ∨ m = 6) with rfl | rfl | rfl | rfl | rfl | rfl <;> rfl
theorem down_stop {m r : Nat} (h : bits r ≤ m) : ∀ f, down m f r = r
  | 0 => rfl
  | f + 1 => if_neg (by omega)
theorem ok_brought_down (F : Fun K "brought_down" "brought_down" s_brought_down f fd) (T : Txt K mg a_DIVISORS a_SHAPES) : FnOk P w K mg base CX0 1 f fd ["number", "m"] sp_brought_down := by
  refine F.ok sc_brought_down (fun vs H Q E h => ?_) (fun cdv A outer s H vs Q E hr h => ?_)
  · obtain ⟨n, m, rfl, _⟩ := h
    rfl
  · obtain ⟨n, m, rfl, hn, h1, h6, q⟩ := h
    refine ⟨_, (pss_cons (ps_set (i := 2) sc_brought_down.nd rfl (.inl rfl) (pe_ixT (K := K) rfl (pe_gref rfl T.g_DIVISORS) (pe_op op_sub (pv 1) pe_int) (fun _ _ => rfl))) (pss_cons (ps_set (i := 3) sc_brought_down.nd rfl (.inl rfl) (pv 0)) (pss_cons (ps_while PassesOwn.never (pt_cmpR op_gt (pe_bits (pv 3)) (pv 1) (nomark _)) (pss_one (ps_set (i := 3) sc_brought_down.nd rfl (.inl rfl) (pe_op op_xor (pv 3) (pe_op op_shl (pv 2) (pe_op op_sub (pe_op op_sub (pe_bits (pv 3)) (pv 1)) pe_int)))))) (pss_one (ps_ret (pv 3)))))), ?_⟩
    refine q_asg (ev_op ev_c (ev_op (ev_var rfl) ev_c rv_I0) (rv_ixT (T.d_DIVISORS _) (at_div h1 h6))) fun H1 e1 => ?_
    refine q_asg (ev_var rfl) fun H2 e2 => ?_
    refine q_whl (fun u σ H' => ∃ r : Nat, bits r ≤ u ∧ r < 2048 ∧ down m u r = down m 12 n ∧ σ = [some (.int n), some (.int m), some (.int (Sr59.poly m : Nat)), some (.int r)] ∧ Ex H H') 12 ⟨n, Nat.le_trans (bits_lt hn) (by decide), hn, rfl, rfl, e1.trans e2⟩ ?_
    rintro u σ H3 ⟨r, hb, hr2, hd, rfl, e3⟩
    refine ⟨decide (m < bits r), et_is (et_test (ev_op (ev_bits (ev_var rfl)) (ev_var rfl) rv_I0)) ?_, ?_, ?_⟩
    · rw [bits_nat, decide_eq_decide]
      omega
    · intro hc H4 e4
      have hc' : m < bits r := of_decide_eq_true hc
      obtain ⟨l1, l2⟩ := down_less h1 h6 hr2 hc'
      have ex : (Builtin.Int.intBits (r : Int) : Int) - (m : Int) - 1 = ((bits r - m - 1 : Nat) : Int) := by
        rw [bits_nat]
        omega
      have b11 := bits_lt hr2
      refine s_asg (ev_op (ev_var rfl) (ev_op (ev_var rfl) (ev_op (ev_op (ev_bits (ev_var rfl)) (ev_var rfl) rv_I0) ev_c rv_I0) (rv_I ?_)) rv_I0) fun H5 e5 => ?_
      · rw [ex]
        have p6 : Sr59.poly m < 2 ^ 64 := by
          rcases (by omega : m = 1 ∨ m = 2 ∨ m = 3 ∨ m = 4 ∨ m = 5 ∨ m = 6) with rfl | rfl | rfl | rfl | rfl | rfl <;> decide
        show (0 : Int) ≤ _ ∧ _ ∧ (Sr59.poly m : Int).natAbs < 2 ^ 64
        rw [Int.natAbs_natCast]
        omega
      · cases u with
        | zero => omega
        | succ u =>
          refine ⟨u, Nat.lt_succ_self u, downStep m r, by omega, l2, ?_, ?_, (e3.trans e4).trans e5⟩
          · rw [← hd]
            exact (if_pos hc').symm
          · rw [ex, shl_nat, xor_nat]
            rfl
    · intro hc H4 e4
      have hc' : ¬ m < bits r := of_decide_eq_false hc
      rw [down_stop (by omega)] at hd
      refine s_ret (ev_var rfl) fun H5 e5 => ?_
      rw [hd]
      exact q.go ((e3.trans e4).trans e5)
/-! ### products_with -/
def prods (m x : Nat) : List V := (List.range (2 ^ m)).map fun y => .int (Sr59.mul m x y : Nat)
theorem poly_small {m x y : Nat} (h1 : 1 ≤ m) (h6 : m ≤ 6) (hx : x < 2 ^ m) (hy : y < 2 ^ m) : polyProd x y m < 2048 := of_decide_eq_true (both_at (six_at poly_lt_check h1 h6) hx hy)
theorem pow64 {m : Nat} (h6 : m ≤ 6) : 2 ^ m ≤ 64 := Nat.pow_le_pow_right (by decide) h6
theorem one_shl (m : Nat) : (1 : Int) * 2 ^ (m : Int).toNat = ((2 ^ m : Nat) : Int) := by
  rw [Int.toNat_natCast, Int.one_mul, Int.natCast_pow]
  rfl
theorem cpow_one {m : Nat} (h : m ≤ 10) : CPow 1 (m : Int) := ⟨by omega, by omega, by decide⟩
def sp_products_with : Sp := fun vs H Q _ => ∃ x m : Nat, vs = [.int x, .int m] ∧ 1 ≤ m ∧ m ≤ 6 ∧ x < 2 ^ m ∧ RetL (prods m x) H Q
theorem ok_products_with (F : Fun K "products_with" "products_with" s_products_with f fd) (T : Txt K mg a_DIVISORS a_SHAPES) (O_polynomial_product : Ok P w K mg base 1 "polynomial_product" ["x", "y", "m"] sp_polynomial_product)
    (O_brought_down : Ok P w K mg base 1 "brought_down" ["number", "m"] sp_brought_down) : FnOk P w K mg base CX0 2 f fd ["x", "m"] sp_products_with := by
  refine F.ok sc_products_with (fun vs H Q E h => ?_) (fun cdv A outer s H vs Q E hr h => ?_)
  · obtain ⟨x, m, rfl, _⟩ := h
    rfl
  · obtain ⟨x, m, rfl, h1, h6, hx, q⟩ := h
    have m64 := pow64 h6
    refine ⟨_, (pss_one (ps_ret (pe_lc (own := [("y", 2)]) (g := gName 2) (tt := tYes) rfl sc_products_with.nd (pi_range1 rfl T.n_range (pa_cons (pe_op op_shl pe_int (pv 1)) pa_nil)) (blkOk_by (by kernel_rfl)) (fun _ _ _ _ _ => pg_name (i := 2) sc_products_with.nd rfl (Or.inl rfl)) (fun _ _ _ _ _ => pts_nil) (fun _ _ _ _ _ => (by_fn O_brought_down fun _ _ hm kp hb F => pe_call F (hr.mono (by decide)) rfl hm kp hb .nil pass0 (pa_cons (by_fn O_polynomial_product fun _ _ hm kp hb F => pe_call F (hr.mono (by decide)) rfl hm kp hb .nil pass0 (pa_cons (pv 0) (pa_cons (pv 2) (pa_cons (pv 1) pa_nil)))) (pa_cons (pv 1) pa_nil))))))), ?_⟩
    refine s_retL (xs := prods m x) ?_ fun p H1 hp e1 hl => q p H1 hp e1 hl
    have := el_lcR (σ := start ["x", "m", "y"] [.int x, .int m]) (H := H) (n := ((2 ^ m : Nat) : Int)) (vs := [2]) (j := 2) (fun y => V.int (Sr59.mul m x y : Nat)) (ta := tCons (tOp (rI CPow fun i j => .int (i * 2 ^ j.toNat)) (tC (.int 1)) (tVar 1)) tNil)
      (te := tCall sp_brought_down [] E0 (tCons (tCall sp_polynomial_product [] E0 (tCons (tVar 0) (tCons (tVar 2) (tCons (tVar 1) tNil)))) (tCons (tVar 1) tNil))) ?_ (by omega) (fun _ => rfl) ?_
    · rw [Int.toNat_natCast] at this
      exact this
    · rw [← one_shl]
      exact ea_cons (ev_op ev_c (ev_var rfl) (rv_I (cpow_one (by omega)))) ea_nil
    · intro y H1 e1 hy
      have hy' : y < 2 ^ m := by omega
      refine ev_fn (ea_cons (ev_fn (ea_cons (ev_var rfl) (ea_cons (ev_var rfl) (ea_cons (ev_var rfl) ea_nil))) fun H2 e2 Q q E => ⟨x, y, m, rfl, by omega, by omega, h6, q⟩) (ea_cons (ev_var rfl) ea_nil)) fun H2 e2 Q q E => ⟨_, m, rfl, poly_small h1 h6 hx hy', h1, h6, ?_⟩
      rw [down_poly h1 h6 hx hy']
      exact q
end
end Few
set_option Elab.async false
set_option linter.all false
set_option maxRecDepth 100000
set_option maxHeartbeats 2000000
namespace Few
open PySem PySem.Spec PyProof.Rows L2 Evl
/-! ### classes: no class attribute under a field's name -/
structure Clz (K : PySem.W.Frag) (C : Addr) (fs : List Str) : Prop where
  cls : Cls K C
  no : ∀ f ∈ fs, NoAttr K C f
section
variable {K : PySem.W.Frag} {σ : L2.St} {H H' : Hp} {ta tv : TE} {y : V} {a C dx : Addr} {fs : List (Str × V)} {f : Str} {D : Ends} {tz : TS}
theorem s_fld (hv : Ev tv σ H y) (ha : Ev ta σ H (.ref a)) (ho : H a = some (.ins C dx fs)) (c : Cls K C) (n : NoAttr K C f) (hl : fs.length < 1000) (k : ∀ H1, Ex H H1 → D.nx σ (upd H1 a (.ins C dx (putF f y fs)))) : sFld K ta tv f D σ H :=
  hv H (Ex.refl H) _ fun H1 e1 => ha H1 e1 _ fun H2 e2 => ⟨a, C, dx, fs, rfl, e2 _ _ (e1 _ _ ho), c, n, hl, k H2 (e1.trans e2)⟩
theorem q_fld (hv : Ev tv σ H y) (ha : Ev ta σ H (.ref a)) (ho : H a = some (.ins C dx fs)) (c : Cls K C) (n : NoAttr K C f) (hl : fs.length < 1000) (k : ∀ H1, Ex H H1 → tz D σ (upd H1 a (.ins C dx (putF f y fs)))) : tSeq (sFld K ta tv f) tz D σ H :=
  s_fld (D := { D with nx := tz D }) hv ha ho c n hl k
theorem s_fldR {rows : List (List V)} (hv : EvR tv σ H rows) (ha : Ev ta σ H (.ref a)) (ho : H a = some (.ins C dx fs)) (c : Cls K C) (n : NoAttr K C f) (hl : fs.length < 1000) (k : ∀ p H1, H p = none → Ex H H1 → Rows (newPart H H1) p rows → D.nx σ (upd H1 a (.ins C dx (putF f (.ref p) fs)))) : sFld K ta tv f D σ H :=
  hv H (Ex.refl H) _ fun p H1 hp e1 hR => ha H1 e1 _ fun H2 e2 => ⟨a, C, dx, fs, rfl, e2 _ _ (e1 _ _ ho), c, n, hl, k p H2 hp (e1.trans e2) (hR.mono (np_ex (Ex.refl H) e2))⟩
theorem s_fldL {xs : List V} (hv : EvL tv σ H xs) (ha : Ev ta σ H (.ref a)) (ho : H a = some (.ins C dx fs)) (c : Cls K C) (n : NoAttr K C f) (hl : fs.length < 1000) (k : ∀ p H1, H p = none → Ex H H1 → H1 p = some (.lst xs) → D.nx σ (upd H1 a (.ins C dx (putF f (.ref p) fs)))) : sFld K ta tv f D σ H :=
  hv H (Ex.refl H) _ fun p H1 hp e1 hR => ha H1 e1 _ fun H2 e2 => ⟨a, C, dx, fs, rfl, e2 _ _ (e1 _ _ ho), c, n, hl, k p H2 hp (e1.trans e2) (e2 _ _ hR)⟩
end
/-- rows stand whatever becomes of an instance -/
theorem Rows.upd_ins {H : Hp} {p a C dx : Addr} {fs fs' : List (Str × V)} {rows : List (List V)} (h : Rows H p rows) (ha : H a = some (.ins C dx fs)) : Rows (upd H a (.ins C dx fs')) p rows := by
  obtain ⟨ps, h1, h2, h3⟩ := h
  refine ⟨ps, ?_, h2, fun i row hi => ?_⟩
  · rw [upd_ne (ne_of h1 ha (by intro z; cases z))]
    exact h1
  · obtain ⟨b, hb, hc⟩ := h3 i row hi
    refine ⟨b, hb, ?_⟩
    rw [upd_ne (ne_of hc ha (by intro z; cases z))]
    exact hc
theorem le40 {n : Nat} (h : n ≤ 64) : 0 ≤ (n : Int) ∧ (n : Int) ≤ 40000 := by omega
/-! ### the field -/
def fF (m : Nat) (pa : Addr) : List (Str × V) := [("size", .int (2 ^ m : Nat)), ("products", .ref pa)]
theorem fF_size (m : Nat) (pa : Addr) : (fF m pa).lookup ("size" : Str) = some (.int (2 ^ m : Nat)) := by kernel_rfl
theorem fF_products (m : Nat) (pa : Addr) : (fF m pa).lookup ("products" : Str) = some (.ref pa) := by kernel_rfl
theorem fF_new (m : Nat) (pa : Addr) : putF "products" (.ref pa) (putF "size" (.int (2 ^ m : Nat)) []) = fF m pa := by kernel_rfl
theorem fF_holds (m : Nat) (pa : Addr) : (fF m pa).lookup ("holds" : Str) = none := by kernel_rfl
theorem fF_product (m : Nat) (pa : Addr) : (fF m pa).lookup ("product" : Str) = none := by kernel_rfl
theorem fF_power (m : Nat) (pa : Addr) : (fF m pa).lookup ("power" : Str) = none := by kernel_rfl
def table (m : Nat) : List (List V) := (List.range (2 ^ m)).map (prods m)
structure FieldAt (C : Addr) (H : Hp) (a : Addr) (m : Nat) : Prop where
  h1 : 1 ≤ m
  h6 : m ≤ 6
  ob : ∃ dx pa, H a = some (.ins C dx (fF m pa)) ∧ Rows H pa (table m)
theorem FieldAt.mono {C a : Addr} {H H' : Hp} {m : Nat} (e : Ex H H') (h : FieldAt C H a m) : FieldAt C H' a m := by
  obtain ⟨h1, h6, dx, pa, ho, hR⟩ := h
  exact ⟨h1, h6, dx, pa, e _ _ ho, hR.mono e⟩
theorem at_nat {xs : List V} {i : Nat} {v : V} (h : xs[i]? = some v) : atI xs (i : Int) = some v := atI_nat h
section
variable {P : Program} {w : World} {K : PySem.W.Frag} {mg : Str → Option Value} {base : Heap} {a_DIVISORS a_SHAPES CF : Addr} {f : Addr} {fd : FuncData}
def FIELDS_Field : List Str := ["size", "products"]
def sp_Field_init (C : Addr) : Sp := fun vs H Q _ => ∃ (p dx : Addr) (m : Nat), vs = [.ref p, .int m] ∧ 1 ≤ m ∧ m ≤ 6 ∧ H p = some (.ins C dx []) ∧
  ∀ H' G : Hp, Ex G H' → (∀ b o, G b = some o → b = p ∨ H b = none) → FieldAt C G p m → (∀ b o, H b = some o → b ≠ p → H' b = some o) → Q .non H'
theorem ok_Field_init (F : Fun K "__init__" "Field.__init__" s_Field_init f fd) (T : Txt K mg a_DIVISORS a_SHAPES) (Z : Clz K CF FIELDS_Field) (O_products_with : Ok P w K mg base 2 "products_with" ["x", "m"] sp_products_with) :
    FnOk P w K mg base CX0 3 f fd ["self", "m"] (sp_Field_init CF) := by
  refine F.ok sc_Field_init (fun vs H Q E h => ?_) (fun cdv A outer s H vs Q E hr h => ?_)
  · obtain ⟨p, dx, m, rfl, _⟩ := h
    rfl
  · obtain ⟨p, dx, m, rfl, h1, h6, hp, q⟩ := h
    have m64 := pow64 h6
    refine ⟨_, (pss_cons (ps_fld (pv 0) (pe_op op_shl pe_int (pv 1)) rfl) (pss_one (ps_fld (pv 0) (pe_lc (own := [("x", 2)]) (g := gName 2) (tt := tYes) rfl sc_Field_init.nd (pi_range1 rfl T.n_range (pa_cons (pe_op op_shl pe_int (pv 1)) pa_nil)) (blkOk_by (by kernel_rfl)) (fun _ _ _ _ _ => pg_name (i := 2) sc_Field_init.nd rfl (Or.inl rfl)) (fun _ _ _ _ _ => pts_nil) (fun _ _ _ _ _ => (by_fn O_products_with fun _ _ hm kp hb F => pe_call F (hr.mono (by decide)) rfl hm kp hb .nil pass0 (pa_cons (pv 2) (pa_cons (pv 1) pa_nil))))) rfl))), ?_⟩
    refine q_fld (y := .int (2 ^ m : Nat)) (ev_is (ev_op ev_c (ev_var rfl) (rv_I (cpow_one (by omega)))) (congrArg V.int (one_shl m))) (ev_var rfl) hp Z.cls (Z.no _ (by simp [FIELDS_Field])) (by decide) fun H1 e1 => ?_
    refine s_fldR (rows := table m) ?_ (ev_var rfl) upd_same Z.cls (Z.no _ (by simp [FIELDS_Field])) (show 1 < 1000 by decide) fun pa H2 hpa e2 hR => ?_
    · have := er_lcR1 (σ := start ["self", "m", "x"] [.ref p, .int m]) (H := upd H1 p (.ins CF dx (putF "size" (.int (2 ^ m : Nat)) []))) (n := ((2 ^ m : Nat) : Int)) (vs := [2]) (j := 2) (fun x => prods m x) (ta := tCons (tOp (rI CPow fun i j => .int (i * 2 ^ j.toNat)) (tC (.int 1)) (tVar 1)) tNil)
        (te := tCall sp_products_with [] E0 (tCons (tVar 2) (tCons (tVar 1) tNil))) ?_ (le40 m64) (fun _ => rfl) ?_
      · rw [Int.toNat_natCast] at this
        exact this
      · rw [← one_shl]
        exact ea_cons (ev_op ev_c (ev_var rfl) (rv_I (cpow_one (by omega)))) ea_nil
      · intro x H3 e3 hx
        exact el_fn (ea_cons (ev_var rfl) (ea_cons (ev_var rfl) ea_nil)) fun H4 e4 Q q E => ⟨x, m, rfl, h1, h6, by omega, q⟩
    · have hnp : ∀ b o, newPart (upd H1 p (.ins CF dx (putF "size" (.int (2 ^ m : Nat)) []))) H2 b = some o → b ≠ p ∧ H b = none := by
        intro b o hb
        have hn := newPart_none hb
        have nb : b ≠ p := fun e => by
          rw [e, upd_same] at hn
          cases hn
        rw [upd_ne nb] at hn
        exact ⟨nb, fresh_back e1 hn⟩
      refine q _ (upd (newPart (upd H1 p (.ins CF dx (putF "size" (.int (2 ^ m : Nat)) []))) H2) p (.ins CF dx (fF m pa))) ?_ ?_ ⟨h1, h6, dx, pa, upd_same, hR.mono ?_⟩ fun b o hb nb => ?_
      · intro b o hb
        by_cases e : b = p
        · subst e
          rw [upd_same] at hb ⊢
          rw [fF_new]
          exact hb
        · rw [upd_ne e] at hb ⊢
          exact newPart_ex _ _ hb
      · intro b o hb
        by_cases e : b = p
        · exact .inl e
        · rw [upd_ne e] at hb
          exact .inr (hnp b o hb).2
      · intro b o hb
        rw [upd_ne (hnp b o hb).1]
        exact hb
      · rw [upd_ne nb]
        refine e2 _ _ ?_
        rw [upd_ne nb]
        exact e1 _ _ hb
def sp_Field_holds (C : Addr) : Sp := fun vs H Q _ => ∃ (a : Addr) (m : Nat) (x : Int), vs = [.ref a, .int x] ∧ FieldAt C H a m ∧ RetV (.bl (decide (0 ≤ x) && decide (x < (2 ^ m : Nat)))) H Q
theorem ok_Field_holds (F : Fun K "holds" "Field.holds" s_Field_holds f fd) (Z : Clz K CF FIELDS_Field) : FnOk P w K mg base CX0 1 f fd ["self", "x"] (sp_Field_holds CF) := by
  refine F.ok sc_Field_holds (fun vs H Q E h => ?_) (fun cdv A outer s H vs Q E hr h => ?_)
  · obtain ⟨a, m, x, rfl, _⟩ := h
    rfl
  · obtain ⟨a, m, x, rfl, ⟨h1, h6, dx, pa, ho, hR⟩, q⟩ := h
    refine ⟨_, (pss_one (ps_ret (pe_and (pe_cmpR op_ge (pv 1) pe_int (nomark _)) (pe_one (pe_cmpR op_lt (pv 1) (pe_fldK (K := K) rfl (pv 0) rfl) (nomark _)))))), ?_⟩
    exact s_ret (ev_andV (ev_op (ev_var rfl) ev_c rv_I0) fun _ => ev_op (ev_var rfl) (ev_fld (ev_var rfl) ho Z.cls (Z.no _ (by simp [FIELDS_Field])) (fF_size m pa)) rv_I0) fun H1 e1 => q.go e1
def sp_Field_product (C : Addr) : Sp := fun vs H Q _ => ∃ (a : Addr) (m x y : Nat), vs = [.ref a, .int x, .int y] ∧ FieldAt C H a m ∧ x < 2 ^ m ∧ y < 2 ^ m ∧ RetV (.int (Sr59.mul m x y : Nat)) H Q
theorem ok_Field_product (F : Fun K "product" "Field.product" s_Field_product f fd) (Z : Clz K CF FIELDS_Field) : FnOk P w K mg base CX0 1 f fd ["self", "x", "y"] (sp_Field_product CF) := by
  refine F.ok sc_Field_product (fun vs H Q E h => ?_) (fun cdv A outer s H vs Q E hr h => ?_)
  · obtain ⟨a, m, x, y, rfl, _⟩ := h
    rfl
  · obtain ⟨a, m, x, y, rfl, ⟨h1, h6, dx, pa, ho, ps, hp, hlen, hrow⟩, hx, hy, q⟩ := h
    obtain ⟨b, hb, hc⟩ := hrow x (prods m x) (by unfold table; rw [List.getElem?_map, List.getElem?_range hx]; rfl)
    refine ⟨_, (pss_one (ps_ret (pe_ixL (K := K) rfl (pe_ixL (K := K) rfl (pe_fldK (K := K) rfl (pv 0) rfl) (pv 1) (fun _ _ => rfl)) (pv 2) (fun _ _ => rfl)))), ?_⟩
    refine s_ret (ev_op (ev_op (ev_fld (ev_var rfl) ho Z.cls (Z.no _ (by simp [FIELDS_Field])) (fF_products m pa)) (ev_var rfl) (rv_ixL (sq_of hp) (v := .ref b) (at_nat ?_))) (ev_var rfl) (rv_ixL (sq_of hc) (v := .int (Sr59.mul m x y : Nat)) (at_nat ?_))) fun H1 e1 => q.go e1
    · rw [List.getElem?_map, hb]
      rfl
    · unfold prods
      rw [List.getElem?_map, List.getElem?_range hy]
      rfl
def sp_Field_power (C : Addr) : Sp := fun vs H Q _ => ∃ (a : Addr) (m x e : Nat), vs = [.ref a, .int x, .int e] ∧ FieldAt C H a m ∧ x < 2 ^ m ∧ e ≤ 100 ∧ RetV (.int (Sr59.pow m x e : Nat)) H Q
theorem ok_Field_power (F : Fun K "power" "Field.power" s_Field_power f fd) (T : Txt K mg a_DIVISORS a_SHAPES) (Z : Clz K CF FIELDS_Field) (O_Field_product : OkM P w K mg base 1 CF "product" ["self", "x", "y"] (sp_Field_product CF)) :
    FnOk P w K mg base CX0 2 f fd ["self", "x", "e"] (sp_Field_power CF) := by
  refine F.ok sc_Field_power (fun vs H Q E h => ?_) (fun cdv A outer s H vs Q E hr h => ?_)
  · obtain ⟨a, m, x, e, rfl, _⟩ := h
    rfl
  · obtain ⟨a, m, x, e, rfl, hF, hx, he, q⟩ := h
    have c_Field := Z.cls
    refine ⟨_, (pss_cons (ps_set (i := 3) sc_Field_power.nd rfl (.inl rfl) pe_int) (pss_cons (ps_for PassesOwn.never rfl (pi_range1 rfl T.n_range (pa_cons (pv 2) pa_nil)) (pg_name (i := 4) sc_Field_power.nd rfl (.inl rfl)) (pss_one (ps_set (i := 3) sc_Field_power.nd rfl (.inl rfl) (by_mth O_Field_product fun _ _ hm hb F => pe_meth (pv 0) c_Field hm F (hr.mono (by decide)) hb .nil pass0 (pa_cons (pv 3) (pa_cons (pv 1) pa_nil)))))) (pss_one (ps_ret (pv 3))))), ?_⟩
    refine q_asg ev_c fun H1 e1 => ?_
    refine q_forR1 (n := e) (ea_cons (ev_var rfl) ea_nil) (by omega) (fun i σ H' => ∃ v, σ = [some (.ref a), some (.int x), some (.int e), some (.int (Sr59.pow m x i : Nat)), v] ∧ Ex H H') ?_ ?_ ?_
    · exact fun H2 e2 => ⟨_, rfl, e1.trans e2⟩
    · rintro i σ H2 hi ⟨v, rfl, e2⟩
      obtain ⟨h1, h6, dx, pa, ho, hR⟩ := hF.mono e2
      exact s_asg (ev_meth (ev_var rfl) ho (fF_product m pa) (ea_cons (ev_var rfl) (ea_cons (ev_var rfl) ea_nil)) fun H3 e3 Q q E => ⟨a, m, _, x, rfl, hF.mono (e2.trans e3), pow_lt h1 h6 hx i, hx, q⟩) fun H3 e3 => ⟨some (.int i), rfl, e2.trans e3⟩
    · rintro σ H2 ⟨v, rfl, e2⟩
      exact s_ret (ev_var rfl) fun H3 e3 => q.go (e2.trans e3)
end
end Few
set_option Elab.async false
set_option linter.all false
set_option maxRecDepth 100000
set_option maxHeartbeats 2000000
namespace Few
open PySem PySem.Spec PyProof.Rows L2 Evl
/-! ### for place, item in enumerate(list) -/
section
variable {K : PySem.W.Frag} {σ : L2.St} {H H' : Hp} {tl te : TE} {tu tz : TS} {D : Ends}
theorem s_forE {a : Addr} {xs : List V} {j1 j2 : Nat} (h : Ev tl σ H (.ref a)) (hx : SqL K H a xs) (Pv : Nat → L2.St → Hp → Prop) (h0 : ∀ H1, Ex H H1 → Pv 0 σ H1) (hl : ∀ i σ' H', i ≤ xs.length → Pv i σ' H' → SqL K H' a xs)
    (hs : ∀ (i : Nat) x σ' H' H'', xs[i]? = some x → Pv i σ' H' → Ex H' H'' → tu { D with nx := Pv (i + 1), ct := Pv (i + 1), bk := D.nx } ((σ'.set j1 (some (.int (i : Int)))).set j2 (some x)) H'') (hd : ∀ σ' H', Pv xs.length σ' H' → D.nx σ' H') :
    tFor (iEnum K (tCons tl tNil)) (gTup K 2 (gCons (gName j1) (gCons (gName j2) gNil))) tu D σ H :=
  h H (Ex.refl H) _ fun H1 e => ⟨a, xs, rfl, ex_l e hx, for_it (walk_enum (K := K) (a := a) (xs := xs)) Pv (h0 H1 e) hl (fun i x σ' H2 H3 hi p hy => by
    obtain ⟨T, x1, x2, rfl, nT, rfl, e1, e2⟩ := hy
    have e1' : V.int (i : Int) = x1 := Option.some.inj e1
    subst e1'
    refine ⟨T, [.int (i : Int), x2], rfl, st_of upd_same, rfl, .int (i : Int), [x2], rfl, x2, [], rfl, rfl, ?_⟩
    exact hs i x2 σ' H2 _ e2 p (Ex.new nT)) hd⟩
theorem q_forE {a : Addr} {xs : List V} {j1 j2 : Nat} (h : Ev tl σ H (.ref a)) (hx : SqL K H a xs) (Pv : Nat → L2.St → Hp → Prop) (h0 : ∀ H1, Ex H H1 → Pv 0 σ H1) (hl : ∀ i σ' H', i ≤ xs.length → Pv i σ' H' → SqL K H' a xs)
    (hs : ∀ (i : Nat) x σ' H' H'', xs[i]? = some x → Pv i σ' H' → Ex H' H'' → tu { D with nx := Pv (i + 1), ct := Pv (i + 1), bk := tz D } ((σ'.set j1 (some (.int (i : Int)))).set j2 (some x)) H'') (hd : ∀ σ' H', Pv xs.length σ' H' → tz D σ' H') :
    tSeq (tFor (iEnum K (tCons tl tNil)) (gTup K 2 (gCons (gName j1) (gCons (gName j2) gNil))) tu) tz D σ H := s_forE (D := { D with nx := tz D }) h hx Pv h0 hl hs hd
/-- a call, its second argument a new list -/
theorem el_fnL {sp : Sp} {E : XK} {x : V} {ys xs : List V} (h1 : Ev tl σ H x) (h2 : EvL te σ H ys) (hs : ∀ p H1, Ex H H1 → H1 p = some (.lst ys) → SpL sp [x, .ref p] H1 xs) : EvL (tCall sp [] E (tCons tl (tCons te tNil))) σ H xs := fun H1 e Q q =>
  h1 H1 e _ fun H2 e2 => h2 H2 (e.trans e2) _ fun p H3 hp e3 h3 => hs p H3 ((e.trans e2).trans e3) h3 H3 (Ex.refl H3) Q (fun p' H4 hp' e4 h4 => q p' H4 (fresh_back (e2.trans e3) hp') ((e2.trans e3).trans e4) h4) E
end
section
variable {P : Program} {w : World} {K : PySem.W.Frag} {mg : Str → Option Value} {base : Heap} {a_DIVISORS a_SHAPES CF : Addr} {f : Addr} {fd : FuncData}
/-! ### seed_numbers -/
def partsV (m seed k : Nat) : List V := (List.range k).map fun j => .int (seed / (2 ^ m) ^ j % 2 ^ m : Nat)
theorem partsV_len (m seed k : Nat) : (partsV m seed k).length = k := by
  unfold partsV
  rw [List.length_map, List.length_range]
theorem partsV_at {m seed k j : Nat} (h : j < k) : (partsV m seed k)[j]? = some (.int (seed / (2 ^ m) ^ j % 2 ^ m : Nat)) := by
  unfold partsV
  rw [List.getElem?_map, List.getElem?_range h]
  rfl
def sp_seed_numbers (C : Addr) : Sp := fun vs H Q _ => ∃ (a : Addr) (m k seed : Nat), vs = [.ref a, .int k, .int seed] ∧ FieldAt C H a m ∧ k ≤ 10 ∧ RetL (partsV m seed k) H Q
theorem ok_seed_numbers (F : Fun K "seed_numbers" "seed_numbers" s_seed_numbers f fd) (T : Txt K mg a_DIVISORS a_SHAPES) (Z : Clz K CF FIELDS_Field) : FnOk P w K mg base CX0 1 f fd ["field", "k", "seed"] (sp_seed_numbers CF) := by
  refine F.ok sc_seed_numbers (fun vs H Q E h => ?_) (fun cdv A outer s H vs Q E hr h => ?_)
  · obtain ⟨a, m, k, seed, rfl, _⟩ := h
    rfl
  · obtain ⟨a, m, k, seed, rfl, hF, hk, q⟩ := h
    have m64 := pow64 hF.h6
    have mp : 0 < 2 ^ m := Nat.pow_pos (by decide)
    refine ⟨_, (pss_cons (ps_set (i := 3) sc_seed_numbers.nd rfl (.inl rfl) (pe_lst pa_nil)) (pss_cons (ps_set (i := 4) sc_seed_numbers.nd rfl (.inl rfl) (pv 2)) (pss_cons (ps_for PassesOwn.never rfl (pi_range1 rfl T.n_range (pa_cons (pv 1) pa_nil)) (pg_name (i := 5) sc_seed_numbers.nd rfl (.inl rfl)) (pss_cons (ps_expr (pe_bm PySem.F.plainAttrs_list PySem.F.slot_list_append PySem.F.type_list_append mt_append (pv 3) (pa_cons (pe_op op_mod (pv 4) (pe_fldK (K := K) rfl (pv 0) rfl)) pa_nil))) (pss_one (ps_set (i := 4) sc_seed_numbers.nd rfl (.inl rfl) (pe_op op_fdiv (pv 4) (pe_fldK (K := K) rfl (pv 0) rfl)))))) (pss_one (ps_ret (pv 3)))))), ?_⟩
    refine q_asgL (xs := []) (el_lst ea_nil (by decide)) fun p H1 hp e1 hl => ?_
    refine q_asg (ev_var rfl) fun H2 e2 => ?_
    refine q_forR1 (n := k) (ea_cons (ev_var rfl) ea_nil) (by omega) (fun i σ H' => ∃ v, σ = [some (.ref a), some (.int k), some (.int seed), some (.ref p), some (.int (seed / (2 ^ m) ^ i : Nat)), v] ∧ Ex H H' ∧ H' p = some (.lst (partsV m seed i))) ?_ ?_ ?_
    · intro H3 e3
      refine ⟨none, ?_, (e1.trans e2).trans e3, e3 _ _ (e2 _ _ hl)⟩
      rw [Nat.pow_zero, Nat.div_one]
      rfl
    · rintro i σ H3 hi ⟨v, rfl, e3, h3⟩
      obtain ⟨h1, h6, dx, pa, ho, hR⟩ := hF.mono e3
      refine q_app h3 (ev_var rfl) (ev_op (ev_var rfl) (ev_fld (ev_var rfl) ho Z.cls (Z.no _ (by simp [FIELDS_Field])) (fF_size m pa)) (rv_I ?_)) (by rw [partsV_len]; omega) fun H4 e4 => ?_
      · show (0 : Int) < ((2 ^ m : Nat) : Int)
        omega
      · have ho4 : upd H4 p (.lst (partsV m seed i ++ [.int ((seed / (2 ^ m) ^ i : Nat) % (2 ^ m : Nat))])) a = some (.ins CF dx (fF m pa)) := by
          rw [upd_ne (ne_of ho h3 (by intro z; cases z))]
          exact e4 _ _ ho
        refine s_asg (ev_op (ev_var rfl) (ev_fld (ev_var rfl) ho4 Z.cls (Z.no _ (by simp [FIELDS_Field])) (fF_size m pa)) (rv_I ?_)) fun H5 e5 => ?_
        · show (0 : Int) < ((2 ^ m : Nat) : Int) ∧ ((2 ^ m : Nat) : Int) < 1073741824
          omega
        · refine ⟨some (.int i), ?_, (Ex.mut (e3.trans e4) hp).trans e5, ?_⟩
          · have e : ((seed / (2 ^ m) ^ i : Nat) : Int) / ((2 ^ m : Nat) : Int) = ((seed / (2 ^ m) ^ (i + 1) : Nat) : Int) := by
              rw [Nat.pow_succ, ← Nat.div_div_eq_div_mul]
              exact (Int.natCast_ediv _ _).symm
            rw [e]
            rfl
          · refine e5 _ _ ?_
            rw [upd_same]
            unfold partsV
            rw [List.range_succ, List.map_append, ← Int.natCast_emod]
            rfl
    · rintro σ H3 ⟨v, rfl, e3, h3⟩
      refine s_ret (ev_var rfl) fun H4 e4 => q p H4 hp (e3.trans e4) (e4 _ _ ?_)
      rw [h3, Int.toNat_natCast]
/-! ### odd_ones -/
def sp_odd_ones : Sp := fun vs H Q _ => ∃ n : Nat, vs = [.int n] ∧ n < 32 ∧ RetV (.int (par 5 n : Nat)) H Q
theorem ok_odd_ones (F : Fun K "odd_ones" "odd_ones" s_odd_ones f fd) : FnOk P w K mg base CX0 1 f fd ["number"] sp_odd_ones := by
  refine F.ok sc_odd_ones (fun vs H Q E h => ?_) (fun cdv A outer s H vs Q E hr h => ?_)
  · obtain ⟨n, rfl, _⟩ := h
    rfl
  · obtain ⟨n, rfl, hn, q⟩ := h
    refine ⟨_, (pss_cons (ps_set (i := 1) sc_odd_ones.nd rfl (.inl rfl) pe_int) (pss_cons (ps_set (i := 2) sc_odd_ones.nd rfl (.inl rfl) (pv 0)) (pss_cons (ps_while PassesOwn.never (pt_cmpR op_gt (pv 2) pe_int (nomark _)) (pss_cons (ps_set (i := 1) sc_odd_ones.nd rfl (.inl rfl) (pe_op op_xor (pv 1) (pe_op op_and (pv 2) pe_int))) (pss_one (ps_set (i := 2) sc_odd_ones.nd rfl (.inl rfl) (pe_op op_shr (pv 2) pe_int))))) (pss_one (ps_ret (pv 1)))))), ?_⟩
    refine q_asg ev_c fun H1 e1 => ?_
    refine q_asg (ev_var rfl) fun H2 e2 => ?_
    refine q_whl (fun u σ H' => ∃ o r : Nat, r < 2 ^ u ∧ o ^^^ par u r = par 5 n ∧ σ = [some (.int n), some (.int o), some (.int r)] ∧ Ex H H') 5 ⟨0, n, hn, by rw [Nat.zero_xor], rfl, e1.trans e2⟩ ?_
    rintro u σ H3 ⟨o, r, hr2, hx, rfl, e3⟩
    refine ⟨decide (0 < r), et_is (et_test (ev_op (ev_var rfl) ev_c rv_I0)) ?_, ?_, ?_⟩
    · rw [decide_eq_decide]
      omega
    · intro hc H4 e4
      have hc' : 0 < r := of_decide_eq_true hc
      refine q_asg (ev_op (ev_var rfl) (ev_op (ev_var rfl) ev_c rv_I0) rv_I0) fun H5 e5 => ?_
      refine s_asg (ev_op (ev_var rfl) ev_c (rv_I (by decide))) fun H6 e6 => ?_
      cases u with
      | zero => omega
      | succ u =>
        refine ⟨u, Nat.lt_succ_self u, o ^^^ r % 2, r / 2, by rw [Nat.pow_succ] at hr2; omega, ?_, ?_, ((e3.trans e4).trans e5).trans e6⟩
        · rw [← hx, Nat.xor_assoc]
          show o ^^^ (r % 2 ^^^ par u (r / 2)) = o ^^^ (if r = 0 then 0 else r % 2 ^^^ par u (r / 2))
          rw [if_neg (by omega)]
        · rw [and_one, xor_nat, show (r : Int) / 2 ^ (1 : Int).toNat = ((r / 2 : Nat) : Int) by rw [show (1 : Int).toNat = 1 from rfl]; omega]
          rfl
    · intro hc H4 e4
      have hc' : ¬ 0 < r := of_decide_eq_false hc
      have r0 : r = 0 := by omega
      subst r0
      have p0 : par u 0 = 0 := by
        cases u with
        | zero => rfl
        | succ u => exact if_pos rfl
      rw [p0, Nat.xor_zero] at hx
      rw [← hx] at q
      exact s_ret (ev_var rfl) fun H5 e5 => q.go ((e3.trans e4).trans e5)
/-! ### first_powers -/
def powsV (m x k : Nat) : List V := (List.range k).map fun e => .int (Sr59.pow m x e : Nat)
theorem powsV_len (m x k : Nat) : (powsV m x k).length = k := by
  unfold powsV
  rw [List.length_map, List.length_range]
theorem powsV_at {m x k j : Nat} (h : j < k) : (powsV m x k)[j]? = some (.int (Sr59.pow m x j : Nat)) := by
  unfold powsV
  rw [List.getElem?_map, List.getElem?_range h]
  rfl
def sp_first_powers (C : Addr) : Sp := fun vs H Q _ => ∃ (a : Addr) (m x k : Nat), vs = [.ref a, .int x, .int k] ∧ FieldAt C H a m ∧ x < 2 ^ m ∧ k ≤ 64 ∧ RetL (powsV m x k) H Q
theorem ok_first_powers (F : Fun K "first_powers" "first_powers" s_first_powers f fd) (T : Txt K mg a_DIVISORS a_SHAPES) (Z : Clz K CF FIELDS_Field) (O_Field_power : OkM P w K mg base 2 CF "power" ["self", "x", "e"] (sp_Field_power CF)) :
    FnOk P w K mg base CX0 3 f fd ["field", "x", "k"] (sp_first_powers CF) := by
  refine F.ok sc_first_powers (fun vs H Q E h => ?_) (fun cdv A outer s H vs Q E hr h => ?_)
  · obtain ⟨a, m, x, k, rfl, _⟩ := h
    rfl
  · obtain ⟨a, m, x, k, rfl, hF, hx, hk, q⟩ := h
    have c_Field := Z.cls
    refine ⟨_, (pss_one (ps_ret (pe_lc (own := [("e", 3)]) (g := gName 3) (tt := tYes) rfl sc_first_powers.nd (pi_range1 rfl T.n_range (pa_cons (pv 2) pa_nil)) (blkOk_by (by kernel_rfl)) (fun _ _ _ _ _ => pg_name (i := 3) sc_first_powers.nd rfl (Or.inl rfl)) (fun _ _ _ _ _ => pts_nil) (fun _ _ _ _ _ => (by_mth O_Field_power fun _ _ hm hb F => pe_meth (pv 0) c_Field hm F (hr.mono (by decide)) hb .nil pass0 (pa_cons (pv 1) (pa_cons (pv 3) pa_nil))))))), ?_⟩
    refine s_retL (xs := powsV m x k) ?_ fun p H1 hp e1 hl => q p H1 hp e1 hl
    have := el_lcR (σ := start ["field", "x", "k", "e"] [.ref a, .int x, .int k]) (H := H) (n := (k : Int)) (vs := [3]) (j := 3) (fun e => V.int (Sr59.pow m x e : Nat)) (ta := tCons (tVar 2) tNil)
      (te := tMeth CF "power" (sp_Field_power CF) [] E0 (tVar 0) (tCons (tVar 1) (tCons (tVar 3) tNil))) (ea_cons (ev_var rfl) ea_nil) (le40 hk) (fun _ => rfl) ?_
    · rw [Int.toNat_natCast] at this
      exact this
    · intro e H1 e1 he
      obtain ⟨h1, h6, dx, pa, ho, hR⟩ := hF.mono e1
      exact ev_meth (ev_var rfl) ho (fF_power m pa) (ea_cons (ev_var rfl) (ea_cons (ev_var rfl) ea_nil)) fun H3 e3 Q q E => ⟨a, m, x, e, rfl, hF.mono (e1.trans e3), hx, by omega, q⟩
/-! ### plain_coin -/
def sp_plain_coin (C : Addr) : Sp := fun vs H Q _ => ∃ (a b c : Addr) (m k i seed : Nat), vs = [.ref a, .ref b, .ref c] ∧ FieldAt C H a m ∧ H b = some (.lst (partsV m seed k)) ∧ H c = some (.lst (powsV m i k)) ∧ i < 2 ^ m ∧
  RetV (.int (sumOn m i (fun j => seed / (2 ^ m) ^ j % 2 ^ m) k % 2 : Nat)) H Q
theorem ok_plain_coin (F : Fun K "plain_coin" "plain_coin" s_plain_coin f fd) (T : Txt K mg a_DIVISORS a_SHAPES) (Z : Clz K CF FIELDS_Field) (O_Field_product : OkM P w K mg base 1 CF "product" ["self", "x", "y"] (sp_Field_product CF)) :
    FnOk P w K mg base CX0 2 f fd ["field", "numbers", "powers"] (sp_plain_coin CF) := by
  refine F.ok sc_plain_coin (fun vs H Q E h => ?_) (fun cdv A outer s H vs Q E hr h => ?_)
  · obtain ⟨a, b, c, m, k, i, seed, rfl, _⟩ := h
    rfl
  · obtain ⟨a, b, c, m, k, i, seed, rfl, hF, hb, hc, hi, q⟩ := h
    have c_Field := Z.cls
    have mp : 0 < 2 ^ m := Nat.pow_pos (by decide)
    refine ⟨_, (pss_cons (ps_set (i := 3) sc_plain_coin.nd rfl (.inl rfl) pe_int) (pss_cons (ps_for PassesOwn.never rfl (pi_enum rfl T.n_enumerate (pa_cons (pv 1) pa_nil)) (pg_tup rfl (pgs_cons (pg_name (i := 4) sc_plain_coin.nd rfl (.inl rfl)) (pgs_cons (pg_name (i := 5) sc_plain_coin.nd rfl (.inl rfl)) pgs_nil))) (pss_one (ps_set (i := 3) sc_plain_coin.nd rfl (.inl rfl) (pe_op op_xor (pv 3) (by_mth O_Field_product fun _ _ hm hb F => pe_meth (pv 0) c_Field hm F (hr.mono (by decide)) hb .nil pass0 (pa_cons (pv 5) (pa_cons (pe_ixL (K := K) rfl (pv 2) (pv 4) (fun _ _ => rfl)) pa_nil))))))) (pss_one (ps_ret (pe_op op_and (pv 3) pe_int))))), ?_⟩
    refine q_asg ev_c fun H1 e1 => ?_
    refine q_forE (xs := partsV m seed k) (ev_var rfl) (sq_of (e1 _ _ hb)) (fun u σ H' => ∃ v1 v2, σ = [some (.ref a), some (.ref b), some (.ref c), some (.int (sumOn m i (fun j => seed / (2 ^ m) ^ j % 2 ^ m) u : Nat)), v1, v2] ∧ Ex H H') ?_ ?_ ?_ ?_
    · exact fun H2 e2 => ⟨_, _, rfl, e1.trans e2⟩
    · rintro u σ H2 _ ⟨v1, v2, rfl, e2⟩
      exact sq_of (e2 _ _ hb)
    · rintro u x σ H2 H3 hu ⟨v1, v2, rfl, e2⟩ e3
      have hu2 : u < k := by
        have := (List.getElem?_eq_some_iff.mp hu).1
        rw [partsV_len] at this
        exact this
      rw [partsV_at hu2] at hu
      obtain rfl := (Option.some.inj hu)
      have e := e2.trans e3
      obtain ⟨h1, h6, dx, pa, ho, hR⟩ := hF.mono e
      refine s_asg (ev_op (ev_var rfl) (ev_meth (ev_var rfl) ho (fF_product m pa) (ea_cons (ev_var rfl) (ea_cons (ev_op (ev_var rfl) (ev_var rfl) (rv_ixL (sq_of (e _ _ hc)) (at_nat (powsV_at hu2)))) ea_nil)) fun H4 e4 Q q E => ⟨a, m, _, _, rfl, hF.mono (e.trans e4), Nat.mod_lt _ mp, pow_lt h1 h6 hi u, q⟩) rv_I0) fun H4 e4 => ⟨some (.int u), some (.int (seed / (2 ^ m) ^ u % 2 ^ m : Nat)), ?_, e.trans e4⟩
      rw [xor_nat, ← sumOn_succ m i (fun j => seed / (2 ^ m) ^ j % 2 ^ m) u]
      rfl
    · rintro σ H2 ⟨v1, v2, rfl, e2⟩
      refine s_ret (ev_op (ev_var rfl) ev_c rv_I0) fun H3 e3 => ?_
      rw [and_one, partsV_len]
      exact q.go (e2.trans e3)
end
end Few
set_option Elab.async false
set_option linter.all false
set_option maxRecDepth 100000
set_option maxHeartbeats 2000000
namespace Few
open PySem PySem.Spec PyProof.Rows L2 Evl
def RetR (rows : List (List V)) (H : Hp) (Q : VK) : Prop := ∀ p H2, H p = none → Ex H H2 → Rows (newPart H H2) p rows → Q (.ref p) H2
def SpR (sp : Sp) (vs : List V) (H : Hp) (rows : List (List V)) : Prop := ∀ H1, Ex H H1 → ∀ Q : VK, (∀ p H2, H1 p = none → Ex H1 H2 → Rows (newPart H1 H2) p rows → Q (.ref p) H2) → ∀ E : XK, sp vs H1 Q E
section
variable {σ : L2.St} {H : Hp} {te : TE} {tz : TS} {D : Ends} {rows : List (List V)}
theorem q_asgR {i : Nat} (h : EvR te σ H rows) (k : ∀ p H1, H p = none → Ex H H1 → Rows (newPart H H1) p rows → tz D (σ.set i (some (.ref p))) H1) : tSeq (tAsg te (gName i)) tz D σ H := h H (Ex.refl H) _ fun p H1 hp e h1 => k p H1 hp e h1
theorem s_retR (h : EvR te σ H rows) (k : ∀ p H1, H p = none → Ex H H1 → Rows (newPart H H1) p rows → D.rt (.ref p) H1) : tRet te D σ H := h H (Ex.refl H) _ k
theorem er_fn {sp : Sp} {E : XK} {t : TA} {vs : List V} (hv : EvA t σ H vs) (hs : SpR sp vs H rows) : EvR (tCall sp [] E t) σ H rows := fun H1 e Q q =>
  hv H1 e _ fun H2 e2 => by
    show sp (vs ++ []) H2 Q E
    rw [List.append_nil]
    exact hs H2 (e.trans e2) Q (fun p H3 hp e3 h3 => q p H3 (fresh_back e2 hp) (e2.trans e3) (h3.mono (np_ex e2 (Ex.refl H3)))) E
end
/-! ### the rows of coins -/
def rowV (s : Sr59.Space) (x : Nat) : List V := (List.range (2 ^ s.m)).map fun i => .int (coinN s x i : Nat)
theorem rowV_len (s : Sr59.Space) (x : Nat) : (rowV s x).length = 2 ^ s.m := by
  unfold rowV
  rw [List.length_map, List.length_range]
theorem rowV_at {s : Sr59.Space} {x i : Nat} (h : i < 2 ^ s.m) : (rowV s x)[i]? = some (.int (coinN s x i : Nat)) := by
  unfold rowV
  rw [List.getElem?_map, List.getElem?_range h]
  rfl
theorem part_fun (s : Sr59.Space) (seed : Nat) : (fun j => seed / (2 ^ s.m) ^ j % 2 ^ s.m) = Sr59.part s seed := funext fun j => (part_eq s seed j).symm
section
variable {P : Program} {w : World} {K : PySem.W.Frag} {mg : Str → Option Value} {base : Heap} {a_DIVISORS a_SHAPES CF : Addr} {f : Addr} {fd : FuncData}
/-! ### plain_rows -/
def sp_plain_rows (C : Addr) : Sp := fun vs H Q _ => ∃ (a : Addr) (s : Sr59.Space) (n : Nat), vs = [.ref a, .int s.k, .int n] ∧ FieldAt C H a s.m ∧ s.faint = false ∧ s.k ≤ 10 ∧ n ≤ 1024 ∧ RetR ((List.range n).map (rowV s)) H Q
theorem ok_plain_rows (F : Fun K "plain_rows" "plain_rows" s_plain_rows f fd) (T : Txt K mg a_DIVISORS a_SHAPES) (Z : Clz K CF FIELDS_Field)
    (O_first_powers : Ok P w K mg base 3 "first_powers" ["field", "x", "k"] (sp_first_powers CF)) (O_seed_numbers : Ok P w K mg base 1 "seed_numbers" ["field", "k", "seed"] (sp_seed_numbers CF))
    (O_plain_coin : Ok P w K mg base 2 "plain_coin" ["field", "numbers", "powers"] (sp_plain_coin CF)) : FnOk P w K mg base CX0 4 f fd ["field", "k", "seeds"] (sp_plain_rows CF) := by
  refine F.ok sc_plain_rows (fun vs H Q E h => ?_) (fun cdv A outer s0 H vs Q E hr h => ?_)
  · obtain ⟨a, s, n, rfl, _⟩ := h
    rfl
  · obtain ⟨a, s, n, rfl, hF, hf, hk, hn, q⟩ := h
    have m64 := pow64 hF.h6
    refine ⟨_, (pss_cons (ps_set (i := 3) sc_plain_rows.nd rfl (.inr rfl) (pe_lc (own := [("i", 7)]) (g := gName 7) (tt := tYes) rfl sc_plain_rows.nd (pi_range1 rfl T.n_range (pa_cons (pe_fldK (K := K) rfl (pv 0) rfl) pa_nil)) (blkOk_by (by kernel_rfl)) (fun _ _ _ _ _ => pg_name (i := 7) sc_plain_rows.nd rfl (Or.inl rfl)) (fun _ _ _ _ _ => pts_nil) (fun _ _ _ _ _ => (by_fn O_first_powers fun _ _ hm kp hb F => pe_call F (hr.mono (by decide)) rfl hm kp hb .nil pass0 (pa_cons (pv 0) (pa_cons (pv 7) (pa_cons (pv 1) pa_nil))))))) (pss_cons (ps_set (i := 4) sc_plain_rows.nd rfl (.inl rfl) (pe_lst pa_nil)) (pss_cons (ps_for PassesOwn.never rfl (pi_range1 rfl T.n_range (pa_cons (pv 2) pa_nil)) (pg_name (i := 5) sc_plain_rows.nd rfl (.inl rfl)) (pss_cons (ps_set (i := 6) sc_plain_rows.nd rfl (.inr rfl) (by_fn O_seed_numbers fun _ _ hm kp hb F => pe_call F (hr.mono (by decide)) rfl hm kp hb .nil pass0 (pa_cons (pv 0) (pa_cons (pv 1) (pa_cons (pv 5) pa_nil))))) (pss_one (ps_expr (pe_bm PySem.F.plainAttrs_list PySem.F.slot_list_append PySem.F.type_list_append mt_append (pv 4) (pa_cons (pe_lc (own := [("i", 7)]) (g := gName 7) (tt := tYes) rfl sc_plain_rows.nd (pi_range1 rfl T.n_range (pa_cons (pe_fldK (K := K) rfl (pv 0) rfl) pa_nil)) (blkOk_by (by kernel_rfl)) (fun _ _ _ _ _ => pg_name (i := 7) sc_plain_rows.nd rfl (Or.inl rfl)) (fun _ _ _ _ _ => pts_nil) (fun _ _ _ _ _ => (by_fn O_plain_coin fun _ _ hm kp hb F => pe_call F (hr.mono (by decide)) rfl hm kp hb .nil pass0 (pa_cons (pv 0) (pa_cons (pv 6) (pa_cons (pe_ixL (K := K) rfl (pv 3) (pv 7) (fun _ _ => rfl)) pa_nil)))))) pa_nil)))))) (pss_one (ps_ret (pv 4)))))), ?_⟩
    refine q_asgR (rows := (List.range (2 ^ s.m)).map fun i => powsV s.m i s.k) ?_ fun pp H1 hpp e1 hR0 => ?_
    · have := er_lcR1 (σ := start ["field", "k", "seeds", "powers", "rows", "seed", "numbers", "i"] [.ref a, .int s.k, .int n]) (H := H) (n := ((2 ^ s.m : Nat) : Int)) (vs := [7]) (j := 7) (fun i => powsV s.m i s.k) (ta := tCons (tFld K (tVar 0) "size") tNil)
        (te := tCall (sp_first_powers CF) [] E0 (tCons (tVar 0) (tCons (tVar 7) (tCons (tVar 1) tNil)))) ?_ (le40 m64) (fun _ => rfl) ?_
      · rw [Int.toNat_natCast] at this
        exact this
      · obtain ⟨h1, h6, dx, pa, ho, hR⟩ := hF
        exact ea_cons (ev_fld (ev_var rfl) ho Z.cls (Z.no _ (by simp [FIELDS_Field])) (fF_size s.m pa)) ea_nil
      · intro i H3 e3 hi
        exact el_fn (ea_cons (ev_var rfl) (ea_cons (ev_var rfl) (ea_cons (ev_var rfl) ea_nil))) fun H4 e4 Q q E => ⟨a, s.m, i, s.k, rfl, hF.mono (e3.trans e4), by omega, by omega, q⟩
    · have hR1 := hR0.mono newPart_ex
      refine q_asgL (xs := []) (el_lst ea_nil (by decide)) fun pr H2 hpr e2 hl => ?_
      refine q_forR1 (n := n) (ea_cons (ev_var rfl) ea_nil) (by omega) (fun i σ H' => ∃ v5 v6 v7, σ = [some (.ref a), some (.int s.k), some (.int n), some (.ref pp), some (.ref pr), v5, v6, v7] ∧ Cr H1 (rowV s) pr i H') ?_ ?_ ?_
      · exact fun H3 e3 => ⟨none, none, none, rfl, hpr, e2.trans e3, [], e3 _ _ hl, rfl, fun k hk => absurd hk (Nat.not_lt_zero k)⟩
      · rintro i σ H3 hi ⟨v5, v6, v7, rfl, p1, p2, ps, p3, p4, p5⟩
        have e13 : Ex H H3 := e1.trans p2
        refine q_asgL (xs := partsV s.m i s.k) (el_fn (ea_cons (ev_var rfl) (ea_cons (ev_var rfl) (ea_cons (ev_var rfl) ea_nil))) fun H4 e4 Q q E => ⟨a, s.m, s.k, i, rfl, hF.mono (e13.trans e4), hk, q⟩) fun pn H4 hpn e4 h4 => ?_
        have e14 : Ex H H4 := e13.trans e4
        refine s_appL (xs := ps.map V.ref) (ys := rowV s i) (e4 _ _ p3) (ev_var rfl) ?_ (by rw [List.length_map]; omega) fun p5' H5 hp5 e5 h5 => ?_
        · have := el_lcR (σ := [some (.ref a), some (.int s.k), some (.int n), some (.ref pp), some (.ref pr), some (.int i), some (.ref pn), v7]) (H := H4) (n := ((2 ^ s.m : Nat) : Int)) (vs := [7]) (j := 7) (fun j => V.int (coinN s i j : Nat)) (ta := tCons (tFld K (tVar 0) "size") tNil)
            (te := tCall (sp_plain_coin CF) [] E0 (tCons (tVar 0) (tCons (tVar 6) (tCons (tOp (rIxL K) (tVar 3) (tVar 7)) tNil)))) ?_ (le40 m64) (fun _ => rfl) ?_
          · rw [Int.toNat_natCast] at this
            exact this
          · obtain ⟨h1, h6, dx, pa, ho, hR⟩ := hF.mono e14
            exact ea_cons (ev_fld (ev_var rfl) ho Z.cls (Z.no _ (by simp [FIELDS_Field])) (fF_size s.m pa)) ea_nil
          · intro j H6 e6 hj
            have hj' : j < 2 ^ s.m := by omega
            obtain ⟨qs, g1, g2, g3⟩ := hR1.mono ((p2.trans e4).trans e6)
            obtain ⟨b, hb, hc⟩ := g3 j (powsV s.m j s.k) (by rw [List.getElem?_map, List.getElem?_range hj']; rfl)
            refine ev_fn (ea_cons (ev_var rfl) (ea_cons (ev_var rfl) (ea_cons (ev_op (ev_var rfl) (ev_var rfl) (rv_ixL (sq_of g1) (v := .ref b) (at_nat ?_))) ea_nil))) fun H7 e7 Q q E => ⟨a, pn, b, s.m, s.k, j, i, rfl, hF.mono ((e14.trans e6).trans e7), e7 _ _ (e6 _ _ h4), e7 _ _ hc, hj', ?_⟩
            · rw [List.getElem?_map, hb]
              rfl
            · rw [part_fun, coin_plain hF.h1 hF.h6 hf i hj']
              exact q
        · exact ⟨some (.int i), some (.ref pn), v7, rfl, cr_step p1 (p2.trans e4) (e4 _ _ p3) p4 (fun k hk => by
            obtain ⟨b, b1, b2, b3⟩ := p5 k hk
            exact ⟨b, b1, b2, e4 _ _ b3⟩) hp5 e5 h5⟩
      · rintro σ H3 ⟨v5, v6, v7, rfl, hC⟩
        rw [Int.toNat_natCast] at hC
        exact s_ret (ev_var rfl) fun H4 e4 => q pr H4 (fresh_back e1 hpr) ((e1.trans hC.2.1).trans e4) ((cr_new e1 hC).mono (np_ex (Ex.refl H) e4))
/-! ### faint_row, faint_rows -/
def sp_faint_row (C : Addr) : Sp := fun vs H Q _ => ∃ (a b : Addr) (s : Sr59.Space) (seed : Nat), vs = [.ref a, .ref b] ∧ FieldAt C H a s.m ∧ s.faint = true ∧ s.m ≤ 4 ∧ H b = some (.lst (partsV s.m seed 2)) ∧ RetL (rowV s seed) H Q
theorem ok_faint_row (F : Fun K "faint_row" "faint_row" s_faint_row f fd) (T : Txt K mg a_DIVISORS a_SHAPES) (Z : Clz K CF FIELDS_Field)
    (O_first_powers : Ok P w K mg base 3 "first_powers" ["field", "x", "k"] (sp_first_powers CF)) (O_odd_ones : Ok P w K mg base 1 "odd_ones" ["number"] sp_odd_ones) :
    FnOk P w K mg base CX0 4 f fd ["field", "numbers"] (sp_faint_row CF) := by
  refine F.ok sc_faint_row (fun vs H Q E h => ?_) (fun cdv A outer s0 H vs Q E hr h => ?_)
  · obtain ⟨a, b, s, seed, rfl, _⟩ := h
    rfl
  · obtain ⟨a, b, s, seed, rfl, hF, hf, hm, hb, q⟩ := h
    have m64 := pow64 hF.h6
    have m16 : 2 ^ s.m ≤ 2 ^ 4 := Nat.pow_le_pow_right (by decide) hm
    have z0 : (partsV s.m seed 2)[0]? = some (.int (Sr59.part s seed 0 : Nat)) := by
      rw [partsV_at (by decide), part_eq]
    have z1 : (partsV s.m seed 2)[1]? = some (.int (Sr59.part s seed 1 : Nat)) := by
      rw [partsV_at (by decide), part_eq]
    refine ⟨_, (pss_cons (ps_set (i := 2) sc_faint_row.nd rfl (.inl rfl) (by_fn O_first_powers fun _ _ hm kp hb F => pe_call F (hr.mono (by decide)) rfl hm kp hb .nil pass0 (pa_cons (pv 0) (pa_cons (pe_ixL (K := K) rfl (pv 1) pe_int (fun _ _ => rfl)) (pa_cons (pe_fldK (K := K) rfl (pv 0) rfl) pa_nil))))) (pss_one (ps_ret (pe_lc (own := [("power", 3)]) (g := gName 3) (tt := tYes) rfl sc_faint_row.nd (pi_listK (K := K) rfl (pv 2)) (blkOk_by (by kernel_rfl)) (fun _ _ _ _ _ => pg_name (i := 3) sc_faint_row.nd rfl (Or.inl rfl)) (fun _ _ _ _ _ => pts_nil) (fun _ _ _ _ _ => (by_fn O_odd_ones fun _ _ hm kp hb F => pe_call F (hr.mono (by decide)) rfl hm kp hb .nil pass0 (pa_cons (pe_op op_and (pv 3) (pe_ixL (K := K) rfl (pv 1) pe_int (fun _ _ => rfl))) pa_nil))))))), ?_⟩
    have hF0 := hF
    obtain ⟨h1, h6, dx, pa, ho, hR⟩ := hF0
    refine q_asgL (xs := powsV s.m (Sr59.part s seed 0) (2 ^ s.m)) (el_fn (ea_cons (ev_var rfl) (ea_cons (ev_op (ev_var rfl) ev_c (rv_ixL (i := ((0 : Nat) : Int)) (sq_of hb) (at_nat z0))) (ea_cons (ev_fld (ev_var rfl) ho Z.cls (Z.no _ (by simp [FIELDS_Field])) (fF_size s.m pa)) ea_nil))) fun H4 e4 Q q E => ⟨a, s.m, _, _, rfl, hF.mono e4, part_lt _ _ _, m64, q⟩) fun pp H1 hpp e1 hl => ?_
    refine s_retL (xs := rowV s seed) ?_ fun p H2 hp e2 h2 => q p H2 (fresh_back e1 hp) (e1.trans e2) h2
    have := el_lcL (K := K) (σ := [some (.ref a), some (.ref b), some (.ref pp), none]) (H := H1) (a := pp) (vs := [3]) (j := 3) (tl := tVar 2) (t := tYes) (fun _ => true) (fun i => V.int (coinN s seed i : Nat))
      (te := tCall sp_odd_ones [] E0 (tCons (tOp (rI0 fun i j => .int (Builtin.bitAnd i j)) (tVar 3) (tOp (rIxL K) (tVar 1) (tC (.int 1)))) tNil)) (ev_var rfl) (sq_of hl) (by rw [powsV_len]; omega) (fun _ => rfl) (fun _ _ _ _ _ H1 _ Q q => q H1 (Ex.refl H1)) ?_
    · rw [given_all, powsV_len] at this
      exact this
    · intro i x H3 e3 hi _
      have hi2 : i < 2 ^ s.m := by
        have := (List.getElem?_eq_some_iff.mp hi).1
        rw [powsV_len] at this
        exact this
      rw [powsV_at hi2] at hi
      obtain rfl := Option.some.inj hi
      refine ev_fn (ea_cons (ev_op (ev_var rfl) (ev_op (ev_var rfl) ev_c (rv_ixL (i := ((1 : Nat) : Int)) (sq_of (e3 _ _ (e1 _ _ hb))) (at_nat z1))) rv_I0) ea_nil) fun H4 e4 Q q E => ⟨Sr59.pow s.m (Sr59.part s seed 0) i &&& Sr59.part s seed 1, ?_, ?_, ?_⟩
      · rw [and_nat]
      · have := part_lt s seed 1
        have l : Sr59.pow s.m (Sr59.part s seed 0) i &&& Sr59.part s seed 1 ≤ Sr59.part s seed 1 := Nat.and_le_right
        omega
      · rw [coin_faint h1 hm hf]
        exact q
def sp_faint_rows (C : Addr) : Sp := fun vs H Q _ => ∃ (a : Addr) (s : Sr59.Space) (n : Nat), vs = [.ref a, .int s.k, .int n] ∧ FieldAt C H a s.m ∧ s.faint = true ∧ s.k = 2 ∧ s.m ≤ 4 ∧ n ≤ 1024 ∧ RetR ((List.range n).map (rowV s)) H Q
theorem ok_faint_rows (F : Fun K "faint_rows" "faint_rows" s_faint_rows f fd) (T : Txt K mg a_DIVISORS a_SHAPES) (Z : Clz K CF FIELDS_Field)
    (O_faint_row : Ok P w K mg base 4 "faint_row" ["field", "numbers"] (sp_faint_row CF)) (O_seed_numbers : Ok P w K mg base 1 "seed_numbers" ["field", "k", "seed"] (sp_seed_numbers CF)) :
    FnOk P w K mg base CX0 5 f fd ["field", "k", "seeds"] (sp_faint_rows CF) := by
  refine F.ok sc_faint_rows (fun vs H Q E h => ?_) (fun cdv A outer s0 H vs Q E hr h => ?_)
  · obtain ⟨a, s, n, rfl, _⟩ := h
    rfl
  · obtain ⟨a, s, n, rfl, hF, hf, hk, hm, hn, q⟩ := h
    refine ⟨_, (pss_one (ps_ret (pe_lc (own := [("seed", 3)]) (g := gName 3) (tt := tYes) rfl sc_faint_rows.nd (pi_range1 rfl T.n_range (pa_cons (pv 2) pa_nil)) (blkOk_by (by kernel_rfl)) (fun _ _ _ _ _ => pg_name (i := 3) sc_faint_rows.nd rfl (Or.inl rfl)) (fun _ _ _ _ _ => pts_nil) (fun _ _ _ _ _ => (by_fn O_faint_row fun _ _ hm kp hb F => pe_call F (hr.mono (by decide)) rfl hm kp hb .nil pass0 (pa_cons (pv 0) (pa_cons (by_fn O_seed_numbers fun _ _ hm kp hb F => pe_call F (hr.mono (by decide)) rfl hm kp hb .nil pass0 (pa_cons (pv 0) (pa_cons (pv 1) (pa_cons (pv 3) pa_nil)))) pa_nil))))))), ?_⟩
    refine s_retR (rows := (List.range n).map (rowV s)) ?_ fun p H1 hp e1 h1 => q p H1 hp e1 h1
    have := er_lcR1 (σ := start ["field", "k", "seeds", "seed"] [.ref a, .int s.k, .int n]) (H := H) (n := (n : Int)) (vs := [3]) (j := 3) (fun i => rowV s i) (ta := tCons (tVar 2) tNil)
      (te := tCall (sp_faint_row CF) [] E0 (tCons (tVar 0) (tCons (tCall (sp_seed_numbers CF) [] E0 (tCons (tVar 0) (tCons (tVar 1) (tCons (tVar 3) tNil)))) tNil))) (ea_cons (ev_var rfl) ea_nil) (by omega) (fun _ => rfl) ?_
    · rw [Int.toNat_natCast] at this
      exact this
    · intro i H3 e3 hi
      refine el_fnL (ys := partsV s.m i s.k) (ev_var rfl) (el_fn (ea_cons (ev_var rfl) (ea_cons (ev_var rfl) (ea_cons (ev_var rfl) ea_nil))) fun H4 e4 Q q E => ⟨a, s.m, s.k, i, rfl, hF.mono (e3.trans e4), by omega, q⟩) fun p H4 e4 h4 H5 e5 Q q E => ⟨a, p, s, i, rfl, hF.mono ((e3.trans e4).trans e5), hf, hm, ?_, q⟩
      rw [e5 _ _ h4, hk]
/-! ### lies_so -/
theorem lie_take {r : List Nat} : ∀ {cs bs : List Nat} {i : Nat} {c b : Nat}, cs[i]? = some c → bs[i]? = some b → lieB r (cs.take (i + 1)) (bs.take (i + 1)) = (lieB r (cs.take i) (bs.take i) && (r.getD c 0 == b))
  | [], _, _, _, _, h, _ => by simp at h
  | _ :: _, [], _, _, _, _, h => by simp at h
  | c :: cs, b :: bs, 0, _, _, h, h' => by
    obtain rfl := Option.some.inj h
    obtain rfl := Option.some.inj h'
    simp [lieB]
  | c :: cs, b :: bs, i + 1, _, _, h, h' => by
    have ih := lie_take (r := r) (cs := cs) (bs := bs) (i := i) h h'
    show ((r.getD c 0 == b) && lieB r (cs.take (i + 1)) (bs.take (i + 1))) = (((r.getD c 0 == b) && lieB r (cs.take i) (bs.take i)) && _)
    rw [ih, Bool.and_assoc]
theorem lie_false {r : List Nat} : ∀ {i : Nat} {cs bs : List Nat}, lieB r (cs.take i) (bs.take i) = false → lieB r cs bs = false
  | 0, _, _, h => by simp [lieB] at h
  | _ + 1, [], _, h => by simp [lieB] at h
  | _ + 1, _ :: _, [], h => by simp [lieB] at h
  | i + 1, c :: cs, b :: bs, h => by
    have h : ((r.getD c 0 == b) && lieB r (cs.take i) (bs.take i)) = false := h
    show ((r.getD c 0 == b) && lieB r cs bs) = false
    cases hb : (r.getD c 0 == b) with
    | false => rfl
    | true =>
      rw [hb, Bool.true_and] at h
      rw [lie_false h]
      rfl
def natsV (l : List Nat) : List V := l.map fun (n : Nat) => .int (n : Int)
theorem natsV_at {l : List Nat} {i n : Nat} (h : l[i]? = some n) : (natsV l)[i]? = some (.int (n : Int)) := by
  unfold natsV
  rw [List.getElem?_map, h]
  rfl
theorem natsV_of {l : List Nat} {i : Nat} {v : V} (h : (natsV l)[i]? = some v) : ∃ n, l[i]? = some n ∧ v = .int (n : Int) := by
  unfold natsV at h
  rw [List.getElem?_map] at h
  cases e : l[i]? with
  | none =>
    rw [e] at h
    cases h
  | some n =>
    rw [e] at h
    exact ⟨n, rfl, (Option.some.inj h).symm⟩
theorem natsV_len (l : List Nat) : (natsV l).length = l.length := by
  unfold natsV
  rw [List.length_map]
def sp_lies_so : Sp := fun vs H Q _ => ∃ (a b c : Addr) (r cs bs : List Nat), vs = [.ref a, .ref b, .ref c] ∧ H a = some (.lst (natsV r)) ∧ H b = some (.lst (natsV cs)) ∧ H c = some (.lst (natsV bs)) ∧ (∀ x ∈ cs, x < r.length) ∧ bs.length = cs.length ∧ RetV (.bl (lieB r cs bs)) H Q
theorem ok_lies_so (F : Fun K "lies_so" "lies_so" s_lies_so f fd) (T : Txt K mg a_DIVISORS a_SHAPES) : FnOk P w K mg base CX0 1 f fd ["row", "coins", "lie"] sp_lies_so := by
  refine F.ok sc_lies_so (fun vs H Q E h => ?_) (fun cdv A outer s0 H vs Q E hr h => ?_)
  · obtain ⟨a, b, c, r, cs, bs, rfl, _⟩ := h
    rfl
  · obtain ⟨a, b, c, r, cs, bs, rfl, ha, hb, hc, hx, hlen, q⟩ := h
    refine ⟨_, (pss_cons (ps_for PassesOwn.never rfl (pi_enum rfl T.n_enumerate (pa_cons (pv 1) pa_nil)) (pg_tup rfl (pgs_cons (pg_name (i := 3) sc_lies_so.nd rfl (.inl rfl)) (pgs_cons (pg_name (i := 4) sc_lies_so.nd rfl (.inl rfl)) pgs_nil))) (pss_one (ps_if (pt_cmpR op_ne (pe_ixL (K := K) rfl (pv 0) (pv 4) (fun _ _ => rfl)) (pe_ixL (K := K) rfl (pv 2) (pv 3) (fun _ _ => rfl)) (nomark _)) (pss_one (ps_ret pe_bl)) pss_nil))) (pss_one (ps_ret pe_bl))), ?_⟩
    refine q_forE (xs := natsV cs) (ev_var rfl) (sq_of hb) (fun u σ H' => ∃ v1 v2, σ = [some (.ref a), some (.ref b), some (.ref c), v1, v2] ∧ Ex H H' ∧ lieB r (cs.take u) (bs.take u) = true) ?_ ?_ ?_ ?_
    · exact fun H2 e2 => ⟨none, none, rfl, e2, by simp [lieB]⟩
    · rintro u σ H2 _ ⟨v1, v2, rfl, e2, _⟩
      exact sq_of (e2 _ _ hb)
    · rintro u x σ H2 H3 hu ⟨v1, v2, rfl, e2, hu0⟩ e3
      obtain ⟨n, hn, rfl⟩ := natsV_of hu
      have hu2 : u < cs.length := (List.getElem?_eq_some_iff.mp hn).1
      obtain ⟨z, hz⟩ : ∃ z, bs[u]? = some z := ⟨bs[u]'(by omega), List.getElem?_eq_getElem (by omega)⟩
      have hnr : n < r.length := hx n (List.mem_of_getElem? hn)
      have hr : r[n]? = some (r.getD n 0) := by
        rw [List.getElem?_eq_getElem hnr, List.getD_eq_getElem?_getD, List.getElem?_eq_getElem hnr]
        rfl
      have e := e2.trans e3
      refine s_when (b := !(r.getD n 0 == z)) (et_is (et_test (ev_op (ev_op (ev_var rfl) (ev_var rfl) (rv_ixL (sq_of (e _ _ ha)) (at_nat (natsV_at hr)))) (ev_op (ev_var rfl) (ev_var rfl) (rv_ixL (sq_of (e _ _ hc)) (at_nat (natsV_at hz)))) (rv_ne rfl))) ?_) ?_ ?_
      · congr 1
        by_cases hh : r.getD n 0 = z
        · rw [hh]
          simp
        · rw [decide_eq_false (fun h => hh (by have := V.int.inj h; omega))]
          exact (beq_eq_false_iff_ne.mpr hh).symm
      · intro hb2 H4 e4
        refine s_ret ev_c fun H5 e5 => ?_
        have : lieB r cs bs = false := by
          refine lie_false (i := u + 1) ?_
          rw [lie_take hn hz, hu0]
          simpa using hb2
        rw [this] at q
        exact q.go ((e.trans e4).trans e5)
      · intro hb2 H4 e4
        refine ⟨some (.int u), some (.int n), rfl, e.trans e4, ?_⟩
        rw [lie_take hn hz, hu0]
        simpa using hb2
    · rintro σ H2 ⟨v1, v2, rfl, e2, h2⟩
      rw [natsV_len, List.take_length, ← hlen, List.take_length] at h2
      rw [h2] at q
      exact s_ret ev_c fun H3 e3 => q.go (e2.trans e3)
end
end Few
set_option Elab.async false
set_option linter.all false
set_option maxRecDepth 100000
set_option maxHeartbeats 2000000
namespace Few
open PySem PySem.Spec PyProof.Rows L2 Evl
/-! ### something new, of which P holds in the new part -/
def EvP (te : TE) (σ : L2.St) (H : Hp) (Pr : Addr → Hp → Prop) : Prop := ∀ H1, Ex H H1 → ∀ Q : VK, (∀ x H2, H1 x = none → Ex H1 H2 → Pr x (newPart H1 H2) → Q (.ref x) H2) → te σ H1 Q
section
variable {K : PySem.W.Frag} {σ : L2.St} {H H' : Hp} {ta tv te : TE} {a C dx : Addr} {fs : List (Str × V)} {f : Str} {D : Ends} {tz : TS} {Pr : Addr → Hp → Prop} {t : TA} {vs : List V} {sp : Sp} {E : XK}
theorem en_make (hv : EvA t σ H vs) (hm : ∀ x H H', Ex H H' → Pr x H → Pr x H') (hs : ∀ H1 x dx, Ex H H1 → H1 x = none → H1 dx = none → dx ≠ x → ∀ Q : VK, (∀ H2 G, Ex G H2 → (∀ b o, G b = some o → b = x ∨ (upd (upd H1 dx (.own x)) x (.ins C dx [])) b = none) → Pr x G → (∀ b o, (upd (upd H1 dx (.own x)) x (.ins C dx [])) b = some o → b ≠ x → H2 b = some o) → Q .non H2) → sp (.ref x :: vs) (upd (upd H1 dx (.own x)) x (.ins C dx [])) Q E) :
    EvP (tMake C sp [] E t) σ H Pr := fun H1 e Q q =>
  hv H1 e _ fun H2 e2 x dx nx nd ne => by
    rw [List.append_nil]
    refine hs H2 x dx (e.trans e2) nx nd ne _ fun H3 G eG hG h3 kp => ⟨rfl, ?_⟩
    have s1 : Same H2 H3 := Same.made nx nd kp
    refine q x H3 (fresh_back e2 nx) (e2.trans s1) (hm x _ _ (fun b o hb => newPart_of (fresh_back e2 ?_) (eG _ _ hb)) h3)
    rcases hG b o hb with rfl | hn
    · exact nx
    · by_cases h1 : b = x
      · rw [h1]
        exact nx
      · by_cases h2 : b = dx
        · rw [h2]
          exact nd
        · rw [upd_ne h1, upd_ne h2] at hn
          exact hn
theorem q_fldP (hv : EvP tv σ H Pr) (ha : Ev ta σ H (.ref a)) (ho : H a = some (.ins C dx fs)) (c : Cls K C) (n : NoAttr K C f) (hl : fs.length < 1000) (hm : ∀ x H H', Ex H H' → Pr x H → Pr x H')
    (k : ∀ x H1, H x = none → Ex H H1 → Pr x (newPart H H1) → tz D σ (upd H1 a (.ins C dx (putF f (.ref x) fs)))) : tSeq (sFld K ta tv f) tz D σ H :=
  hv H (Ex.refl H) _ fun x H1 hx e1 hR => ha H1 e1 _ fun H2 e2 => ⟨a, C, dx, fs, rfl, e2 _ _ (e1 _ _ ho), c, n, hl, k x H2 hx (e1.trans e2) (hm x _ _ (np_ex (Ex.refl H) e2) hR)⟩
end
/-! ### the coins -/
def cF (s : Sr59.Space) (pf pr : Addr) : List (Str × V) := [("field", .ref pf), ("how_many", .int (2 ^ s.m : Nat)), ("seeds", .int (2 ^ (s.m * s.k) : Nat)), ("rows", .ref pr)]
theorem cF_field (s : Sr59.Space) (pf pr : Addr) : (cF s pf pr).lookup ("field" : Str) = some (.ref pf) := by kernel_rfl
theorem cF_how_many (s : Sr59.Space) (pf pr : Addr) : (cF s pf pr).lookup ("how_many" : Str) = some (.int (2 ^ s.m : Nat)) := by kernel_rfl
theorem cF_seeds (s : Sr59.Space) (pf pr : Addr) : (cF s pf pr).lookup ("seeds" : Str) = some (.int (2 ^ (s.m * s.k) : Nat)) := by kernel_rfl
theorem cF_rows (s : Sr59.Space) (pf pr : Addr) : (cF s pf pr).lookup ("rows" : Str) = some (.ref pr) := by kernel_rfl
theorem cF_has_seed (s : Sr59.Space) (pf pr : Addr) : (cF s pf pr).lookup ("has_seed" : Str) = none := by kernel_rfl
theorem cF_has_coin (s : Sr59.Space) (pf pr : Addr) : (cF s pf pr).lookup ("has_coin" : Str) = none := by kernel_rfl
theorem cF_are_rising (s : Sr59.Space) (pf pr : Addr) : (cF s pf pr).lookup ("are_rising" : Str) = none := by kernel_rfl
theorem cF_lying (s : Sr59.Space) (pf pr : Addr) : (cF s pf pr).lookup ("seeds_lying_so" : Str) = none := by kernel_rfl
theorem cF_odd (s : Sr59.Space) (pf pr : Addr) : (cF s pf pr).lookup ("seeds_with_odd" : Str) = none := by kernel_rfl
structure GoodS (s : Sr59.Space) : Prop where
  h1 : 1 ≤ s.m
  h6 : s.m ≤ 6
  k1 : 1 ≤ s.k
  mk10 : s.m * s.k ≤ 10
  fk : s.faint = true → s.k = 2 ∧ s.m ≤ 4
theorem GoodS.k10 {s : Sr59.Space} (g : GoodS s) : s.k ≤ 10 := by
  have := g.mk10
  have h := Nat.mul_le_mul_right s.k g.h1
  omega
theorem GoodS.seeds {s : Sr59.Space} (g : GoodS s) : 2 ^ (s.m * s.k) ≤ 1024 := Nat.pow_le_pow_right (n := 2) (by decide) g.mk10
structure CoinsAt (C CF : Addr) (H : Hp) (a : Addr) (s : Sr59.Space) : Prop where
  good : GoodS s
  ob : ∃ dx pf pr, H a = some (.ins C dx (cF s pf pr)) ∧ FieldAt CF H pf s.m ∧ Rows H pr ((List.range (2 ^ (s.m * s.k))).map (rowV s))
theorem CoinsAt.mono {C CF a : Addr} {H H' : Hp} {s : Sr59.Space} (e : Ex H H') (h : CoinsAt C CF H a s) : CoinsAt C CF H' a s := by
  obtain ⟨g, dx, pf, pr, ho, hF, hR⟩ := h
  exact ⟨g, dx, pf, pr, e _ _ ho, hF.mono e, hR.mono e⟩
section
variable {P : Program} {w : World} {K : PySem.W.Frag} {mg : Str → Option Value} {base : Heap} {a_DIVISORS a_SHAPES CF CC : Addr} {f : Addr} {fd : FuncData}
def FIELDS_Coins : List Str := ["field", "how_many", "seeds", "rows"]
def sp_Coins_init (C CF : Addr) : Sp := fun vs H Q _ => ∃ (p dx : Addr) (s : Sr59.Space), vs = [.ref p, .int s.m, .int s.k, .bl s.faint] ∧ GoodS s ∧ H p = some (.ins C dx []) ∧
  ∀ H' G : Hp, Ex G H' → (∀ b o, G b = some o → b = p ∨ H b = none) → CoinsAt C CF G p s → (∀ b o, H b = some o → b ≠ p → H' b = some o) → Q .non H'
theorem ok_Coins_init (F : Fun K "__init__" "Coins.__init__" s_Coins_init f fd) (T : Txt K mg a_DIVISORS a_SHAPES) (ZF : Clz K CF FIELDS_Field) (Z : Clz K CC FIELDS_Coins) (O_Field : OkC P w K mg base 3 "Field" CF ["self", "m"] (sp_Field_init CF))
    (O_plain_rows : Ok P w K mg base 4 "plain_rows" ["field", "k", "seeds"] (sp_plain_rows CF)) (O_faint_rows : Ok P w K mg base 5 "faint_rows" ["field", "k", "seeds"] (sp_faint_rows CF)) :
    FnOk P w K mg base CX0 6 f fd ["self", "m", "k", "faint"] (sp_Coins_init CC CF) := by
  refine F.ok sc_Coins_init (fun vs H Q E h => ?_) (fun cdv A outer s0 H vs Q E hr h => ?_)
  · obtain ⟨p, dx, s, rfl, _⟩ := h
    rfl
  · obtain ⟨p, dx, s, rfl, g, hp, q⟩ := h
    have m64 := pow64 g.h6
    refine ⟨_, (pss_cons (ps_fld (pv 0) (by_cls O_Field fun _ _ hm M hb F => pe_make M F (hr.mono (by decide)) rfl hm hb .nil pass0 (pa_cons (pv 1) pa_nil)) rfl) (pss_cons (ps_fld (pv 0) (pe_fldK (K := K) rfl (pe_fldK (K := K) rfl (pv 0) rfl) rfl) rfl) (pss_cons (ps_fld (pv 0) (pe_op op_shl pe_int (pe_op op_mul (pv 1) (pv 2))) rfl) (pss_one (ps_if (pt_val (pv 3)) (pss_one (ps_fld (pv 0) (by_fn O_faint_rows fun _ _ hm kp hb F => pe_call F (hr.mono (by decide)) rfl hm kp hb .nil pass0 (pa_cons (pe_fldK (K := K) rfl (pv 0) rfl) (pa_cons (pv 2) (pa_cons (pe_fldK (K := K) rfl (pv 0) rfl) pa_nil)))) rfl)) (pss_one (ps_fld (pv 0) (by_fn O_plain_rows fun _ _ hm kp hb F => pe_call F (hr.mono (by decide)) rfl hm kp hb .nil pass0 (pa_cons (pe_fldK (K := K) rfl (pv 0) rfl) (pa_cons (pv 2) (pa_cons (pe_fldK (K := K) rfl (pv 0) rfl) pa_nil)))) rfl))))))), ?_⟩
    refine q_fldP (Pr := fun x H2 => FieldAt CF H2 x s.m) (en_make (ea_cons (ev_var rfl) ea_nil) (fun _ _ _ e h => h.mono e) fun H1 x dx' e nx nd ne Q q => ⟨x, dx', s.m, rfl, g.h1, g.h6, upd_same, q⟩) (ev_var rfl) hp Z.cls (Z.no _ (by simp [FIELDS_Coins])) (by decide) (fun _ _ _ e h => h.mono e) fun x H1 nx e1 hF1 => ?_
    -- the field lies in the new part, and no store to self touches it
    have keep : ∀ {H2 : Hp} {o : HO}, Ex (newPart H H1) H2 → Ex (newPart H H1) (upd H2 p o) := by
      intro H2 o e b u hb
      have hn := newPart_none hb
      rw [upd_ne (fun e' => by rw [e', hp] at hn; cases hn)]
      exact e _ _ hb
    have k1 : Ex (newPart H H1) (upd H1 p (.ins CC dx (putF "field" (.ref x) []))) := keep newPart_ex
    obtain ⟨_, _, dxf, pa, hof, _⟩ := hF1.mono k1
    refine q_fld (y := .int (2 ^ s.m : Nat)) (ev_fld (ev_fld (ev_var rfl) upd_same Z.cls (Z.no _ (by simp [FIELDS_Coins])) (by kernel_rfl)) hof ZF.cls (ZF.no _ (by simp [FIELDS_Field])) (fF_size s.m pa)) (ev_var rfl) upd_same Z.cls (Z.no _ (by simp [FIELDS_Coins])) (show 1 < 1000 by decide) fun H3 e3 => ?_
    have k3 : Ex (newPart H H1) (upd H3 p (.ins CC dx (putF "how_many" (.int (2 ^ s.m : Nat)) (putF "field" (.ref x) [])))) := keep (k1.trans e3)
    refine q_fld (y := .int (2 ^ (s.m * s.k) : Nat)) (ev_is (ev_op ev_c (ev_op (ev_var rfl) (ev_var rfl) (rv_I ?_)) (rv_I ?_)) ?_) (ev_var rfl) upd_same Z.cls (Z.no _ (by simp [FIELDS_Coins])) (show 2 < 1000 by decide) fun H4 e4 => ?_
    · have := g.h6
      exact .inl ⟨by omega, by omega⟩
    · rw [← Int.natCast_mul]
      exact cpow_one g.mk10
    · rw [← Int.natCast_mul, one_shl]
    have k4 : Ex (newPart H H1) (upd H4 p (.ins CC dx (putF "seeds" (.int (2 ^ (s.m * s.k) : Nat)) (putF "how_many" (.int (2 ^ s.m : Nat)) (putF "field" (.ref x) []))))) := keep (k3.trans e4)
    have hF4 := hF1.mono k4
    -- what was there ahead of the call stands, but for self
    have old4 : ∀ b o, H b = some o → b ≠ p → (upd H4 p (.ins CC dx (putF "seeds" (.int (2 ^ (s.m * s.k) : Nat)) (putF "how_many" (.int (2 ^ s.m : Nat)) (putF "field" (.ref x) []))))) b = some o := by
      intro b o hb nb
      rw [upd_ne nb]
      refine e4 _ _ ?_
      rw [upd_ne nb]
      refine e3 _ _ ?_
      rw [upd_ne nb]
      exact e1 _ _ hb
    have fin : ∀ pr H5 H6, Ex (upd H4 p (.ins CC dx (putF "seeds" (.int (2 ^ (s.m * s.k) : Nat)) (putF "how_many" (.int (2 ^ s.m : Nat)) (putF "field" (.ref x) []))))) H5 → Ex H5 H6 → Rows (newPart H5 H6) pr ((List.range (2 ^ (s.m * s.k))).map (rowV s)) →
        Q .non (upd H6 p (.ins CC dx (putF "rows" (.ref pr) (putF "seeds" (.int (2 ^ (s.m * s.k) : Nat)) (putF "how_many" (.int (2 ^ s.m : Nat)) (putF "field" (.ref x) [])))))) := by
      intro pr H5 H6 e5 e6 hR
      have hp5 := e5 _ _ upd_same
      have nw : ∀ b o, newPart H5 H6 b = some o → b ≠ p ∧ H b = none := by
        intro b o hb
        have hn := newPart_none hb
        have nb : b ≠ p := fun e => by
          rw [e, hp5] at hn
          cases hn
        refine ⟨nb, ?_⟩
        cases hh : H b with
        | none => rfl
        | some o' =>
          rw [e5 _ _ (old4 b o' hh nb)] at hn
          cases hn
      have eG : Ex (newPart H5 H6) (upd (newPart H H6) p (.ins CC dx (cF s x pr))) := fun b o hb => by
        rw [upd_ne (nw b o hb).1]
        exact newPart_of (nw b o hb).2 (newPart_ex _ _ hb)
      have eF : Ex (newPart H H1) (upd (newPart H H6) p (.ins CC dx (cF s x pr))) := fun b o hb => by
        have hn := newPart_none hb
        rw [upd_ne (fun e' => by rw [e', hp] at hn; cases hn)]
        exact newPart_of hn (e6 _ _ (e5 _ _ (k4 _ _ hb)))
      refine q _ (upd (newPart H H6) p (.ins CC dx (cF s x pr))) ?_ ?_ ⟨g, dx, x, pr, upd_same, hF1.mono eF, hR.mono eG⟩ fun b o hb nb => ?_
      · intro b o hb
        by_cases e : b = p
        · subst e
          rw [upd_same] at hb ⊢
          rw [← hb]
          exact congrArg some (congrArg (HO.ins CC dx) (by kernel_rfl))
        · rw [upd_ne e] at hb ⊢
          exact newPart_ex _ _ hb
      · intro b o hb
        by_cases e : b = p
        · exact .inl e
        · rw [upd_ne e] at hb
          exact .inr (newPart_none hb)
      · rw [upd_ne nb]
        exact e6 _ _ (e5 _ _ (old4 b o hb nb))
    refine s_if (b := s.faint) (et_B (ev_var rfl)) (fun hb H5 e5 => ?_) (fun hb H5 e5 => ?_)
    · refine s_fldR (er_fn (ea_cons (ev_fld (ev_var rfl) (e5 _ _ upd_same) Z.cls (Z.no _ (by simp [FIELDS_Coins])) (by kernel_rfl)) (ea_cons (ev_var rfl) (ea_cons (ev_fld (ev_var rfl) (e5 _ _ upd_same) Z.cls (Z.no _ (by simp [FIELDS_Coins])) (by kernel_rfl)) ea_nil))) fun H6 e6 Q q E => ⟨x, s, _, rfl, hF4.mono (e5.trans e6), hb, (g.fk hb).1, (g.fk hb).2, g.seeds, q⟩) (ev_var rfl) (e5 _ _ upd_same) Z.cls (Z.no _ (by simp [FIELDS_Coins])) (show 3 < 1000 by decide) fun pr H6 _ e6 hR => fin pr H5 H6 e5 e6 hR
    · refine s_fldR (er_fn (ea_cons (ev_fld (ev_var rfl) (e5 _ _ upd_same) Z.cls (Z.no _ (by simp [FIELDS_Coins])) (by kernel_rfl)) (ea_cons (ev_var rfl) (ea_cons (ev_fld (ev_var rfl) (e5 _ _ upd_same) Z.cls (Z.no _ (by simp [FIELDS_Coins])) (by kernel_rfl)) ea_nil))) fun H6 e6 Q q E => ⟨x, s, _, rfl, hF4.mono (e5.trans e6), hb, g.k10, g.seeds, q⟩) (ev_var rfl) (e5 _ _ upd_same) Z.cls (Z.no _ (by simp [FIELDS_Coins])) (show 3 < 1000 by decide) fun pr H6 _ e6 hR => fin pr H5 H6 e5 e6 hR
end
end Few
set_option Elab.async false
set_option linter.all false
set_option maxRecDepth 100000
set_option maxHeartbeats 2000000
namespace Few
open PySem PySem.Spec PyProof.Rows L2 Evl
def intsV (l : List Int) : List V := l.map V.int
theorem intsV_len (l : List Int) : (intsV l).length = l.length := by
  unfold intsV
  rw [List.length_map]
theorem intsV_of {l : List Int} {i : Nat} {v : V} (h : (intsV l)[i]? = some v) : ∃ n, l[i]? = some n ∧ v = .int n := by
  unfold intsV at h
  rw [List.getElem?_map] at h
  cases e : l[i]? with
  | none =>
    rw [e] at h
    cases h
  | some n =>
    rw [e] at h
    exact ⟨n, rfl, (Option.some.inj h).symm⟩
theorem intsV_nats (l : List Nat) : intsV (l.map fun (n : Nat) => (n : Int)) = natsV l := by
  unfold intsV natsV
  rw [List.map_map]
  rfl
theorem rowV_eq (s : Sr59.Space) (x : Nat) : rowV s x = natsV (rowN s x) := by
  unfold rowV natsV rowN
  rw [List.map_map]
  rfl
theorem drop_at {α : Type} : ∀ {l : List α} {i : Nat} {x : α}, l[i]? = some x → l.drop i = x :: l.drop (i + 1)
  | [], i, x, h => by simp at h
  | a :: l, 0, x, h => by
    obtain rfl := Option.some.inj h
    rfl
  | a :: l, i + 1, x, h => drop_at (l := l) (i := i) h
section
variable {K : PySem.W.Frag} {σ : L2.St} {H : Hp} {te : TE}
theorem ev_sum {ns : List Int} (h : EvL te σ H (intsV ns)) : Ev (tCB (rSum K) (tCons te tNil)) σ H (.int ns.sum) := fun H1 e Q q =>
  h H1 e _ fun p H2 _ e2 h2 => ⟨p, ns, rfl, sq_of h2, q H2 e2⟩
theorem ev_sumR {a : Addr} {ns : List Int} (h : Ev te σ H (.ref a)) (hs : SqL K H a (intsV ns)) : Ev (tCB (rSum K) (tCons te tNil)) σ H (.int ns.sum) := fun H1 e Q q =>
  h H1 e _ fun H2 e2 => ⟨a, ns, rfl, ex_l (e.trans e2) hs, q H2 e2⟩
end
section
variable {P : Program} {w : World} {K : PySem.W.Frag} {mg : Str → Option Value} {base : Heap} {a_DIVISORS a_SHAPES CF CC : Addr} {f : Addr} {fd : FuncData}
def sp_Coins_has_seed (C CF : Addr) : Sp := fun vs H Q _ => ∃ (a : Addr) (s : Sr59.Space) (x : Int), vs = [.ref a, .int x] ∧ CoinsAt C CF H a s ∧ RetV (.bl (inR (2 ^ (s.m * s.k)) x)) H Q
theorem ok_Coins_has_seed (F : Fun K "has_seed" "Coins.has_seed" s_Coins_has_seed f fd) (Z : Clz K CC FIELDS_Coins) : FnOk P w K mg base CX0 1 f fd ["self", "s"] (sp_Coins_has_seed CC CF) := by
  refine F.ok sc_Coins_has_seed (fun vs H Q E h => ?_) (fun cdv A outer s0 H vs Q E hr h => ?_)
  · obtain ⟨a, s, x, rfl, _⟩ := h
    rfl
  · obtain ⟨a, s, x, rfl, ⟨g, dx, pf, pr, ho, hF, hR⟩, q⟩ := h
    refine ⟨_, (pss_one (ps_ret (pe_and (pe_cmpR op_ge (pv 1) pe_int (nomark _)) (pe_one (pe_cmpR op_lt (pv 1) (pe_fldK (K := K) rfl (pv 0) rfl) (nomark _)))))), ?_⟩
    exact s_ret (ev_andV (ev_op (ev_var rfl) ev_c rv_I0) fun _ => ev_op (ev_var rfl) (ev_fld (ev_var rfl) ho Z.cls (Z.no _ (by simp [FIELDS_Coins])) (cF_seeds s pf pr)) rv_I0) fun H1 e1 => q.go e1
def sp_Coins_has_coin (C CF : Addr) : Sp := fun vs H Q _ => ∃ (a : Addr) (s : Sr59.Space) (x : Int), vs = [.ref a, .int x] ∧ CoinsAt C CF H a s ∧ RetV (.bl (inR (2 ^ s.m) x)) H Q
theorem ok_Coins_has_coin (F : Fun K "has_coin" "Coins.has_coin" s_Coins_has_coin f fd) (Z : Clz K CC FIELDS_Coins) : FnOk P w K mg base CX0 1 f fd ["self", "i"] (sp_Coins_has_coin CC CF) := by
  refine F.ok sc_Coins_has_coin (fun vs H Q E h => ?_) (fun cdv A outer s0 H vs Q E hr h => ?_)
  · obtain ⟨a, s, x, rfl, _⟩ := h
    rfl
  · obtain ⟨a, s, x, rfl, ⟨g, dx, pf, pr, ho, hF, hR⟩, q⟩ := h
    refine ⟨_, (pss_one (ps_ret (pe_and (pe_cmpR op_ge (pv 1) pe_int (nomark _)) (pe_one (pe_cmpR op_lt (pv 1) (pe_fldK (K := K) rfl (pv 0) rfl) (nomark _)))))), ?_⟩
    exact s_ret (ev_andV (ev_op (ev_var rfl) ev_c rv_I0) fun _ => ev_op (ev_var rfl) (ev_fld (ev_var rfl) ho Z.cls (Z.no _ (by simp [FIELDS_Coins])) (cF_how_many s pf pr)) rv_I0) fun H1 e1 => q.go e1
def sp_Coins_are_rising (C CF : Addr) : Sp := fun vs H Q _ => ∃ (a b : Addr) (s : Sr59.Space) (l : List Int), vs = [.ref a, .ref b] ∧ CoinsAt C CF H a s ∧ H b = some (.lst (intsV l)) ∧ RetV (.bl (upFrom (2 ^ s.m) (-1) l)) H Q
theorem ok_Coins_are_rising (F : Fun K "are_rising" "Coins.are_rising" s_Coins_are_rising f fd) (Z : Clz K CC FIELDS_Coins) (O_Coins_has_coin : OkM P w K mg base 1 CC "has_coin" ["self", "i"] (sp_Coins_has_coin CC CF)) :
    FnOk P w K mg base CX0 2 f fd ["self", "coins"] (sp_Coins_are_rising CC CF) := by
  refine F.ok sc_Coins_are_rising (fun vs H Q E h => ?_) (fun cdv A outer s0 H vs Q E hr h => ?_)
  · obtain ⟨a, b, s, l, rfl, _⟩ := h
    rfl
  · obtain ⟨a, b, s, l, rfl, hC, hb, q⟩ := h
    have c_Coins := Z.cls
    refine ⟨_, (pss_cons (ps_set (i := 2) sc_Coins_are_rising.nd rfl (.inl rfl) (pe_un un_neg pe_int)) (pss_cons (ps_for PassesOwn.never rfl (pi_listK (K := K) rfl (pv 1)) (pg_name (i := 3) sc_Coins_are_rising.nd rfl (.inl rfl)) (pss_cons (ps_if (PW.pt (pw_or (pt_cmpR op_le (pv 3) (pv 2) (nomark _)) (pw_or1 (pt_not (pt_val (by_mth O_Coins_has_coin fun _ _ hm hb F => pe_meth (pv 0) c_Coins hm F (hr.mono (by decide)) hb .nil pass0 (pa_cons (pv 3) pa_nil))))))) (pss_one (ps_ret pe_bl)) pss_nil) (pss_one (ps_set (i := 2) sc_Coins_are_rising.nd rfl (.inl rfl) (pv 3))))) (pss_one (ps_ret pe_bl)))), ?_⟩
    refine q_asg (ev_un ev_c ru_neg) fun H1 e1 => ?_
    refine q_forLn (xs := intsV l) (ev_var rfl) (sq_of (e1 _ _ hb)) (fun i σ H' => ∃ last v, σ = [some (.ref a), some (.ref b), some (.int last), v] ∧ Ex H H' ∧ upFrom (2 ^ s.m) last (l.drop i) = upFrom (2 ^ s.m) (-1) l) ?_ ?_ ?_ ?_
    · exact fun H2 e2 => ⟨-1, none, rfl, e1.trans e2, rfl⟩
    · rintro i σ H2 _ ⟨last, v, rfl, e2, _⟩
      exact sq_of (e2 _ _ hb)
    · rintro i x σ H2 hi ⟨last, v, rfl, e2, hu⟩
      obtain ⟨n, hn, rfl⟩ := intsV_of hi
      obtain ⟨g, dx, pf, pr, ho, hF, hR⟩ := hC.mono e2
      rw [drop_at hn] at hu
      have hst : upFrom (2 ^ s.m) last (n :: l.drop (i + 1)) = if decide (n ≤ last) || !inR (2 ^ s.m) n then false else upFrom (2 ^ s.m) n (l.drop (i + 1)) := rfl
      refine q_when (b := decide (n ≤ last) || !inR (2 ^ s.m) n) (et_or (et_test (ev_op (ev_var rfl) (ev_var rfl) rv_I0)) fun _ => et_not (et_B (ev_meth (ev_var rfl) ho (cF_has_coin s pf pr) (ea_cons (ev_var rfl) ea_nil) fun H3 e3 Q q E => ⟨a, s, n, rfl, hC.mono (e2.trans e3), q⟩))) ?_ ?_
      · intro hb2 H3 e3
        rw [hst, hb2, if_pos rfl] at hu
        rw [← hu] at q
        exact s_ret ev_c fun H4 e4 => q.go ((e2.trans e3).trans e4)
      · intro hb2 H3 e3
        rw [hst, hb2, if_neg Bool.false_ne_true] at hu
        exact s_asg (ev_var rfl) fun H4 e4 => ⟨n, some (.int n), rfl, (e2.trans e3).trans e4, hu⟩
    · rintro σ H2 ⟨last, v, rfl, e2, hu⟩
      rw [intsV_len, List.drop_length] at hu
      rw [← hu] at q
      exact s_ret ev_c fun H3 e3 => q.go (e2.trans e3)
def sp_Coins_seeds_lying_so (C CF : Addr) : Sp := fun vs H Q _ => ∃ (a b c : Addr) (s : Sr59.Space) (cs bs : List Nat), vs = [.ref a, .ref b, .ref c] ∧ CoinsAt C CF H a s ∧ H b = some (.lst (natsV cs)) ∧ H c = some (.lst (natsV bs)) ∧ (∀ x ∈ cs, x < 2 ^ s.m) ∧ (∀ x ∈ bs, x < 2) ∧ bs.length = cs.length ∧
  RetV (.int (Sr59.count s cs (bs.map (· == 1)) : Nat)) H Q
theorem ok_Coins_seeds_lying_so (F : Fun K "seeds_lying_so" "Coins.seeds_lying_so" s_Coins_seeds_lying_so f fd) (T : Txt K mg a_DIVISORS a_SHAPES) (Z : Clz K CC FIELDS_Coins) (O_lies_so : Ok P w K mg base 1 "lies_so" ["row", "coins", "lie"] sp_lies_so) :
    FnOk P w K mg base CX0 2 f fd ["self", "coins", "lie"] (sp_Coins_seeds_lying_so CC CF) := by
  refine F.ok sc_Coins_seeds_lying_so (fun vs H Q E h => ?_) (fun cdv A outer s0 H vs Q E hr h => ?_)
  · obtain ⟨a, b, c, s, cs, bs, rfl, _⟩ := h
    rfl
  · obtain ⟨a, b, c, s, cs, bs, rfl, hC, hb, hc, hcs, hbs, hlen, q⟩ := h
    have hC0 := hC
    obtain ⟨g, dx, pf, pr, ho, hF, ps, hp, hpl, hrow⟩ := hC0
    rw [List.length_map, List.length_range] at hpl
    have s1024 := g.seeds
    refine ⟨_, (pss_one (ps_ret (pe_callB (cr_lenK (K := K) rfl) (by rfl) T.n_len PySem.boot_len (pa_cons (pe_lc (own := [("row", 3)]) (g := gName 3) rfl sc_Coins_seeds_lying_so.nd (pi_listK (K := K) rfl (pe_fldK (K := K) rfl (pv 0) rfl)) (blkOk_by (by kernel_rfl)) (fun _ _ _ _ _ => pg_name (i := 3) sc_Coins_seeds_lying_so.nd rfl (Or.inl rfl)) (fun _ _ _ _ _ => pts_one (pt_val (by_fn O_lies_so fun _ _ hm kp hb F => pe_call F (hr.mono (by decide)) rfl hm kp hb .nil pass0 (pa_cons (pv 3) (pa_cons (pv 1) (pa_cons (pv 2) pa_nil)))))) (fun _ _ _ _ _ => (pv 3))) pa_nil)))), ?_⟩
    refine s_ret (ev_is (ev_lenN (xs := given (ps.map V.ref).length (fun i => lieB (rowN s i) cs bs) (fun i => (ps.map V.ref).getD i .non)) (el_lcL (fun i => lieB (rowN s i) cs bs) (fun i => (ps.map V.ref).getD i .non) (ev_fld (ev_var rfl) ho Z.cls (Z.no _ (by simp [FIELDS_Coins])) (cF_rows s pf pr)) (sq_of hp) (by rw [List.length_map]; omega) (fun _ => rfl) ?_ ?_)) ?_) fun H1 e1 => q.go e1
    · intro i x H1 e1 hi
      have hi2 : i < 2 ^ (s.m * s.k) := by
        have := (List.getElem?_eq_some_iff.mp hi).1
        rw [List.length_map] at this
        omega
      obtain ⟨r, hr1, hr2⟩ := hrow i (rowV s i) (by rw [List.getElem?_map, List.getElem?_range hi2]; rfl)
      have hx : x = .ref r := by
        rw [List.getElem?_map, hr1] at hi
        exact (Option.some.inj hi).symm
      subst hx
      refine et_B (ev_fn (ea_cons (ev_var rfl) (ea_cons (ev_var rfl) (ea_cons (ev_var rfl) ea_nil))) fun H2 e2 Q q E => ⟨r, b, c, rowN s i, cs, bs, rfl, ?_, e2 _ _ (e1 _ _ hb), e2 _ _ (e1 _ _ hc), ?_, hlen, q⟩)
      · rw [e2 _ _ (e1 _ _ hr2), rowV_eq]
      · intro z hz
        rw [rowN_len]
        exact hcs z hz
    · intro i x H1 e1 hi _
      refine ev_is (ev_var rfl) ?_
      rw [List.getD_eq_getElem?_getD, hi]
      rfl
    · rw [← count_eq s hcs hbs]
      unfold given
      rw [List.length_map, List.length_map, hpl]
def sp_Coins_seeds_with_odd (C CF : Addr) : Sp := fun vs H Q _ => ∃ (a b : Addr) (s : Sr59.Space) (cs : List Nat), vs = [.ref a, .ref b] ∧ CoinsAt C CF H a s ∧ H b = some (.lst (natsV cs)) ∧ (∀ x ∈ cs, x < 2 ^ s.m) ∧ cs.length ≤ 70 ∧ RetV (.int (Sr59.odds s cs : Nat)) H Q
theorem sum_cast : ∀ l : List Nat, (l.map fun (n : Nat) => (n : Int)).sum = ((l.sum : Nat) : Int)
  | [] => rfl
  | x :: l => by
    rw [List.map_cons, List.sum_cons, List.sum_cons, sum_cast l, Int.natCast_add]
theorem ok_Coins_seeds_with_odd (F : Fun K "seeds_with_odd" "Coins.seeds_with_odd" s_Coins_seeds_with_odd f fd) (T : Txt K mg a_DIVISORS a_SHAPES) (Z : Clz K CC FIELDS_Coins) :
    FnOk P w K mg base CX0 1 f fd ["self", "coins"] (sp_Coins_seeds_with_odd CC CF) := by
  refine F.ok sc_Coins_seeds_with_odd (fun vs H Q E h => ?_) (fun cdv A outer s0 H vs Q E hr h => ?_)
  · obtain ⟨a, b, s, cs, rfl, _⟩ := h
    rfl
  · obtain ⟨a, b, s, cs, rfl, hC, hb, hcs, hlen, q⟩ := h
    have hC0 := hC
    obtain ⟨g, dx, pf, pr, ho, hF, ps, hp, hpl, hrow⟩ := hC0
    rw [List.length_map, List.length_range] at hpl
    have s1024 := g.seeds
    refine ⟨_, (pss_one (ps_ret (pe_callB (cr_sumK (K := K) rfl rfl) (by rfl) T.n_sum (by decide +kernel) (pa_cons (pe_lc (own := [("row", 2)]) (g := gName 2) (tt := tYes) rfl sc_Coins_seeds_with_odd.nd (pi_listK (K := K) rfl (pe_fldK (K := K) rfl (pv 0) rfl)) (blkOk_by (by kernel_rfl)) (fun _ _ _ _ _ => pg_name (i := 2) sc_Coins_seeds_with_odd.nd rfl (Or.inr rfl)) (fun _ _ _ _ _ => pts_nil) (fun _ _ _ _ _ => (pe_op op_mod (pe_callB (cr_sumK (K := K) rfl rfl) (by rfl) T.n_sum (by decide +kernel) (pa_cons (pe_lc (own := [("coin", 3)]) (g := gName 3) (tt := tYes) rfl sc_Coins_seeds_with_odd.nd (pi_listK (K := K) rfl (pv 1)) (blkOk_by (by kernel_rfl)) (fun _ _ _ _ _ => pg_name (i := 3) sc_Coins_seeds_with_odd.nd rfl (Or.inl rfl)) (fun _ _ _ _ _ => pts_nil) (fun _ _ _ _ _ => (pe_ixL (K := K) rfl (pv 2) (pv 3) (fun _ _ => rfl)))) pa_nil)) pe_int))) pa_nil)))), ?_⟩
    have hgiv : given (ps.map V.ref).length (fun _ => true) (fun i => V.int (((cs.map (coinN s i)).sum % 2 : Nat) : Int)) = intsV ((List.range (2 ^ (s.m * s.k))).map fun i => (((cs.map (coinN s i)).sum % 2 : Nat) : Int)) := by
      rw [given_all, List.length_map, hpl]
      unfold intsV
      rw [List.map_map]
      rfl
    refine s_ret (ev_is (ev_sum (ns := (List.range (2 ^ (s.m * s.k))).map fun i => (((cs.map (coinN s i)).sum % 2 : Nat) : Int)) ?_) ?_) fun H1 e1 => q.go e1
    · rw [← hgiv]
      refine el_lcL (fun _ => true) (fun i => V.int (((cs.map (coinN s i)).sum % 2 : Nat) : Int)) (ev_fld (ev_var rfl) ho Z.cls (Z.no _ (by simp [FIELDS_Coins])) (cF_rows s pf pr)) (sq_of hp) (by rw [List.length_map]; omega) (fun _ => rfl) (fun _ _ _ _ _ H1 _ Q q => q H1 (Ex.refl H1)) ?_
      intro i x H1 e1 hi _
      have hi2 : i < 2 ^ (s.m * s.k) := by
        have := (List.getElem?_eq_some_iff.mp hi).1
        rw [List.length_map] at this
        omega
      obtain ⟨r, hr1, hr2⟩ := hrow i (rowV s i) (by rw [List.getElem?_map, List.getElem?_range hi2]; rfl)
      have hx : x = .ref r := by
        rw [List.getElem?_map, hr1] at hi
        exact (Option.some.inj hi).symm
      subst hx
      have hin : given (natsV cs).length (fun _ => true) (fun j => V.int ((coinN s i (cs.getD j 0) : Nat) : Int)) = intsV ((cs.map (coinN s i)).map fun (n : Nat) => (n : Int)) := by
        rw [given_all, natsV_len]
        unfold intsV
        rw [List.map_map, List.map_map]
        refine List.ext_getElem? fun j => ?_
        rw [List.getElem?_map, List.getElem?_map]
        by_cases hj : j < cs.length
        · rw [List.getElem?_range hj, List.getElem?_eq_getElem hj]
          simp [List.getD_eq_getElem?_getD, hj]
        · rw [List.getElem?_eq_none (by rw [List.length_range]; omega), List.getElem?_eq_none (by omega)]
          rfl
      refine ev_is (ev_op (ev_sum (ns := (cs.map (coinN s i)).map fun (n : Nat) => (n : Int)) ?_) ev_c (rv_I (by decide))) ?_
      · rw [← hin]
        refine el_lcL (fun _ => true) (fun j => V.int ((coinN s i (cs.getD j 0) : Nat) : Int)) (ev_var rfl) (sq_of (e1 _ _ hb)) (by rw [natsV_len]; omega) (fun _ => rfl) (fun _ _ _ _ _ H1 _ Q q => q H1 (Ex.refl H1)) ?_
        intro j y H2 e2 hj _
        obtain ⟨n, hn, rfl⟩ := natsV_of hj
        have hn2 : cs.getD j 0 = n := by rw [List.getD_eq_getElem?_getD, hn]; rfl
        rw [hn2]
        exact ev_op (ev_var rfl) (ev_var rfl) (rv_ixL (sq_of (e2 _ _ (e1 _ _ hr2))) (at_nat (rowV_at (hcs n (List.mem_of_getElem? hn)))))
      · rw [sum_cast]
        rfl
    · rw [← odds_eq]
      congr 1
      rw [← sum_cast, List.map_map]
      rfl
end
end Few
set_option Elab.async false
set_option linter.all false
set_option maxRecDepth 100000
set_option maxHeartbeats 2000000
namespace Few
open PySem PySem.Spec PyProof.Rows L2 Evl
def ansV (a : Sr58.Ans) : List V := intsV (a.num :: a.nums)
theorem isField_eq (d : Sr59.Desk) (x : Int) : Sr59.isField d x = inR (2 ^ d.s.m) x := by
  unfold Sr59.isField inR
  rw [Int.natCast_pow]
  rfl
theorem inR_of {n : Nat} {x : Int} (h : inR n x = true) : ∃ k : Nat, x = (k : Int) ∧ k < n := by
  unfold inR at h
  rw [Bool.and_eq_true, decide_eq_true_eq, decide_eq_true_eq] at h
  exact ⟨x.toNat, by omega, by omega⟩
theorem not_true {b : Bool} (h : (!b) = false) : b = true := by
  cases b
  · cases h
  · rfl
theorem not_false' {b : Bool} (h : (!b) = true) : b = false := by
  cases b
  · rfl
  · cases h
/-- lists of numbers, nonnegative -/
theorem nats_of {l : List Int} (h : ∀ x ∈ l, 0 ≤ x) : l = (l.map fun x => x.toNat).map fun (n : Nat) => (n : Int) := by
  rw [List.map_map]
  refine (List.map_id l).symm.trans (List.map_congr_left fun x hx => ?_)
  show x = ((x.toNat : Nat) : Int)
  have := h x hx
  omega
theorem upFrom_all {n : Nat} {l : List Int} (h : upFrom n (-1) l = true) : ∀ x ∈ l, inR n x = true := by
  rw [upFrom_start, Bool.and_eq_true] at h
  exact List.all_eq_true.mp h.1
section
variable {P : Program} {w : World} {K : PySem.W.Frag} {mg : Str → Option Value} {base : Heap} {a_DIVISORS a_SHAPES CF CC : Addr} {f : Addr} {fd : FuncData}
/-! ### can_begin -/
def canB (m k f : Int) : Bool := decide (1 ≤ m ∧ m ≤ 6 ∧ 1 ≤ k ∧ m * k ≤ 10 ∧ 0 ≤ f ∧ f ≤ 1 ∧ (f = 1 → k = 2 ∧ m ≤ 4))
def sp_can_begin : Sp := fun vs H Q _ => ∃ m k f : Int, vs = [.int m, .int k, .int f] ∧ RetV (.bl (canB m k f)) H Q
theorem ok_can_begin (F : Fun K "can_begin" "can_begin" s_can_begin f fd) (T : Txt K mg a_DIVISORS a_SHAPES) : FnOk P w K mg base CX0 1 f fd ["m", "k", "f"] sp_can_begin := by
  refine F.ok sc_can_begin (fun vs H Q E h => ?_) (fun cdv A outer s0 H vs Q E hr h => ?_)
  · obtain ⟨m, k, g, rfl, _⟩ := h
    rfl
  · obtain ⟨m, k, g, rfl, q⟩ := h
    refine ⟨_, (pss_cons (ps_if (PW.pt (pw_or (pt_cmpR op_lt (pv 0) pe_int (nomark _)) (pw_or (pt_cmpR op_gt (pv 0) (pe_gint rfl T.g_MOST_DIGITS) (nomark _)) (pw_or (pt_cmpR op_lt (pv 1) pe_int (nomark _)) (pw_or1 (pt_cmpR op_gt (pe_op op_mul (pv 0) (pv 1)) (pe_gint rfl T.g_MOST_SEED_DIGITS) (nomark _))))))) (pss_one (ps_ret pe_bl)) pss_nil) (pss_cons (ps_if (pt_cmpR op_eq (pv 2) pe_int (nomark _)) (pss_one (ps_ret (pe_and (pe_cmpR op_eq (pv 1) pe_int (nomark _)) (pe_one (pe_cmpR op_le (pv 0) (pe_gint rfl T.g_MOST_FAINT_DIGITS) (nomark _)))))) pss_nil) (pss_one (ps_ret (pe_cmpR op_eq (pv 2) pe_int (nomark _)))))), ?_⟩
    refine q_when (et_or (et_test (ev_op (ev_var rfl) ev_c rv_I0)) fun h1 => et_or (et_test (ev_op (ev_var rfl) ev_c rv_I0)) fun h2 => et_or (et_test (ev_op (ev_var rfl) ev_c rv_I0)) fun h3 => et_test (ev_op (ev_op (ev_var rfl) (ev_var rfl) (rv_I ?_)) ev_c rv_I0)) ?_ ?_
    · have h1 := of_decide_eq_false h1
      have h2 := of_decide_eq_false h2
      exact .inl ⟨by omega, by omega⟩
    · intro hb H1 e1
      have e : canB m k g = false := by
        simp only [Bool.or_eq_true, decide_eq_true_eq] at hb
        refine decide_eq_false fun ⟨a1, a2, a3, a4, _⟩ => ?_
        omega
      rw [e] at q
      exact s_ret ev_c fun H2 e2 => q.go (e1.trans e2)
    · intro hb H1 e1
      simp only [Bool.or_eq_false_iff, decide_eq_false_iff_not] at hb
      obtain ⟨b1, b2, b3, b4⟩ := hb
      refine q_when (b := decide (g = 1)) (et_is (et_test (ev_op (ev_var rfl) ev_c (rv_eq rfl))) ?_) ?_ ?_
      · rw [decide_eq_decide]
        exact ⟨fun h => V.int.inj h, fun h => by rw [h]⟩
      · intro hg H2 e2
        have hg := of_decide_eq_true hg
        refine s_ret (ev_is (ev_andV (ev_op (ev_var rfl) ev_c (rv_eq rfl)) fun _ => ev_op (ev_var rfl) ev_c rv_I0) ?_) fun H3 e3 => q.go ((e1.trans e2).trans e3)
        congr 1
        unfold canB
        rw [show decide (V.int k = V.int 2) = decide (k = 2) by rw [decide_eq_decide]; exact ⟨fun h => V.int.inj h, fun h => by rw [h]⟩, ← Bool.decide_and, decide_eq_decide]
        subst hg
        constructor
        · rintro ⟨a1, a2⟩
          exact ⟨by omega, by omega, by omega, by omega, by omega, by omega, fun _ => ⟨a1, a2⟩⟩
        · rintro ⟨_, _, _, _, _, _, a⟩
          exact a rfl
      · intro hg H2 e2
        have hg := of_decide_eq_false hg
        refine s_ret (ev_is (ev_op (ev_var rfl) ev_c (rv_eq rfl)) ?_) fun H3 e3 => q.go ((e1.trans e2).trans e3)
        congr 1
        unfold canB
        rw [decide_eq_decide]
        constructor
        · intro h
          have h := V.int.inj h
          exact ⟨by omega, by omega, by omega, by omega, by omega, by omega, fun h => by omega⟩
        · rintro ⟨_, _, _, _, _, _, _⟩
          rw [show g = 0 by omega]
/-! ### is_weight -/
def isW (x : Int) : Bool := decide (-100 ≤ x ∧ x ≤ 100)
def sp_is_weight : Sp := fun vs H Q _ => ∃ x : Int, vs = [.int x] ∧ RetV (.bl (isW x)) H Q
theorem ok_is_weight (F : Fun K "is_weight" "is_weight" s_is_weight f fd) (T : Txt K mg a_DIVISORS a_SHAPES) : FnOk P w K mg base CX0 1 f fd ["w"] sp_is_weight := by
  refine F.ok sc_is_weight (fun vs H Q E h => ?_) (fun cdv A outer s0 H vs Q E hr h => ?_)
  · obtain ⟨x, rfl, _⟩ := h
    rfl
  · obtain ⟨x, rfl, q⟩ := h
    refine ⟨_, (pss_one (ps_ret (pe_cmpR op_le (pe_callB call_abs (by rfl) T.n_abs (by decide +kernel) (pa_cons (pv 0) pa_nil)) (pe_gint rfl T.g_MOST_WEIGHT) (nomark _)))), ?_⟩
    refine s_ret (ev_is (ev_op (ev_cb (ea_cons (ev_var rfl) ea_nil) fun H1 e1 Q q => ⟨x, rfl, q H1 (Ex.refl H1)⟩) ev_c rv_I0) ?_) fun H1 e1 => q.go e1
    congr 1
    unfold isW
    rw [decide_eq_decide]
    split <;> omega
/-! ### answers to mul, pow, coin, row, count, odds -/
def sp_answer_mul (CC CF : Addr) : Sp := fun vs H Q _ => ∃ (a : Addr) (d : Sr59.Desk) (x y : Int), vs = [.ref a, .int x, .int y] ∧ CoinsAt CC CF H a d.s ∧ RetL (ansV (Sr59.doing d (.mul x y)).2) H Q
theorem ok_answer_mul (F : Fun K "answer_mul" "answer_mul" s_answer_mul f fd) (T : Txt K mg a_DIVISORS a_SHAPES) (Z : Clz K CC FIELDS_Coins) (ZF : Clz K CF FIELDS_Field) (O_Field_holds : OkM P w K mg base 1 CF "holds" ["self", "x"] (sp_Field_holds CF))
    (O_Field_product : OkM P w K mg base 1 CF "product" ["self", "x", "y"] (sp_Field_product CF)) : FnOk P w K mg base CX0 2 f fd ["coins", "x", "y"] (sp_answer_mul CC CF) := by
  refine F.ok sc_answer_mul (fun vs H Q E h => ?_) (fun cdv A outer s0 H vs Q E hr h => ?_)
  · obtain ⟨a, d, x, y, rfl, _⟩ := h
    rfl
  · obtain ⟨a, d, x, y, rfl, hC, q⟩ := h
    have c_Field := ZF.cls
    obtain ⟨g, dx, pf, pr, ho, hF, hR⟩ := hC
    refine ⟨_, (pss_cons (ps_set (i := 3) sc_answer_mul.nd rfl (.inl rfl) (pe_fldK (K := K) rfl (pv 0) rfl)) (pss_cons (ps_if (PW.pt (pw_or (pt_not (pt_val (by_mth O_Field_holds fun _ _ hm hb F => pe_meth (pv 3) c_Field hm F (hr.mono (by decide)) hb .nil pass0 (pa_cons (pv 1) pa_nil)))) (pw_or1 (pt_not (pt_val (by_mth O_Field_holds fun _ _ hm hb F => pe_meth (pv 3) c_Field hm F (hr.mono (by decide)) hb .nil pass0 (pa_cons (pv 2) pa_nil))))))) (pss_one (ps_ret (pe_lst (pa_cons (pe_gint rfl T.g_WRONG) pa_nil)))) pss_nil) (pss_one (ps_ret (pe_lst (pa_cons (by_mth O_Field_product fun _ _ hm hb F => pe_meth (pv 3) c_Field hm F (hr.mono (by decide)) hb .nil pass0 (pa_cons (pv 1) (pa_cons (pv 2) pa_nil))) pa_nil)))))), ?_⟩
    refine q_asg (ev_fld (ev_var rfl) ho Z.cls (Z.no _ (by simp [FIELDS_Coins])) (cF_field d.s pf pr)) fun H1 e1 => ?_
    have hF1 := hF.mono e1
    have hF1' := hF1
    obtain ⟨h1, h6, dxf, pa, hof, hT⟩ := hF1'
    refine q_when (b := !inR (2 ^ d.s.m) x || !inR (2 ^ d.s.m) y) (et_or (et_not (et_B (ev_meth (ev_var rfl) hof (fF_holds d.s.m pa) (ea_cons (ev_var rfl) ea_nil) fun H3 e3 Q q E => ⟨pf, d.s.m, x, rfl, hF1.mono e3, q⟩))) fun _ => et_not (et_B (ev_meth (ev_var rfl) hof (fF_holds d.s.m pa) (ea_cons (ev_var rfl) ea_nil) fun H3 e3 Q q E => ⟨pf, d.s.m, y, rfl, hF1.mono e3, q⟩))) ?_ ?_
    · intro hb H2 e2
      refine s_retL (xs := intsV [-22]) (el_lst (ea_cons ev_c ea_nil) (by decide)) fun p H3 hp e3 h3 => q p H3 (fresh_back (e1.trans e2) hp) ((e1.trans e2).trans e3) ?_
      rw [h3]
      congr 1
      show _ = HO.lst (ansV (if Sr59.isField d x = false ∨ Sr59.isField d y = false then Sr59.say (-22) else _))
      rw [isField_eq, isField_eq, if_pos]
      · rfl
      · simpa using hb
    · intro hb H2 e2
      rw [Bool.or_eq_false_iff] at hb
      obtain ⟨i, rfl, hi⟩ := inR_of (not_true hb.1)
      obtain ⟨j, rfl, hj⟩ := inR_of (not_true hb.2)
      have hF2 := hF1.mono e2
      refine s_retL (xs := intsV [(Sr59.mul d.s.m i j : Nat)]) (el_lst (ea_cons (ev_meth (ev_var rfl) (e2 _ _ hof) (fF_product d.s.m pa) (ea_cons (ev_var rfl) (ea_cons (ev_var rfl) ea_nil)) fun H3 e3 Q q E => ⟨pf, d.s.m, i, j, rfl, hF2.mono e3, hi, hj, q⟩) ea_nil) (by show 1 ≤ 100000; decide)) fun p H3 hp e3 h3 => q p H3 (fresh_back (e1.trans e2) hp) ((e1.trans e2).trans e3) ?_
      rw [h3]
      congr 1
      show _ = HO.lst (ansV (if Sr59.isField d i = false ∨ Sr59.isField d j = false then _ else Sr59.say (Sr59.mul d.s.m (i : Int).toNat (j : Int).toNat : Nat)))
      rw [isField_eq, isField_eq, not_true hb.1, not_true hb.2, if_neg (by simp)]
      rfl
def sp_answer_pow (CC CF : Addr) : Sp := fun vs H Q _ => ∃ (a : Addr) (d : Sr59.Desk) (x y : Int), vs = [.ref a, .int x, .int y] ∧ CoinsAt CC CF H a d.s ∧ RetL (ansV (Sr59.doing d (.pow x y)).2) H Q
theorem ok_answer_pow (F : Fun K "answer_pow" "answer_pow" s_answer_pow f fd) (T : Txt K mg a_DIVISORS a_SHAPES) (Z : Clz K CC FIELDS_Coins) (ZF : Clz K CF FIELDS_Field) (O_Field_holds : OkM P w K mg base 1 CF "holds" ["self", "x"] (sp_Field_holds CF))
    (O_Field_power : OkM P w K mg base 2 CF "power" ["self", "x", "e"] (sp_Field_power CF)) : FnOk P w K mg base CX0 3 f fd ["coins", "x", "e"] (sp_answer_pow CC CF) := by
  refine F.ok sc_answer_pow (fun vs H Q E h => ?_) (fun cdv A outer s0 H vs Q E hr h => ?_)
  · obtain ⟨a, d, x, y, rfl, _⟩ := h
    rfl
  · obtain ⟨a, d, x, y, rfl, hC, q⟩ := h
    have c_Field := ZF.cls
    obtain ⟨g, dx, pf, pr, ho, hF, hR⟩ := hC
    have hF1' := hF
    obtain ⟨h1, h6, dxf, pa, hof, hT⟩ := hF1'
    refine ⟨_, (pss_cons (ps_if (PW.pt (pw_or (pt_not (pt_val (by_mth O_Field_holds fun _ _ hm hb F => pe_meth (pe_fldK (K := K) rfl (pv 0) rfl) c_Field hm F (hr.mono (by decide)) hb .nil pass0 (pa_cons (pv 1) pa_nil)))) (pw_or (pt_cmpR op_lt (pv 2) pe_int (nomark _)) (pw_or1 (pt_cmpR op_gt (pv 2) (pe_gint rfl T.g_MOST_POWER) (nomark _)))))) (pss_one (ps_ret (pe_lst (pa_cons (pe_gint rfl T.g_WRONG) pa_nil)))) pss_nil) (pss_one (ps_ret (pe_lst (pa_cons (by_mth O_Field_power fun _ _ hm hb F => pe_meth (pe_fldK (K := K) rfl (pv 0) rfl) c_Field hm F (hr.mono (by decide)) hb .nil pass0 (pa_cons (pv 1) (pa_cons (pv 2) pa_nil))) pa_nil))))), ?_⟩
    refine q_when (b := !inR (2 ^ d.s.m) x || (decide (y < 0) || decide (100 < y))) (et_or (et_not (et_B (ev_meth (ev_fld (ev_var rfl) ho Z.cls (Z.no _ (by simp [FIELDS_Coins])) (cF_field d.s pf pr)) hof (fF_holds d.s.m pa) (ea_cons (ev_var rfl) ea_nil) fun H3 e3 Q q E => ⟨pf, d.s.m, x, rfl, hF.mono e3, q⟩))) fun _ => et_or (et_test (ev_op (ev_var rfl) ev_c rv_I0)) fun _ => et_test (ev_op (ev_var rfl) ev_c rv_I0)) ?_ ?_
    · intro hb H2 e2
      refine s_retL (xs := intsV [-22]) (el_lst (ea_cons ev_c ea_nil) (by decide)) fun p H3 hp e3 h3 => q p H3 (fresh_back e2 hp) (e2.trans e3) ?_
      rw [h3]
      congr 1
      show _ = HO.lst (ansV (if Sr59.isField d x = false ∨ y < 0 ∨ 100 < y then Sr59.say (-22) else _))
      rw [isField_eq, if_pos]
      · rfl
      · simpa using hb
    · intro hb H2 e2
      simp only [Bool.or_eq_false_iff, decide_eq_false_iff_not] at hb
      obtain ⟨b1, b2, b3⟩ := hb
      obtain ⟨i, rfl, hi⟩ := inR_of (not_true b1)
      obtain ⟨j, rfl⟩ : ∃ j : Nat, y = (j : Int) := ⟨y.toNat, by omega⟩
      have hF2 := hF.mono e2
      refine s_retL (xs := intsV [(Sr59.pow d.s.m i j : Nat)]) (el_lst (ea_cons (ev_meth (ev_fld (ev_var rfl) (e2 _ _ ho) Z.cls (Z.no _ (by simp [FIELDS_Coins])) (cF_field d.s pf pr)) (e2 _ _ hof) (fF_power d.s.m pa) (ea_cons (ev_var rfl) (ea_cons (ev_var rfl) ea_nil)) fun H3 e3 Q q E => ⟨pf, d.s.m, i, j, rfl, hF2.mono e3, hi, by omega, q⟩) ea_nil) (by show 1 ≤ 100000; decide)) fun p H3 hp e3 h3 => q p H3 (fresh_back e2 hp) (e2.trans e3) ?_
      rw [h3]
      congr 1
      show _ = HO.lst (ansV (if Sr59.isField d i = false ∨ (j : Int) < 0 ∨ 100 < (j : Int) then _ else Sr59.say (Sr59.pow d.s.m (i : Int).toNat (j : Int).toNat : Nat)))
      rw [isField_eq, not_true b1, if_neg (by simp; omega)]
      rfl
/-- a seed's row within the rows -/
theorem row_at {CC CF a : Addr} {H : Hp} {s : Sr59.Space} {pr : Addr} {x : Nat} (hR : Rows H pr ((List.range (2 ^ (s.m * s.k))).map (rowV s))) (hx : x < 2 ^ (s.m * s.k)) : ∃ (ps : List Addr) (r : Addr), H pr = some (.lst (ps.map V.ref)) ∧ (ps.map V.ref)[x]? = some (.ref r) ∧ H r = some (.lst (rowV s x)) := by
  obtain ⟨ps, h1, h2, h3⟩ := hR
  obtain ⟨r, hr1, hr2⟩ := h3 x (rowV s x) (by rw [List.getElem?_map, List.getElem?_range hx]; rfl)
  exact ⟨ps, r, h1, by rw [List.getElem?_map, hr1]; rfl, hr2⟩
def sp_answer_coin (CC CF : Addr) : Sp := fun vs H Q _ => ∃ (a : Addr) (d : Sr59.Desk) (x y : Int), vs = [.ref a, .int x, .int y] ∧ CoinsAt CC CF H a d.s ∧ RetL (ansV (Sr59.doing d (.coin x y)).2) H Q
theorem bit_coin (s : Sr59.Space) (x i : Nat) : ((coinN s x i : Nat) : Int) = Sr59.bit (Sr59.coin s x i) := by
  unfold coinN
  cases Sr59.coin s x i <;> rfl
theorem ok_answer_coin (F : Fun K "answer_coin" "answer_coin" s_answer_coin f fd) (T : Txt K mg a_DIVISORS a_SHAPES) (Z : Clz K CC FIELDS_Coins) (O_Coins_has_seed : OkM P w K mg base 1 CC "has_seed" ["self", "s"] (sp_Coins_has_seed CC CF))
    (O_Coins_has_coin : OkM P w K mg base 1 CC "has_coin" ["self", "i"] (sp_Coins_has_coin CC CF)) : FnOk P w K mg base CX0 2 f fd ["coins", "s", "i"] (sp_answer_coin CC CF) := by
  refine F.ok sc_answer_coin (fun vs H Q E h => ?_) (fun cdv A outer s0 H vs Q E hr h => ?_)
  · obtain ⟨a, d, x, y, rfl, _⟩ := h
    rfl
  · obtain ⟨a, d, x, y, rfl, hC, q⟩ := h
    have c_Coins := Z.cls
    have hC0 := hC
    obtain ⟨g, dx, pf, pr, ho, hF, hR⟩ := hC0
    refine ⟨_, (pss_cons (ps_if (PW.pt (pw_or (pt_not (pt_val (by_mth O_Coins_has_seed fun _ _ hm hb F => pe_meth (pv 0) c_Coins hm F (hr.mono (by decide)) hb .nil pass0 (pa_cons (pv 1) pa_nil)))) (pw_or1 (pt_not (pt_val (by_mth O_Coins_has_coin fun _ _ hm hb F => pe_meth (pv 0) c_Coins hm F (hr.mono (by decide)) hb .nil pass0 (pa_cons (pv 2) pa_nil))))))) (pss_one (ps_ret (pe_lst (pa_cons (pe_gint rfl T.g_NONE_SUCH) pa_nil)))) pss_nil) (pss_one (ps_ret (pe_lst (pa_cons (pe_ixL (K := K) rfl (pe_ixL (K := K) rfl (pe_fldK (K := K) rfl (pv 0) rfl) (pv 1) (fun _ _ => rfl)) (pv 2) (fun _ _ => rfl)) pa_nil))))), ?_⟩
    refine q_when (b := !inR (2 ^ (d.s.m * d.s.k)) x || !inR (2 ^ d.s.m) y) (et_or (et_not (et_B (ev_meth (ev_var rfl) ho (cF_has_seed d.s pf pr) (ea_cons (ev_var rfl) ea_nil) fun H3 e3 Q q E => ⟨a, d.s, x, rfl, hC.mono e3, q⟩))) fun _ => et_not (et_B (ev_meth (ev_var rfl) ho (cF_has_coin d.s pf pr) (ea_cons (ev_var rfl) ea_nil) fun H3 e3 Q q E => ⟨a, d.s, y, rfl, hC.mono e3, q⟩))) ?_ ?_
    · intro hb H2 e2
      refine s_retL (xs := intsV [-2]) (el_lst (ea_cons ev_c ea_nil) (by decide)) fun p H3 hp e3 h3 => q p H3 (fresh_back e2 hp) (e2.trans e3) ?_
      rw [h3]
      congr 1
      show _ = HO.lst (ansV (if inR (2 ^ (d.s.m * d.s.k)) x = false ∨ inR (2 ^ d.s.m) y = false then Sr59.say (-2) else _))
      rw [if_pos]
      · rfl
      · simpa using hb
    · intro hb H2 e2
      rw [Bool.or_eq_false_iff] at hb
      obtain ⟨i, rfl, hi⟩ := inR_of (not_true hb.1)
      obtain ⟨j, rfl, hj⟩ := inR_of (not_true hb.2)
      obtain ⟨ps, r, r1, r2, r3⟩ := row_at (CC := CC) (CF := CF) (a := a) (hR.mono e2) hi
      refine s_retL (xs := intsV [(coinN d.s i j : Nat)]) (el_lst (ea_cons (ev_op (ev_op (ev_fld (ev_var rfl) (e2 _ _ ho) Z.cls (Z.no _ (by simp [FIELDS_Coins])) (cF_rows d.s pf pr)) (ev_var rfl) (rv_ixL (sq_of r1) (at_nat r2))) (ev_var rfl) (rv_ixL (sq_of r3) (at_nat (rowV_at hj)))) ea_nil) (by show 1 ≤ 100000; decide)) fun p H3 hp e3 h3 => q p H3 (fresh_back e2 hp) (e2.trans e3) ?_
      rw [h3]
      congr 1
      show _ = HO.lst (ansV (if inR (2 ^ (d.s.m * d.s.k)) i = false ∨ inR (2 ^ d.s.m) j = false then _ else Sr59.say (Sr59.bit (Sr59.coin d.s (i : Int).toNat (j : Int).toNat))))
      rw [not_true hb.1, not_true hb.2, if_neg (by simp), bit_coin]
      rfl
def sp_answer_row (CC CF : Addr) : Sp := fun vs H Q _ => ∃ (a : Addr) (d : Sr59.Desk) (x : Int), vs = [.ref a, .int x] ∧ CoinsAt CC CF H a d.s ∧ RetL (ansV (Sr59.doing d (.row x)).2) H Q
theorem el_cat {σ : L2.St} {H : Hp} {ta tb : TE} {b : Addr} {xs ys : List V} (ha : EvL ta σ H xs) (hb : ∀ H1, Ex H H1 → Ev tb σ H1 (.ref b)) (hy : H b = some (.lst ys)) (hz : xs.length + ys.length ≤ 100000) : EvL (tOp rCat ta tb) σ H (xs ++ ys) := fun H1 e Q q =>
  ha H1 e _ fun p H2 hp e2 h2 => hb H2 (e.trans e2) H2 (Ex.refl H2) _ fun H3 e3 => ⟨p, b, xs, ys, rfl, rfl, e3 _ _ h2, e3 _ _ (e2 _ _ (e _ _ hy)), sz_of hz, fun p' hp' => q p' _ (fresh_back (e2.trans e3) hp') ((e2.trans e3).trans (Ex.new hp')) upd_same⟩
theorem ok_answer_row (F : Fun K "answer_row" "answer_row" s_answer_row f fd) (T : Txt K mg a_DIVISORS a_SHAPES) (Z : Clz K CC FIELDS_Coins) (O_Coins_has_seed : OkM P w K mg base 1 CC "has_seed" ["self", "s"] (sp_Coins_has_seed CC CF)) :
    FnOk P w K mg base CX0 2 f fd ["coins", "s"] (sp_answer_row CC CF) := by
  refine F.ok sc_answer_row (fun vs H Q E h => ?_) (fun cdv A outer s0 H vs Q E hr h => ?_)
  · obtain ⟨a, d, x, rfl, _⟩ := h
    rfl
  · obtain ⟨a, d, x, rfl, hC, q⟩ := h
    have c_Coins := Z.cls
    have hC0 := hC
    obtain ⟨g, dx, pf, pr, ho, hF, hR⟩ := hC0
    have m64 := pow64 g.h6
    refine ⟨_, (pss_cons (ps_if (pt_not (pt_val (by_mth O_Coins_has_seed fun _ _ hm hb F => pe_meth (pv 0) c_Coins hm F (hr.mono (by decide)) hb .nil pass0 (pa_cons (pv 1) pa_nil)))) (pss_one (ps_ret (pe_lst (pa_cons (pe_gint rfl T.g_NONE_SUCH) pa_nil)))) pss_nil) (pss_one (ps_ret (pe_op op_cat (pe_lst (pa_cons (pe_fldK (K := K) rfl (pv 0) rfl) pa_nil)) (pe_ixL (K := K) rfl (pe_fldK (K := K) rfl (pv 0) rfl) (pv 1) (fun _ _ => rfl)))))), ?_⟩
    refine q_when (b := !inR (2 ^ (d.s.m * d.s.k)) x) (et_not (et_B (ev_meth (ev_var rfl) ho (cF_has_seed d.s pf pr) (ea_cons (ev_var rfl) ea_nil) fun H3 e3 Q q E => ⟨a, d.s, x, rfl, hC.mono e3, q⟩))) ?_ ?_
    · intro hb H2 e2
      refine s_retL (xs := intsV [-2]) (el_lst (ea_cons ev_c ea_nil) (by decide)) fun p H3 hp e3 h3 => q p H3 (fresh_back e2 hp) (e2.trans e3) ?_
      rw [h3]
      congr 1
      show _ = HO.lst (ansV (if inR (2 ^ (d.s.m * d.s.k)) x = false then Sr59.say (-2) else _))
      rw [if_pos (by simpa using hb)]
      rfl
    · intro hb H2 e2
      obtain ⟨i, rfl, hi⟩ := inR_of (not_true hb)
      obtain ⟨ps, r, r1, r2, r3⟩ := row_at (CC := CC) (CF := CF) (a := a) (hR.mono e2) hi
      refine s_retL (xs := [.int (2 ^ d.s.m : Nat)] ++ rowV d.s i) (el_cat (el_lst (ea_cons (ev_fld (ev_var rfl) (e2 _ _ ho) Z.cls (Z.no _ (by simp [FIELDS_Coins])) (cF_how_many d.s pf pr)) ea_nil) (by show 1 ≤ 100000; decide)) (fun H3 e3 => ev_op (ev_fld (ev_var rfl) (e3 _ _ (e2 _ _ ho)) Z.cls (Z.no _ (by simp [FIELDS_Coins])) (cF_rows d.s pf pr)) (ev_var rfl) (rv_ixL (sq_of (e3 _ _ r1)) (at_nat r2))) r3 (by rw [rowV_len]; show 1 + 2 ^ d.s.m ≤ 100000; omega)) fun p H3 hp e3 h3 => q p H3 (fresh_back e2 hp) (e2.trans e3) ?_
      rw [h3]
      congr 1
      show _ = HO.lst (ansV (if inR (2 ^ (d.s.m * d.s.k)) i = false then _ else ⟨(Sr59.coins d.s : Int), (Sr59.row d.s (i : Int).toNat).map Sr59.bit⟩))
      rw [not_true hb, if_neg (by simp)]
      show HO.lst (.int (2 ^ d.s.m : Nat) :: rowV d.s i) = HO.lst (.int (Sr59.coins d.s : Nat) :: ((Sr59.row d.s i).map Sr59.bit).map V.int)
      congr 2
      unfold rowV Sr59.row
      rw [List.map_map, List.map_map]
      refine List.map_congr_left fun j _ => ?_
      exact congrArg V.int (bit_coin d.s i j)
def sp_answer_odds (CC CF : Addr) : Sp := fun vs H Q _ => ∃ (a b : Addr) (d : Sr59.Desk) (l : List Int), vs = [.ref a, .ref b] ∧ CoinsAt CC CF H a d.s ∧ H b = some (.lst (intsV l)) ∧ l.length ≤ 70 ∧ RetL (ansV (Sr59.doing d (.odds l)).2) H Q
theorem ok_answer_odds (F : Fun K "answer_odds" "answer_odds" s_answer_odds f fd) (T : Txt K mg a_DIVISORS a_SHAPES) (Z : Clz K CC FIELDS_Coins) (O_Coins_are_rising : OkM P w K mg base 2 CC "are_rising" ["self", "coins"] (sp_Coins_are_rising CC CF))
    (O_Coins_seeds_with_odd : OkM P w K mg base 1 CC "seeds_with_odd" ["self", "coins"] (sp_Coins_seeds_with_odd CC CF)) : FnOk P w K mg base CX0 3 f fd ["coins", "row"] (sp_answer_odds CC CF) := by
  refine F.ok sc_answer_odds (fun vs H Q E h => ?_) (fun cdv A outer s0 H vs Q E hr h => ?_)
  · obtain ⟨a, b, d, l, rfl, _⟩ := h
    rfl
  · obtain ⟨a, b, d, l, rfl, hC, hb, hl, q⟩ := h
    have c_Coins := Z.cls
    have hC0 := hC
    obtain ⟨g, dx, pf, pr, ho, hF, hR⟩ := hC0
    refine ⟨_, (pss_cons (ps_if (pt_not (pt_val (by_mth O_Coins_are_rising fun _ _ hm hb F => pe_meth (pv 0) c_Coins hm F (hr.mono (by decide)) hb .nil pass0 (pa_cons (pv 1) pa_nil)))) (pss_one (ps_ret (pe_lst (pa_cons (pe_gint rfl T.g_WRONG) pa_nil)))) pss_nil) (pss_one (ps_ret (pe_lst (pa_cons (by_mth O_Coins_seeds_with_odd fun _ _ hm hb F => pe_meth (pv 0) c_Coins hm F (hr.mono (by decide)) hb .nil pass0 (pa_cons (pv 1) pa_nil)) (pa_cons (pe_fldK (K := K) rfl (pv 0) rfl) pa_nil)))))), ?_⟩
    refine q_when (b := !upFrom (2 ^ d.s.m) (-1) l) (et_not (et_B (ev_meth (ev_var rfl) ho (cF_are_rising d.s pf pr) (ea_cons (ev_var rfl) ea_nil) fun H3 e3 Q q E => ⟨a, b, d.s, l, rfl, hC.mono e3, e3 _ _ hb, q⟩))) ?_ ?_
    · intro hb2 H2 e2
      refine s_retL (xs := intsV [-22]) (el_lst (ea_cons ev_c ea_nil) (by decide)) fun p H3 hp e3 h3 => q p H3 (fresh_back e2 hp) (e2.trans e3) ?_
      rw [h3]
      congr 1
      show _ = HO.lst (ansV (if Sr59.okCoins d l = false then Sr59.say (-22) else _))
      rw [okCoins_eq, if_pos (by simpa using hb2)]
      rfl
    · intro hb2 H2 e2
      have hup := not_true hb2
      have hall := upFrom_all hup
      have hn : l = (Sr59.nats l).map fun (n : Nat) => (n : Int) := nats_of fun x hx => by
        obtain ⟨k, rfl, _⟩ := inR_of (hall x hx)
        omega
      have hv : intsV l = natsV (Sr59.nats l) := by
        rw [← intsV_nats, ← hn]
      have hlt : ∀ x ∈ Sr59.nats l, x < 2 ^ d.s.m := by
        intro x hx
        obtain ⟨z, hz, rfl⟩ := List.mem_map.mp hx
        obtain ⟨k, rfl, hk⟩ := inR_of (hall z hz)
        exact hk
      refine s_retL (xs := intsV [(Sr59.odds d.s (Sr59.nats l) : Nat), (2 ^ (d.s.m * d.s.k) : Nat)]) (el_lst (ea_cons (ev_meth (ev_var rfl) (e2 _ _ ho) (cF_odd d.s pf pr) (ea_cons (ev_var rfl) ea_nil) fun H3 e3 Q q E => ⟨a, b, d.s, Sr59.nats l, rfl, hC.mono (e2.trans e3), by rw [← hv]; exact e3 _ _ (e2 _ _ hb), hlt, by unfold Sr59.nats; rw [List.length_map]; exact hl, q⟩) (ea_cons (ev_fld (ev_var rfl) (e2 _ _ ho) Z.cls (Z.no _ (by simp [FIELDS_Coins])) (cF_seeds d.s pf pr)) ea_nil)) (by show 2 ≤ 100000; decide)) fun p H3 hp e3 h3 => q p H3 (fresh_back e2 hp) (e2.trans e3) ?_
      rw [h3]
      congr 1
      show _ = HO.lst (ansV (if Sr59.okCoins d l = false then _ else ⟨(Sr59.odds d.s (Sr59.nats l) : Int), [(Sr59.seeds d.s : Int)]⟩))
      rw [okCoins_eq, hup, if_neg (by simp)]
      rfl
def sp_answer_count (CC CF : Addr) : Sp := fun vs H Q _ => ∃ (a b c : Addr) (d : Sr59.Desk) (l r : List Int), vs = [.ref a, .ref b, .ref c] ∧ CoinsAt CC CF H a d.s ∧ H b = some (.lst (intsV l)) ∧ H c = some (.lst (intsV r)) ∧ RetL (ansV (Sr59.doing d (.count l r)).2) H Q
theorem ok_answer_count (F : Fun K "answer_count" "answer_count" s_answer_count f fd) (T : Txt K mg a_DIVISORS a_SHAPES) (Z : Clz K CC FIELDS_Coins) (O_Coins_are_rising : OkM P w K mg base 2 CC "are_rising" ["self", "coins"] (sp_Coins_are_rising CC CF))
    (O_Coins_seeds_lying_so : OkM P w K mg base 2 CC "seeds_lying_so" ["self", "coins", "lie"] (sp_Coins_seeds_lying_so CC CF)) : FnOk P w K mg base CX0 3 f fd ["coins", "row", "lie"] (sp_answer_count CC CF) := by
  refine F.ok sc_answer_count (fun vs H Q E h => ?_) (fun cdv A outer s0 H vs Q E hr h => ?_)
  · obtain ⟨a, b, c, d, l, r, rfl, _⟩ := h
    rfl
  · obtain ⟨a, b, c, d, l, r, rfl, hC, hb, hc, q⟩ := h
    have c_Coins := Z.cls
    have hC0 := hC
    obtain ⟨g, dx, pf, pr, ho, hF, hR⟩ := hC0
    refine ⟨_, (pss_cons (ps_if (PW.pt (pw_or (pt_not (pt_val (by_mth O_Coins_are_rising fun _ _ hm hb F => pe_meth (pv 0) c_Coins hm F (hr.mono (by decide)) hb .nil pass0 (pa_cons (pv 1) pa_nil)))) (pw_or1 (pt_cmpR op_ne (pe_callB (cr_lenK (K := K) rfl) (by rfl) T.n_len PySem.boot_len (pa_cons (pv 2) pa_nil)) (pe_callB (cr_lenK (K := K) rfl) (by rfl) T.n_len PySem.boot_len (pa_cons (pv 1) pa_nil)) (nomark _))))) (pss_one (ps_ret (pe_lst (pa_cons (pe_gint rfl T.g_WRONG) pa_nil)))) pss_nil) (pss_cons (ps_for PassesOwn.never rfl (pi_listK (K := K) rfl (pv 2)) (pg_name (i := 3) sc_answer_count.nd rfl (.inl rfl)) (pss_one (ps_if (PW.pt (pw_and (pt_cmpR op_ne (pv 3) pe_int (nomark _)) (pw_and1 (pt_cmpR op_ne (pv 3) pe_int (nomark _))))) (pss_one (ps_ret (pe_lst (pa_cons (pe_gint rfl T.g_WRONG) pa_nil)))) pss_nil))) (pss_one (ps_ret (pe_lst (pa_cons (by_mth O_Coins_seeds_lying_so fun _ _ hm hb F => pe_meth (pv 0) c_Coins hm F (hr.mono (by decide)) hb .nil pass0 (pa_cons (pv 1) (pa_cons (pv 2) pa_nil))) (pa_cons (pe_fldK (K := K) rfl (pv 0) rfl) pa_nil))))))), ?_⟩
    have wrong : (Sr59.okCoins d l = false ∨ r.length ≠ l.length ∨ r.any (fun x => decide (x < 0) || decide (1 < x)) = true) → ∀ (H2 : Hp), Ex H H2 → ∀ p H3, H2 p = none → Ex H2 H3 → H3 p = some (.lst (intsV [-22])) → Q (.ref p) H3 := by
      intro hw H2 e2 p H3 hp e3 h3
      refine q p H3 (fresh_back e2 hp) (e2.trans e3) ?_
      rw [h3]
      congr 1
      show _ = HO.lst (ansV (if Sr59.okCoins d l = false ∨ r.length ≠ l.length ∨ r.any (fun x => decide (x < 0) || decide (1 < x)) then Sr59.say (-22) else _))
      rw [if_pos hw]
      rfl
    refine q_when (b := !upFrom (2 ^ d.s.m) (-1) l || !decide ((r.length : Int) = (l.length : Int))) (et_is (et_or (et_not (et_B (ev_meth (ev_var rfl) ho (cF_are_rising d.s pf pr) (ea_cons (ev_var rfl) ea_nil) fun H3 e3 Q q E => ⟨a, b, d.s, l, rfl, hC.mono e3, e3 _ _ hb, q⟩))) fun _ => et_test (ev_op (ev_len (ev_var rfl) (sq_of hc)) (ev_len (ev_var rfl) (sq_of hb)) (rv_ne rfl))) ?_) ?_ ?_
    · rw [intsV_len, intsV_len]
      congr 2
      rw [decide_eq_decide]
      exact ⟨fun h => V.int.inj h, fun h => by rw [h]⟩
    · intro hb2 H2 e2
      refine s_retL (xs := intsV [-22]) (el_lst (ea_cons ev_c ea_nil) (by decide)) fun p H3 hp e3 h3 => wrong ?_ H2 e2 p H3 hp e3 h3
      rw [Bool.or_eq_true] at hb2
      rcases hb2 with h | h
      · exact .inl (by rw [okCoins_eq]; exact not_false' h)
      · exact .inr (.inl (by have := of_decide_eq_false (not_false' h); omega))
    · intro hb2 H2 e2
      rw [Bool.or_eq_false_iff] at hb2
      have hup := not_true hb2.1
      have hlen : r.length = l.length := by have := of_decide_eq_true (not_true hb2.2); omega
      refine q_forLn (xs := intsV r) (ev_var rfl) (sq_of (e2 _ _ hc)) (fun i σ H' => ∃ v, σ = [some (.ref a), some (.ref b), some (.ref c), v] ∧ Ex H H' ∧ ∀ x ∈ r.take i, 0 ≤ x ∧ x ≤ 1) ?_ ?_ ?_ ?_
      · exact fun H3 e3 => ⟨none, rfl, e2.trans e3, fun x hx => by simp at hx⟩
      · rintro i σ H3 _ ⟨v, rfl, e3, _⟩
        exact sq_of (e3 _ _ hc)
      · rintro i x σ H3 hi ⟨v, rfl, e3, hx⟩
        obtain ⟨n, hn, rfl⟩ := intsV_of hi
        refine s_when (b := !decide (n = 0) && !decide (n = 1)) (et_is (et_and (et_test (ev_op (ev_var rfl) ev_c (rv_ne rfl))) fun _ => et_test (ev_op (ev_var rfl) ev_c (rv_ne rfl))) ?_) ?_ ?_
        · rw [show decide (V.int n = V.int 0) = decide (n = 0) by rw [decide_eq_decide]; exact ⟨fun h => V.int.inj h, fun h => by rw [h]⟩, show decide (V.int n = V.int 1) = decide (n = 1) by rw [decide_eq_decide]; exact ⟨fun h => V.int.inj h, fun h => by rw [h]⟩]
        · intro hb3 H4 e4
          refine s_retL (xs := intsV [-22]) (el_lst (ea_cons ev_c ea_nil) (by decide)) fun p H5 hp e5 h5 => wrong (.inr (.inr ?_)) H4 (e3.trans e4) p H5 hp e5 h5
          rw [Bool.and_eq_true] at hb3
          have a1 := of_decide_eq_false (not_false' hb3.1)
          have a2 := of_decide_eq_false (not_false' hb3.2)
          refine List.any_eq_true.mpr ⟨n, List.mem_of_getElem? hn, ?_⟩
          rw [Bool.or_eq_true, decide_eq_true_eq, decide_eq_true_eq]
          omega
        · intro hb3 H4 e4
          refine ⟨some (.int n), rfl, e3.trans e4, fun x hx2 => ?_⟩
          rw [List.take_add_one, hn] at hx2
          rcases List.mem_append.mp hx2 with h | h
          · exact hx x h
          · have : x = n := by simpa using h
            subst this
            rw [Bool.and_eq_false_iff] at hb3
            rcases hb3 with h | h
            · have := of_decide_eq_true (not_true h)
              omega
            · have := of_decide_eq_true (not_true h)
              omega
      · rintro σ H3 ⟨v, rfl, e3, hx⟩
        rw [intsV_len, List.take_length] at hx
        have hall := upFrom_all hup
        have hn : l = (Sr59.nats l).map fun (n : Nat) => (n : Int) := nats_of fun x hx => by
          obtain ⟨k, rfl, _⟩ := inR_of (hall x hx)
          omega
        have hv : intsV l = natsV (Sr59.nats l) := by
          rw [← intsV_nats, ← hn]
        have hn2 : r = (Sr59.nats r).map fun (n : Nat) => (n : Int) := nats_of fun x hx2 => (hx x hx2).1
        have hv2 : intsV r = natsV (Sr59.nats r) := by
          rw [← intsV_nats, ← hn2]
        have hlt : ∀ x ∈ Sr59.nats l, x < 2 ^ d.s.m := by
          intro x hx
          obtain ⟨z, hz, rfl⟩ := List.mem_map.mp hx
          obtain ⟨k, rfl, hk⟩ := inR_of (hall z hz)
          exact hk
        have hlt2 : ∀ x ∈ Sr59.nats r, x < 2 := by
          intro x hx2
          obtain ⟨z, hz, rfl⟩ := List.mem_map.mp hx2
          have := hx z hz
          show z.toNat < 2
          omega
        have hbm : (Sr59.nats r).map (· == 1) = r.map fun x => x == 1 := by
          unfold Sr59.nats
          rw [List.map_map]
          refine List.map_congr_left fun z hz => ?_
          have := hx z hz
          show (z.toNat == 1) = (z == 1)
          rcases (by omega : z = 0 ∨ z = 1) with rfl | rfl <;> rfl
        refine s_retL (xs := intsV [(Sr59.count d.s (Sr59.nats l) ((Sr59.nats r).map (· == 1)) : Nat), (2 ^ (d.s.m * d.s.k) : Nat)]) (el_lst (ea_cons (ev_meth (ev_var rfl) (e3 _ _ ho) (cF_lying d.s pf pr) (ea_cons (ev_var rfl) (ea_cons (ev_var rfl) ea_nil)) fun H4 e4 Q q E => ⟨a, b, c, d.s, Sr59.nats l, Sr59.nats r, rfl, hC.mono (e3.trans e4), by rw [← hv]; exact e4 _ _ (e3 _ _ hb), by rw [← hv2]; exact e4 _ _ (e3 _ _ hc), hlt, hlt2, by unfold Sr59.nats; rw [List.length_map, List.length_map]; exact hlen, q⟩) (ea_cons (ev_fld (ev_var rfl) (e3 _ _ ho) Z.cls (Z.no _ (by simp [FIELDS_Coins])) (cF_seeds d.s pf pr)) ea_nil)) (by show 2 ≤ 100000; decide)) fun p H4 hp e4 h4 => q p H4 (fresh_back e3 hp) (e3.trans e4) ?_
        rw [h4]
        congr 1
        show _ = HO.lst (ansV (if Sr59.okCoins d l = false ∨ r.length ≠ l.length ∨ r.any (fun x => decide (x < 0) || decide (1 < x)) then _ else ⟨(Sr59.count d.s (Sr59.nats l) (r.map fun x => x == 1) : Int), [(Sr59.seeds d.s : Int)]⟩))
        rw [okCoins_eq, hup, if_neg, hbm]
        · rfl
        · rintro (h | h | h)
          · cases h
          · exact h hlen
          · obtain ⟨z, hz, h⟩ := List.any_eq_true.mp h
            rw [Bool.or_eq_true, decide_eq_true_eq, decide_eq_true_eq] at h
            have := hx z hz
            omega
/-! ### can_lie -/
def canL (n : Nat) (l : List Int) : Bool := decide (1 ≤ l.length) && decide (l.length ≤ 20) && l.all fun x => decide (0 ≤ x) && decide (x < 2 * (n : Int))
def sp_can_lie (CC CF : Addr) : Sp := fun vs H Q _ => ∃ (a b : Addr) (s : Sr59.Space) (l : List Int), vs = [.ref a, .ref b] ∧ CoinsAt CC CF H a s ∧ H b = some (.lst (intsV l)) ∧ RetV (.bl (canL (2 ^ s.m) l)) H Q
theorem all_false {l : List Int} {p : Int → Bool} {x : Int} (h : x ∈ l) (hx : p x = false) : l.all p = false := by
  cases e : l.all p
  · rfl
  · rw [List.all_eq_true.mp e x h] at hx
    cases hx
theorem ok_can_lie (F : Fun K "can_lie" "can_lie" s_can_lie f fd) (T : Txt K mg a_DIVISORS a_SHAPES) (Z : Clz K CC FIELDS_Coins) : FnOk P w K mg base CX0 1 f fd ["coins", "lie"] (sp_can_lie CC CF) := by
  refine F.ok sc_can_lie (fun vs H Q E h => ?_) (fun cdv A outer s0 H vs Q E hr h => ?_)
  · obtain ⟨a, b, s, l, rfl, _⟩ := h
    rfl
  · obtain ⟨a, b, s, l, rfl, hC, hb, q⟩ := h
    refine ⟨_, (pss_cons (ps_if (PW.pt (pw_or (pt_cmpR op_lt (pe_callB (cr_lenK (K := K) rfl) (by rfl) T.n_len PySem.boot_len (pa_cons (pv 1) pa_nil)) pe_int (nomark _)) (pw_or1 (pt_cmpR op_gt (pe_callB (cr_lenK (K := K) rfl) (by rfl) T.n_len PySem.boot_len (pa_cons (pv 1) pa_nil)) (pe_gint rfl T.g_MOST_LIE) (nomark _))))) (pss_one (ps_ret pe_bl)) pss_nil) (pss_cons (ps_for PassesOwn.never rfl (pi_listK (K := K) rfl (pv 1)) (pg_name (i := 2) sc_can_lie.nd rfl (.inl rfl)) (pss_one (ps_if (PW.pt (pw_or (pt_cmpR op_lt (pv 2) pe_int (nomark _)) (pw_or1 (pt_cmpR op_ge (pv 2) (pe_op op_mul pe_int (pe_fldK (K := K) rfl (pv 0) rfl)) (nomark _))))) (pss_one (ps_ret pe_bl)) pss_nil))) (pss_one (ps_ret pe_bl)))), ?_⟩
    refine q_when (b := decide (l.length < 1) || decide (20 < l.length)) (et_is (et_or (et_test (ev_op (ev_len (ev_var rfl) (sq_of hb)) ev_c rv_I0)) fun _ => et_test (ev_op (ev_len (ev_var rfl) (sq_of hb)) ev_c rv_I0)) ?_) ?_ ?_
    · rw [intsV_len]
      congr 1 <;> rw [decide_eq_decide] <;> omega
    · intro hb2 H2 e2
      rw [Bool.or_eq_true, decide_eq_true_eq, decide_eq_true_eq] at hb2
      have e : canL (2 ^ s.m) l = false := by
        unfold canL
        rcases hb2 with h | h
        · rw [decide_eq_false (show ¬ 1 ≤ l.length by omega)]
          rfl
        · rw [decide_eq_false (show ¬ l.length ≤ 20 by omega), Bool.and_false]
          rfl
      rw [e] at q
      exact s_ret ev_c fun H3 e3 => q.go (e2.trans e3)
    · intro hb2 H2 e2
      rw [Bool.or_eq_false_iff] at hb2
      have l1 := of_decide_eq_false hb2.1
      have l2 := of_decide_eq_false hb2.2
      have e : canL (2 ^ s.m) l = l.all fun x => decide (0 ≤ x) && decide (x < 2 * ((2 ^ s.m : Nat) : Int)) := by
        unfold canL
        rw [decide_eq_true (show 1 ≤ l.length by omega), decide_eq_true (show l.length ≤ 20 by omega)]
        rfl
      rw [e] at q
      have hC0 := hC
      obtain ⟨g, dx, pf, pr, ho, hF, hR⟩ := hC0
      have m64 := pow64 g.h6
      refine q_forLn (xs := intsV l) (ev_var rfl) (sq_of (e2 _ _ hb)) (fun i σ H' => ∃ v, σ = [some (.ref a), some (.ref b), v] ∧ Ex H H' ∧ ((l.take i).all fun x => decide (0 ≤ x) && decide (x < 2 * ((2 ^ s.m : Nat) : Int))) = true) ?_ ?_ ?_ ?_
      · exact fun H3 e3 => ⟨none, rfl, e2.trans e3, rfl⟩
      · rintro i σ H3 _ ⟨v, rfl, e3, _⟩
        exact sq_of (e3 _ _ hb)
      · rintro i x σ H3 hi ⟨v, rfl, e3, hx⟩
        obtain ⟨n, hn, rfl⟩ := intsV_of hi
        refine s_when (b := decide (n < 0) || decide (2 * ((2 ^ s.m : Nat) : Int) ≤ n)) (et_or (et_test (ev_op (ev_var rfl) ev_c rv_I0)) fun _ => et_test (ev_op (ev_var rfl) (ev_op ev_c (ev_fld (ev_var rfl) (e3 _ _ ho) Z.cls (Z.no _ (by simp [FIELDS_Coins])) (cF_how_many s pf pr)) (rv_I (.inl ⟨by decide, by decide⟩))) rv_I0)) ?_ ?_
        · intro hb3 H4 e4
          rw [Bool.or_eq_true, decide_eq_true_eq, decide_eq_true_eq] at hb3
          rw [all_false (List.mem_of_getElem? hn) (by rw [Bool.and_eq_false_iff, decide_eq_false_iff_not, decide_eq_false_iff_not]; omega)] at q
          exact s_ret ev_c fun H5 e5 => q.go ((e3.trans e4).trans e5)
        · intro hb3 H4 e4
          rw [Bool.or_eq_false_iff, decide_eq_false_iff_not, decide_eq_false_iff_not] at hb3
          refine ⟨some (.int n), rfl, e3.trans e4, ?_⟩
          rw [List.take_add_one, hn, List.all_append, hx]
          show (true && (([n].all fun x => decide (0 ≤ x) && decide (x < 2 * ((2 ^ s.m : Nat) : Int))))) = true
          rw [Bool.true_and, List.all_cons, List.all_nil, Bool.and_true, Bool.and_eq_true, decide_eq_true_eq, decide_eq_true_eq]
          omega
      · rintro σ H3 ⟨v, rfl, e3, hx⟩
        rw [intsV_len, List.take_length] at hx
        rw [hx] at q
        exact s_ret ev_c fun H4 e4 => q.go (e3.trans e4)
end
end Few
set_option Elab.async false
set_option linter.all false
set_option maxRecDepth 100000
set_option maxHeartbeats 2000000
namespace Few
open PySem PySem.Spec PyProof.Rows L2 Evl
/-! ### a call as it is read -/
def kF (kind : Int) (pn pr : Addr) (behind : Nat) : List (Str × V) := [("kind", .int kind), ("numbers", .ref pn), ("rows", .ref pr), ("behind", .int (behind : Int))]
theorem kF_kind (kind : Int) (pn pr : Addr) (behind : Nat) : (kF kind pn pr behind).lookup ("kind" : Str) = some (.int kind) := by kernel_rfl
theorem kF_numbers (kind : Int) (pn pr : Addr) (behind : Nat) : (kF kind pn pr behind).lookup ("numbers" : Str) = some (.ref pn) := by kernel_rfl
theorem kF_rows (kind : Int) (pn pr : Addr) (behind : Nat) : (kF kind pn pr behind).lookup ("rows" : Str) = some (.ref pr) := by kernel_rfl
theorem kF_behind (kind : Int) (pn pr : Addr) (behind : Nat) : (kF kind pn pr behind).lookup ("behind" : Str) = some (.int (behind : Int)) := by kernel_rfl
theorem kF_new (kind : Int) (pn pr : Addr) (behind : Nat) : putF "behind" (.int (behind : Int)) (putF "rows" (.ref pr) (putF "numbers" (.ref pn) (putF "kind" (.int kind) []))) = kF kind pn pr behind := by kernel_rfl
def CallAt (C : Addr) (H : Hp) (a : Addr) (kind : Int) (nums : List Int) (rows : List (List Int)) (behind : Nat) : Prop :=
  ∃ dx pn pr, H a = some (.ins C dx (kF kind pn pr behind)) ∧ H pn = some (.lst (intsV nums)) ∧ Rows H pr (rows.map intsV)
theorem CallAt.mono {C a : Addr} {H H' : Hp} {kind : Int} {nums : List Int} {rows : List (List Int)} {behind : Nat} (e : Ex H H') (h : CallAt C H a kind nums rows behind) : CallAt C H' a kind nums rows behind := by
  obtain ⟨dx, pn, pr, h1, h2, h3⟩ := h
  exact ⟨dx, pn, pr, e _ _ h1, e _ _ h2, h3.mono e⟩
theorem cut_nat (ns : List Int) {b n : Nat} (h : b + n ≤ ns.length) : cutV (intsV ns) (some (b : Int)) (some ((b + n : Nat) : Int)) = intsV ((ns.drop b).take n) := by
  unfold cutV
  rw [HT.sIx_nat, HT.sIx_nat, intsV_len, Nat.min_eq_left (show b ≤ ns.length by omega), Nat.min_eq_left h, Nat.add_sub_cancel_left]
  unfold intsV
  rw [List.map_take, List.map_drop]
section
variable {P : Program} {w : World} {K : PySem.W.Frag} {mg : Str → Option Value} {base : Heap} {a_DIVISORS a_SHAPES CK : Addr} {f : Addr} {fd : FuncData}
def FIELDS_Call : List Str := ["kind", "numbers", "rows", "behind"]
def sp_Call_init (C : Addr) : Sp := fun vs H Q _ => ∃ (p dx pn pr : Addr) (kind : Int) (behind : Nat), vs = [.ref p, .int kind, .ref pn, .ref pr, .int (behind : Int)] ∧ H p = some (.ins C dx []) ∧
  ∀ H' : Hp, H' p = some (.ins C dx (kF kind pn pr behind)) → (∀ b o, H b = some o → b ≠ p → H' b = some o) → Q .non H'
theorem ok_Call_init (F : Fun K "__init__" "Call.__init__" s_Call_init f fd) (Z : Clz K CK FIELDS_Call) : FnOk P w K mg base CX0 1 f fd ["self", "kind", "numbers", "rows", "behind"] (sp_Call_init CK) := by
  refine F.ok sc_Call_init (fun vs H Q E h => ?_) (fun cdv A outer s H vs Q E hr h => ?_)
  · obtain ⟨p, dx, pn, pr, kind, behind, rfl, _⟩ := h
    rfl
  · obtain ⟨p, dx, pn, pr, kind, behind, rfl, hp, q⟩ := h
    refine ⟨_, (pss_cons (ps_fld (pv 0) (pv 1) rfl) (pss_cons (ps_fld (pv 0) (pv 2) rfl) (pss_cons (ps_fld (pv 0) (pv 3) rfl) (pss_one (ps_fld (pv 0) (pv 4) rfl))))), ?_⟩
    refine q_fld (ev_var rfl) (ev_var rfl) hp Z.cls (Z.no _ (by simp [FIELDS_Call])) (by decide) fun H1 e1 => ?_
    refine q_fld (ev_var rfl) (ev_var rfl) upd_same Z.cls (Z.no _ (by simp [FIELDS_Call])) (show 1 < 1000 by decide) fun H2 e2 => ?_
    refine q_fld (ev_var rfl) (ev_var rfl) upd_same Z.cls (Z.no _ (by simp [FIELDS_Call])) (show 2 < 1000 by decide) fun H3 e3 => ?_
    refine s_fld (ev_var rfl) (ev_var rfl) upd_same Z.cls (Z.no _ (by simp [FIELDS_Call])) (show 3 < 1000 by decide) fun H4 e4 => ?_
    refine q _ ?_ fun b o hb nb => ?_
    · rw [upd_same, kF_new]
    · rw [upd_ne nb]
      refine e4 _ _ ?_
      rw [upd_ne nb]
      refine e3 _ _ ?_
      rw [upd_ne nb]
      refine e2 _ _ ?_
      rw [upd_ne nb]
      exact e1 _ _ hb
/-- what a place is: its shape -/
theorem shape_at {z : Int} {n k : Nat} (h : PySr59.shape z = some (n, k)) : ∃ i : Nat, z = (i : Int) ∧ v_SHAPES[i]? = some [.int (n : Int), .int (k : Int)] ∧ n ≤ 3 ∧ k ≤ 2 := by
  obtain ⟨i, hi, hs, hn, hk⟩ := shape_ix h
  refine ⟨i, hi, ?_, hn, hk⟩
  have e : v_SHAPES = shapes.map fun x => [.int (x.1 : Int), .int (x.2 : Int)] := rfl
  rw [e, List.getElem?_map, hs]
  rfl
/-! ### read_call -/
def sp_read_call (K : PySem.W.Frag) (C : Addr) : Sp := fun vs H Q _ => ∃ (a : Addr) (ns : List Int) (p : Nat) (kind : Int) (nums t : List Int) (rows : List (List Int)), vs = [.ref a, .int (p : Int)] ∧ SqL K H a (intsV ns) ∧ ns.length ≤ 8600 ∧ p < ns.length ∧
  PyFlat.call PySr59.shape (ns.drop p) = some ((kind :: nums) :: rows, t) ∧ ∀ (x : Addr) (H2 : Hp) (b : Nat), H x = none → Ex H H2 → p < b → b ≤ ns.length → t = ns.drop b → CallAt C (newPart H H2) x kind nums rows b → Q (.ref x) H2
theorem ok_read_call (F : Fun K "read_call" "read_call" s_read_call f fd) (T : Txt K mg a_DIVISORS a_SHAPES) (O_Call : OkC P w K mg base 1 "Call" CK ["self", "kind", "numbers", "rows", "behind"] (sp_Call_init CK)) :
    FnOk P w K mg base CX0 3 f fd ["calls", "place"] (sp_read_call K CK) := by
  refine F.ok sc_read_call (fun vs H Q E h => ?_) (fun cdv A outer s H vs Q E hr h => ?_)
  · obtain ⟨a, ns, p, kind, nums, t, rows, rfl, _⟩ := h
    rfl
  · obtain ⟨a, ns, p, kind, nums, t, rows, rfl, hS, hlen, hp, hcall, q⟩ := h
    -- the call by its shape
    have hd := List.drop_eq_getElem_cons hp
    obtain ⟨z, hz⟩ : ∃ z, ns[p]? = some z := ⟨_, List.getElem?_eq_getElem hp⟩
    have hz0 : ns[p] = z := by
      rw [List.getElem?_eq_getElem hp] at hz
      exact Option.some.inj hz
    rw [hd, hz0] at hcall
    obtain ⟨n, k, xs, hsh, hn, hrows, ec⟩ := call_inv hcall
    obtain ⟨e3, e4⟩ := List.cons.inj ec
    obtain ⟨e5, e6⟩ := List.cons.inj e3
    subst e4 e5 e6
    rw [List.length_drop] at hn
    rw [List.drop_drop] at hrows
    obtain ⟨ix, hix, hsv, n3, k2⟩ := shape_at hsh
    obtain ⟨ps, g1, g2, g3⟩ := T.d_SHAPES
    obtain ⟨sh, hs1, hs2⟩ := g3 ix _ hsv
    have xl := rows_len hrows
    refine ⟨_, (pss_cons (ps_set (i := 2) sc_read_call.nd rfl (.inl rfl) (pe_ixL (K := K) rfl (pv 0) (pv 1) (fun _ _ => rfl))) (pss_cons (ps_set (i := 3) sc_read_call.nd rfl (.inl rfl) (pe_ixT (K := K) rfl (pe_gref rfl T.g_SHAPES) (pv 2) (fun _ _ => rfl))) (pss_cons (ps_set (i := 4) sc_read_call.nd rfl (.inl rfl) (pe_op op_add (pe_op op_add (pv 1) pe_int) (pe_ixT (K := K) rfl (pv 3) pe_int (fun _ _ => rfl)))) (pss_cons (ps_set (i := 5) sc_read_call.nd rfl (.inl rfl) (pe_slice (sl_listK (K := K) rfl) (pv 0) (po_some (pe_op op_add (pv 1) pe_int)) (po_some (pv 4)))) (pss_cons (ps_set (i := 6) sc_read_call.nd rfl (.inl rfl) (pe_lst pa_nil)) (pss_cons (ps_for PassesOwn.never rfl (pi_range1 rfl T.n_range (pa_cons (pe_ixT (K := K) rfl (pv 3) pe_int (fun _ _ => rfl)) pa_nil)) (pg_name (i := 7) sc_read_call.nd rfl (.inl rfl)) (pss_cons (ps_set (i := 8) sc_read_call.nd rfl (.inl rfl) (pe_op op_add (pv 4) pe_int)) (pss_cons (ps_set (i := 4) sc_read_call.nd rfl (.inl rfl) (pe_op op_add (pv 8) (pe_ixL (K := K) rfl (pv 0) (pv 4) (fun _ _ => rfl)))) (pss_one (ps_expr (pe_bm PySem.F.plainAttrs_list PySem.F.slot_list_append PySem.F.type_list_append mt_append (pv 6) (pa_cons (pe_slice (sl_listK (K := K) rfl) (pv 0) (po_some (pv 8)) (po_some (pv 4))) pa_nil))))))) (pss_one (ps_ret (by_cls O_Call fun _ _ hm M hb F => pe_make M F (hr.mono (by decide)) rfl hm hb .nil pass0 (pa_cons (pv 2) (pa_cons (pv 5) (pa_cons (pv 6) (pa_cons (pv 4) pa_nil))))))))))))), ?_⟩
    refine q_asg (ev_op (ev_var rfl) (ev_var rfl) (rv_ixL (v := .int kind) hS (at_nat (by unfold intsV; rw [List.getElem?_map, hz]; rfl)))) fun H1 a1 => ?_
    refine q_asg (v := .ref sh) (ev_op ev_c (ev_var rfl) (rv_ixT (i := kind) (g1 _) (by rw [hix]; exact at_nat (by rw [List.getElem?_map, hs1]; rfl)))) fun H2 a2 => ?_
    refine q_asg (v := .int ((p + 1 + n : Nat) : Int)) (ev_is (ev_op (ev_op (ev_var rfl) ev_c rv_I0) (ev_op (ev_var rfl) ev_c (rv_ixT (v := .int (n : Int)) (i := ((0 : Nat) : Int)) (hs2 _) (at_nat rfl))) rv_I0) (by congr 1)) fun H3 a3 => ?_
    have hS3 : SqL K H3 a (intsV ns) := ex_l ((a1.trans a2).trans a3) hS
    refine q_asgL (xs := intsV ((ns.drop (p + 1)).take n)) ?_ fun pn H4 hpn a4 h4 => ?_
    · have := el_sl (K := K) (σ := [some (.ref a), some (.int (p : Int)), some (.int kind), some (.ref sh), some (.int ((p + 1 + n : Nat) : Int)), none, none, none, none]) (H := H3) (te := tVar 0) (tl := tPart (tOp (rI0 fun i j => .int (i + j)) (tVar 1) (tC (.int 1)))) (th := tPart (tVar 4)) (ev_var rfl) (eo_some (i := ((p + 1 : Nat) : Int)) (ev_is (ev_op (ev_var rfl) ev_c rv_I0) (by congr 1))) (eo_some (ev_var rfl)) hS3
      rw [cut_nat ns (by omega)] at this
      exact this
    refine q_asgL (xs := []) (el_lst ea_nil (by decide)) fun pr H5 hpr a5 h5 => ?_
    have e04 : Ex H H4 := ((a1.trans a2).trans a3).trans a4
    refine q_forR1 (n := k) (ea_cons (ev_op (ev_var rfl) ev_c (rv_ixT (v := .int (k : Int)) (i := ((1 : Nat) : Int)) (hs2 _) (at_nat rfl))) ea_nil) (by omega)
      (fun i σ H' => ∃ (b : Nat) (v7 v8 : Option V), σ = [some (.ref a), some (.int (p : Int)), some (.int kind), some (.ref sh), some (.int (b : Int)), some (.ref pn), some (.ref pr), v7, v8] ∧ p < b ∧ b ≤ ns.length ∧ PyFlat.rows (k - i) (ns.drop b) = some (rows.drop i, t) ∧ Cr H4 (fun j => intsV (rows.getD j [])) pr i H') ?_ ?_ ?_
    · intro H6 a6
      refine ⟨p + 1 + n, none, none, rfl, by omega, by omega, ?_, hpr, a5.trans a6, [], a6 _ _ h5, rfl, fun k hk => absurd hk (Nat.not_lt_zero k)⟩
      exact hrows
    · rintro i σ H6 hi ⟨b, v7, v8, rfl, hpb, hb, hrw, p1, p2, qs, p3, p4, p5⟩
      have hi2 : i < k := by omega
      rw [show k - i = (k - (i + 1)) + 1 by omega] at hrw
      obtain ⟨c, xs', c1, c2, c3, c4⟩ := rows_step hb hrw
      have hxi : rows.getD i [] = (ns.drop (b + 1)).take c := by
        have : rows[i]? = some ((ns.drop (b + 1)).take c) := by
          have := List.getElem?_drop (xs := rows) (i := i) (j := 0)
          rw [c3] at this
          exact this.symm
        rw [List.getD_eq_getElem?_getD, this]
        rfl
      have hxd : rows.drop (i + 1) = xs' := by
        have := congrArg List.tail c3
        rw [List.tail_drop] at this
        exact this
      have hS6 : SqL K H6 a (intsV ns) := ex_l (e04.trans p2) hS
      refine q_asg (v := .int ((b + 1 : Nat) : Int)) (ev_is (ev_op (ev_var rfl) ev_c rv_I0) (by congr 1)) fun H7 a7 => ?_
      refine q_asg (v := .int ((b + 1 + c : Nat) : Int)) (ev_is (ev_op (ev_var rfl) (ev_op (ev_var rfl) (ev_var rfl) (rv_ixL (v := .int (c : Int)) (ex_l a7 hS6) (at_nat (by unfold intsV; rw [List.getElem?_map, c1]; rfl)))) rv_I0) (by congr 1)) fun H8 a8 => ?_
      have a68 := a7.trans a8
      refine s_appL (xs := qs.map V.ref) (ys := intsV (rows.getD i [])) (a68 _ _ p3) (ev_var rfl) ?_ (by rw [List.length_map]; omega) fun pq H9 hpq a9 h9 => ?_
      · have := el_sl (K := K) (σ := [some (.ref a), some (.int (p : Int)), some (.int kind), some (.ref sh), some (.int ((b + 1 + c : Nat) : Int)), some (.ref pn), some (.ref pr), some (.int (i : Int)), some (.int ((b + 1 : Nat) : Int))]) (H := H8) (te := tVar 0) (tl := tPart (tVar 8)) (th := tPart (tVar 4)) (ev_var rfl) (eo_some (ev_var rfl)) (eo_some (ev_var rfl)) (ex_l a68 hS6)
        rw [cut_nat ns c2, ← hxi] at this
        exact this
      · refine ⟨b + 1 + c, some (.int (i : Int)), some (.int ((b + 1 : Nat) : Int)), rfl, by omega, c2, ?_, cr_step p1 (p2.trans a68) (a68 _ _ p3) p4 (fun j hj => ?_) hpq a9 h9⟩
        · rw [hxd]
          exact c4
        · obtain ⟨y, y1, y2, y3⟩ := p5 j hj
          exact ⟨y, y1, y2, a68 _ _ y3⟩
    · rintro σ H6 ⟨b, v7, v8, rfl, hpb, hb, hrw, hC⟩
      rw [Int.toNat_natCast] at hrw hC
      rw [Nat.sub_self] at hrw
      have hu : ns.drop b = t := (Prod.mk.inj (Option.some.inj hrw)).2
      have hRw : Rows (newPart H H6) pr (rows.map intsV) := by
        have := cr_new e04 hC
        have e : (List.range k).map (fun j => intsV (rows.getD j [])) = rows.map intsV := by
          refine List.ext_getElem? fun j => ?_
          rw [List.getElem?_map, List.getElem?_map]
          by_cases hj : j < k
          · rw [List.getElem?_range hj, List.getElem?_eq_getElem (by omega)]
            simp [List.getD_eq_getElem?_getD, show j < rows.length by omega]
          · rw [List.getElem?_eq_none (by rw [List.length_range]; omega), List.getElem?_eq_none (by omega)]
            rfl
        rw [e] at this
        exact this
      have e46 : Ex H4 H6 := hC.2.1
      have hpn0 : H pn = none := fresh_back ((a1.trans a2).trans a3) hpn
      refine en_make (C := CK) (Pr := fun x G => ∃ dx, G x = some (.ins CK dx (kF kind pn pr b))) (H := H6) (ea_cons (ev_var rfl) (ea_cons (ev_var rfl) (ea_cons (ev_var rfl) (ea_cons (ev_var rfl) ea_nil)))) (fun _ _ _ e ⟨dx, h⟩ => ⟨dx, e _ _ h⟩) (fun H7 x dx a7 nx nd ne Q' q' => ⟨x, dx, pn, pr, kind, b, rfl, upd_same, fun H8 h8 kp => q' H8 (upd (fun _ => none) x (.ins CK dx (kF kind pn pr b))) (fun c o hc => ?_) (fun c o hc => ?_) ⟨dx, upd_same⟩ kp⟩) H6 (Ex.refl H6) _ fun x H7 hx a7 ⟨dx, hK⟩ => ?_
      · have hx0 := fresh_back (e04.trans e46) hx
        exact q x H7 b hx0 ((e04.trans e46).trans a7) hpb hb hu.symm ⟨dx, pn, pr, newPart_of hx0 (newPart_ex _ _ hK), newPart_of hpn0 (a7 _ _ (e46 _ _ h4)), hRw.mono (np_ex (Ex.refl H) a7)⟩
      · by_cases e : c = x
        · subst e
          rw [upd_same] at hc
          rw [← hc]
          exact h8
        · rw [upd_ne e] at hc
          cases hc
      · by_cases e : c = x
        · exact .inl e
        · rw [upd_ne e] at hc
          cases hc
end
end Few
set_option Elab.async false
set_option linter.all false
set_option maxRecDepth 100000
set_option maxHeartbeats 2000000
namespace Few
open PySem PySem.Spec PyProof.Rows L2 Evl
/-! ### all but what is kept -/
open Classical in
noncomputable def off (kp : Addr → Prop) (H : Hp) : Hp := fun b => if kp b then none else H b
section
variable {kp : Addr → Prop} {H H' G : Hp} {b l : Addr} {o : HO}
theorem off_of (n : ¬ kp b) (h : H b = some o) : off kp H b = some o := by
  unfold off
  rw [if_neg n]
  exact h
theorem off_not (h : off kp H b = some o) : ¬ kp b := fun c => by
  unfold off at h
  rw [if_pos c] at h
  cases h
theorem off_ex : Ex (off kp H) H := fun b o h => by
  have n := off_not h
  unfold off at h
  rw [if_neg n] at h
  exact h
theorem off_mono (e : Ex H H') : Ex (off kp H) (off kp H') := fun b o h => off_of (off_not h) (e _ _ (off_ex _ _ h))
theorem off_upd (n : ¬ kp l) : off kp (upd H l o) = upd (off kp H) l o := by
  funext b
  by_cases e : b = l
  · subst e
    rw [upd_same, off_of n upd_same]
  · rw [upd_ne e]
    unfold off
    rw [upd_ne e]
theorem off_kept (k : kp l) : off kp (upd H l o) = off kp H := by
  funext b
  unfold off
  by_cases e : b = l
  · subst e
    rw [if_pos k, if_pos k]
  · rw [upd_ne e]
end
section
variable {K : PySem.W.Frag} {σ : L2.St} {H H' : Hp} {ta te : TE} {a C dx : Addr} {fs : List (Str × V)} {m : Str} {D : Ends} {tz : TS} {t : TA} {vs : List V} {sp : Sp} {E : XK} {i : Nat}
theorem q_asgC (hv : EvA t σ H vs) (hs : ∀ H1, Ex H H1 → sp vs H1 (fun x H2 => tz D (σ.set i (some x)) H2) E) : tSeq (tAsg (tCall sp [] E t) (gName i)) tz D σ H :=
  hv H (Ex.refl H) _ fun H1 e1 => by
    show sp (vs ++ []) H1 _ E
    rw [List.append_nil]
    exact hs H1 e1
theorem q_asgM (h : Ev ta σ H (.ref a)) (ho : H a = some (.ins C dx fs)) (hl : fs.lookup m = none) (hv : EvA t σ H vs) (hs : ∀ H1, Ex H H1 → sp (.ref a :: vs) H1 (fun x H2 => tz D (σ.set i (some x)) H2) E) : tSeq (tAsg (tMeth C m sp [] E ta t) (gName i)) tz D σ H :=
  h H (Ex.refl H) _ fun H1 e1 => ⟨a, dx, fs, rfl, e1 _ _ ho, hl, hv H1 e1 _ fun H2 e2 => by
    rw [List.append_nil]
    exact hs H2 (e1.trans e2)⟩
theorem s_retM (h : Ev ta σ H (.ref a)) (ho : H a = some (.ins C dx fs)) (hl : fs.lookup m = none) (hv : EvA t σ H vs) (hs : ∀ H1, Ex H H1 → sp (.ref a :: vs) H1 D.rt E) : tRet (tMeth C m sp [] E ta t) D σ H :=
  h H (Ex.refl H) _ fun H1 e1 => ⟨a, dx, fs, rfl, e1 _ _ ho, hl, hv H1 e1 _ fun H2 e2 => by
    rw [List.append_nil]
    exact hs H2 (e1.trans e2)⟩
theorem s_retC (hv : EvA t σ H vs) (hs : ∀ H1, Ex H H1 → sp vs H1 D.rt E) : tRet (tCall sp [] E t) D σ H :=
  hv H (Ex.refl H) _ fun H1 e1 => by
    show sp (vs ++ []) H1 _ E
    rw [List.append_nil]
    exact hs H1 e1
theorem q_asgN {Pr : Addr → Hp → Prop} (h : EvP te σ H Pr) (k : ∀ x H1, H x = none → Ex H H1 → Pr x (newPart H H1) → tz D (σ.set i (some (.ref x))) H1) : tSeq (tAsg te (gName i)) tz D σ H := h H (Ex.refl H) _ k
/-- xs.append(e), xs.extend(ys), of any size that a list may have -/
theorem q_app2 {l : Addr} {xs : List V} {v : V} (hl : H l = some (.lst xs)) (ha : Ev ta σ H (.ref l)) (h : Ev te σ H v) (hz : xs.length < sizeLine) (k : ∀ H1, Ex H H1 → tz D σ (upd H1 l (.lst (xs ++ [v])))) :
    tSeq (tDrop (tBM K "list" rAppend ta (tCons te tNil))) tz D σ H := ha H (Ex.refl H) _ fun H1 e1 =>
  ⟨Or.inl ⟨rfl, xs, sq_of (e1 l _ hl)⟩, h H1 e1 _ fun H2 e2 => ⟨l, xs, v, rfl, rfl, e2 l _ (e1 l _ hl), hz, k H2 (e1.trans e2)⟩⟩
theorem q_ext {l b : Addr} {xs ys : List V} (hl : H l = some (.lst xs)) (hb : H b = some (.lst ys)) (ha : Ev ta σ H (.ref l)) (h : Ev te σ H (.ref b)) (hz : xs.length + ys.length ≤ sizeLine) (k : ∀ H1, Ex H H1 → tz D σ (upd H1 l (.lst (xs ++ ys)))) :
    tSeq (tDrop (tBM K "list" rExtend ta (tCons te tNil))) tz D σ H := ha H (Ex.refl H) _ fun H1 e1 =>
  ⟨Or.inl ⟨rfl, xs, sq_of (e1 l _ hl)⟩, h H1 e1 _ fun H2 e2 => ⟨l, b, xs, ys, rfl, rfl, e2 l _ (e1 l _ hl), e2 b _ (e1 b _ hb), hz, k H2 (e1.trans e2)⟩⟩
end
/-! ### the specification's answers, call by call -/
theorem whole_eq (c : List (List Int)) : PySr59.whole c = c := by
  unfold PySr59.whole
  split <;> rfl
theorem answers_of {ns : List Int} (h : PySr59.answers_asked ns = true) : ∃ cs, PyFlat.calls PySr59.shape ns.length ns = some cs ∧ (∀ c ∈ cs, Sr59Neutral.asked1 c = true) ∧ cs.length ≤ 60 ∧ PySr59.answers ns = PyFlat.told (PyFlat.played Sr59Neutral.step Sr59Neutral.start cs) ∧ (PySr59.answers ns).length ≤ 10000000 := by
  unfold PySr59.answers_asked at h
  cases e : PyFlat.calls PySr59.shape ns.length ns with
  | none =>
    rw [e] at h
    cases h
  | some raw =>
    rw [e] at h
    have hw : raw.map PySr59.whole = raw := by
      rw [show PySr59.whole = id from funext whole_eq, List.map_id]
    have h : (!raw.isEmpty && PyFlat.atMost 60 raw && PyInside.calls PySr59.bound raw && Sr59Neutral.asked (raw.map PySr59.whole) && PyFlat.short 10000000 (PySr59.answers ns)) = true := h
    rw [hw] at h
    simp only [Bool.and_eq_true] at h
    obtain ⟨⟨⟨⟨_, h2⟩, _⟩, h4⟩, h5⟩ := h
    refine ⟨raw, rfl, ?_, of_decide_eq_true h2, ?_, of_decide_eq_true h5⟩
    · unfold Sr59Neutral.asked at h4
      simp only [Bool.and_eq_true] at h4
      exact List.all_eq_true.mp h4.2.2
    · unfold PySr59.answers PySr59.calls
      rw [e]
      show PyFlat.told (PyFlat.played Sr59Neutral.step Sr59Neutral.start (raw.map PySr59.whole)) = _
      rw [hw]
section
variable {P : Program} {w : World} {K : PySem.W.Frag} {mg : Str → Option Value} {base : Heap} {a_DIVISORS a_SHAPES CK CL : Addr} {f : Addr} {fd : FuncData} {LI : Hp → Addr → Sr59.State → Prop}
def sp_Line_init (CL : Addr) (LI : Hp → Addr → Sr59.State → Prop) : Sp := fun vs H Q _ => ∃ (p dx : Addr), vs = [.ref p] ∧ H p = some (.ins CL dx []) ∧
  ∀ H' G : Hp, Ex G H' → (∀ b o, G b = some o → b = p ∨ H b = none) → LI G p none → (∀ b o, H b = some o → b ≠ p → H' b = some o) → Q .non H'
def sp_Line_answer (CK : Addr) (LI : Hp → Addr → Sr59.State → Prop) : Sp := fun vs H Q _ => ∃ (L c : Addr) (kp : Addr → Prop) (GL GC : Hp) (st : Sr59.State) (kind : Int) (nums : List Int) (rows : List (List Int)) (b : Nat), vs = [.ref L, .ref c] ∧ LI GL L st ∧ Ex GL (off kp H) ∧
  CallAt CK GC c kind nums rows b ∧ Ex GC (off kp H) ∧ (∀ b o, GL b = some o → GC b = none) ∧ Sr59Neutral.asked1 ((kind :: nums) :: rows) = true ∧ (∀ b, kp b → ∃ o, H b = some o) ∧
  ∀ (H' : Hp) (p : Addr), LI (off kp H') L (Sr59Neutral.step st ((kind :: nums) :: rows)).1 → CallAt CK (off kp H') c kind nums rows b → (∀ b o, kp b → H b = some o → H' b = some o) → ¬ kp p → H' p = some (.lst (intsV (Sr59Neutral.step st ((kind :: nums) :: rows)).2)) → Q (.ref p) H'
def sp_answers (K : PySem.W.Frag) : Sp := fun vs H Q _ => ∃ (a : Addr) (ns : List Int), vs = [.ref a] ∧ SqL K H a (intsV ns) ∧ ns.length ≤ 8600 ∧ PySr59.answers_asked ns = true ∧
  ∀ (H' : Hp) (p : Addr), H' p = some (.lst (intsV (PySr59.answers ns))) → Q (.ref p) H'
def FIELDS_Line0 : List Str := []
theorem ok_answers (F : Fun K "answers" "answers" s_answers f fd) (T : Txt K mg a_DIVISORS a_SHAPES) (ZL : Cls K CL) (ZK : Clz K CK FIELDS_Call)
    (mono : ∀ G G' L st, Ex G G' → LI G L st → LI G' L st) (ob : ∀ G L st, LI G L st → ∃ dx fs, G L = some (.ins CL dx fs) ∧ fs.lookup ("answer" : Str) = none)
    (O_read_call : Ok P w K mg base 3 "read_call" ["calls", "place"] (sp_read_call K CK)) (O_Line : OkC P w K mg base 1 "Line" CL ["self"] (sp_Line_init CL LI))
    (O_Line_answer : OkM P w K mg base 9 CL "answer" ["self", "call"] (sp_Line_answer CK LI)) : FnOk P w K mg base CX0 10 f fd ["calls"] (sp_answers K) := by
  refine F.ok sc_answers (fun vs H Q E h => ?_) (fun cdv A outer s H vs Q E hr h => ?_)
  · obtain ⟨a, ns, rfl, _⟩ := h
    rfl
  · obtain ⟨a, ns, rfl, hS, hlen, hask, q⟩ := h
    obtain ⟨cs0, hcs0, hasked, h60, hans, hshort⟩ := answers_of hask
    have c_Line := ZL
    refine ⟨_, (pss_cons (ps_set (i := 1) sc_answers.nd rfl (.inl rfl) (by_cls O_Line fun _ _ hm M hb F => pe_make0 M F (hr.mono (by decide)) rfl hm hb .nil pass0)) (pss_cons (ps_set (i := 2) sc_answers.nd rfl (.inl rfl) (pe_lst pa_nil)) (pss_cons (ps_set (i := 3) sc_answers.nd rfl (.inl rfl) pe_int) (pss_cons (ps_while PassesOwn.never (pt_cmpR op_lt (pv 3) (pe_callB (cr_lenK (K := K) rfl) (by rfl) T.n_len PySem.boot_len (pa_cons (pv 0) pa_nil)) (nomark _)) (pss_cons (ps_set (i := 4) sc_answers.nd rfl (.inl rfl) (by_fn O_read_call fun _ _ hm kp hb F => pe_call F (hr.mono (by decide)) rfl hm kp hb .nil pass0 (pa_cons (pv 0) (pa_cons (pv 3) pa_nil)))) (pss_cons (ps_set (i := 5) sc_answers.nd rfl (.inl rfl) (by_mth O_Line_answer fun _ _ hm hb F => pe_meth (pv 1) c_Line hm F (hr.mono (by decide)) hb .nil pass0 (pa_cons (pv 4) pa_nil))) (pss_cons (ps_expr (pe_bm PySem.F.plainAttrs_list PySem.F.slot_list_append PySem.F.type_list_append mt_append (pv 2) (pa_cons (pe_callB (cr_lenK (K := K) rfl) (by rfl) T.n_len PySem.boot_len (pa_cons (pv 5) pa_nil)) pa_nil))) (pss_cons (ps_expr (pe_bm PySem.F.plainAttrs_list PySem.F.slot_list_extend PySem.F.type_list_extend mt_extend (pv 2) (pa_cons (pv 5) pa_nil))) (pss_one (ps_set (i := 3) sc_answers.nd rfl (.inl rfl) (pe_fldK (K := K) rfl (pv 4) rfl)))))))) (pss_one (ps_ret (pv 2))))))), ?_⟩
    refine q_asgN (Pr := fun x G => LI G x none) (en_make ea_nil (fun x _ _ e h => mono _ _ _ _ e h) fun H1 x dx e nx nd ne Q' q' => ⟨x, dx, rfl, upd_same, q'⟩) fun x H1 hx e1 hL => ?_
    refine q_asgL (xs := intsV []) (el_lst ea_nil (by decide)) fun td H2 htd e2 h2 => ?_
    refine q_asg ev_c fun H3 e3 => ?_
    have htd0 : H td = none := fresh_back e1 htd
    -- what is kept: what was there, and the answers
    have hLI : LI (off (fun b => (∃ o, H b = some o) ∨ b = td) H3) x none := by
      refine mono _ _ _ _ (fun b o hb => off_of ?_ (e3 _ _ (e2 _ _ (newPart_ex _ _ hb)))) hL
      rintro (⟨o', h⟩ | rfl)
      · rw [newPart_none hb] at h
        cases h
      · rw [newPart_ex _ _ hb] at htd
        cases htd
    refine q_whl (fun u σ H' => ∃ (p : Nat) (st : Sr59.State) (Ts : List Int) (cs : List (List (List Int))) (fu : Nat) (v4 v5 : Option V), σ = [some (.ref a), some (.ref x), some (.ref td), some (.int (p : Int)), v4, v5] ∧ p ≤ ns.length ∧ u = ns.length - p ∧
      LI (off (fun b => (∃ o, H b = some o) ∨ b = td) H') x st ∧ H' td = some (.lst (intsV Ts)) ∧ Ex H H' ∧ PyFlat.calls PySr59.shape fu (ns.drop p) = some cs ∧ ns.length - p ≤ fu ∧ (∀ c ∈ cs, Sr59Neutral.asked1 c = true) ∧
      Ts ++ PyFlat.told (PyFlat.played Sr59Neutral.step st cs) = PySr59.answers ns) ns.length ?_ ?_
    · exact ⟨0, none, [], cs0, ns.length, none, none, rfl, Nat.zero_le _, rfl, hLI, e3 _ _ h2, (e1.trans e2).trans e3, hcs0, Nat.le_refl _, hasked, hans.symm⟩
    rintro u σ H4 ⟨p, st, Ts, cs, fu, v4, v5, rfl, hp, rfl, hL4, ht4, e4, hcs, hfu, hak, hT⟩
    have hS4 : SqL K H4 a (intsV ns) := ex_l e4 hS
    refine ⟨decide (p < ns.length), et_is (et_test (ev_op (ev_var rfl) (ev_len (ev_var rfl) hS4) rv_I0)) ?_, ?_, ?_⟩
    · rw [intsV_len, decide_eq_decide]
      omega
    · intro hlt H5 e5
      have hlt := of_decide_eq_true hlt
      -- the next call
      have hd := List.drop_eq_getElem_cons hlt
      obtain ⟨fu', rfl⟩ : ∃ fu', fu = fu' + 1 := ⟨fu - 1, by omega⟩
      rw [hd] at hcs
      obtain ⟨c, t, cs', hc1, hc2, rfl⟩ := calls_inv hcs
      rw [← hd] at hc1
      obtain ⟨kind, nums, rows, rfl⟩ : ∃ kind nums rows, c = (kind :: nums) :: rows := by
        rw [hd] at hc1
        obtain ⟨n, k, xs, _, _, _, rfl⟩ := call_inv hc1
        exact ⟨_, _, _, rfl⟩
      have hak1 := hak _ List.mem_cons_self
      refine q_asgC (ea_cons (ev_var rfl) (ea_cons (ev_var rfl) ea_nil)) fun H6 e6 => ⟨a, ns, p, kind, nums, t, rows, rfl, ex_l (e5.trans e6) hS4, hlen, hlt, hc1, fun y H7 b hy e7 hpb hb ht hK => ?_⟩
      have e47 : Ex H4 H7 := (e5.trans e6).trans e7
      have hL7 : LI (off (fun b => (∃ o, H b = some o) ∨ b = td) H7) x st := mono _ _ _ _ (off_mono e47) hL4
      have hK7 : Ex (newPart H6 H7) (off (fun b => (∃ o, H b = some o) ∨ b = td) H7) := by
        refine fun b o hb => off_of ?_ (newPart_ex _ _ hb)
        have hn := newPart_none hb
        rintro (⟨o', h⟩ | rfl)
        · rw [e6 _ _ (e5 _ _ (e4 _ _ h))] at hn
          cases hn
        · rw [e6 _ _ (e5 _ _ ht4)] at hn
          cases hn
      obtain ⟨dxL, fsL, hoL, hlL⟩ := ob _ _ _ hL7
      -- its answer
      refine q_asgM (ev_var rfl) (off_ex _ _ hoL) hlL (ea_cons (ev_var rfl) ea_nil) fun H8 e8 => ⟨x, y, fun b => (∃ o, H b = some o) ∨ b = td, off (fun b => (∃ o, H b = some o) ∨ b = td) H6, newPart H6 H7, st, kind, nums, rows, b, rfl, mono _ _ _ _ (off_mono (e5.trans e6)) hL4, off_mono (e7.trans e8), hK, fun b o hb => off_mono e8 _ _ (hK7 _ _ hb), fun b o hb => ?_, hak1, ?_, fun H9 pa hL9 hK9 kept9 npa hpa => ?_⟩
      · cases hn : newPart H6 H7 b with
        | none => rfl
        | some o' =>
          have := newPart_none hn
          rw [off_ex _ _ hb] at this
          cases this
      · rintro b (⟨o, h⟩ | rfl)
        · exact ⟨o, e8 _ _ (e47 _ _ (e4 _ _ h))⟩
        · exact ⟨_, e8 _ _ (e47 _ _ ht4)⟩
      have ht9 : H9 td = some (.lst (intsV Ts)) := kept9 td _ (.inr rfl) (e8 _ _ (e47 _ _ ht4))
      have e9 : Ex H H9 := fun b o hb => kept9 b o (.inl ⟨o, hb⟩) (e8 _ _ (e47 _ _ (e4 _ _ hb)))
      have ntp : pa ≠ td := fun e => npa (.inr e)
      have hplay : Ts ++ ((((Sr59Neutral.step st ((kind :: nums) :: rows)).2.length : Int) :: (Sr59Neutral.step st ((kind :: nums) :: rows)).2) ++ PyFlat.told (PyFlat.played Sr59Neutral.step (Sr59Neutral.step st ((kind :: nums) :: rows)).1 cs')) = PySr59.answers ns := hT
      have hsz : Ts.length + 1 + (Sr59Neutral.step st ((kind :: nums) :: rows)).2.length ≤ 10000000 := by
        have := congrArg List.length hplay
        rw [List.length_append, List.length_append, List.length_cons] at this
        omega
      refine q_app2 ht9 (ev_var rfl) (ev_len (ev_var rfl) (sq_of hpa)) (by rw [intsV_len]; show Ts.length < 2 ^ 24; omega) fun H10 e10 => ?_
      have ntp' : upd H10 td (.lst (intsV Ts ++ [.int ((intsV (Sr59Neutral.step st ((kind :: nums) :: rows)).2).length : Int)])) pa = some (.lst (intsV (Sr59Neutral.step st ((kind :: nums) :: rows)).2)) := by
        rw [upd_ne ntp]
        exact e10 _ _ hpa
      refine q_ext upd_same ntp' (ev_var rfl) (ev_var rfl) (by rw [List.length_append, intsV_len, intsV_len]; show Ts.length + 1 + _ ≤ 2 ^ 24; omega) fun H11 e11 => ?_
      -- place = call.behind
      obtain ⟨dxK, pn, pr, hk1, hk2, hk3⟩ := hK9
      have nyt : y ≠ td := fun e => off_not hk1 (.inr e)
      have hy11 : upd H11 td (.lst (intsV Ts ++ [.int ((intsV (Sr59Neutral.step st ((kind :: nums) :: rows)).2).length : Int)] ++ intsV (Sr59Neutral.step st ((kind :: nums) :: rows)).2)) y = some (.ins CK dxK (kF kind pn pr b)) := by
        rw [upd_ne nyt]
        refine e11 _ _ ?_
        rw [upd_ne nyt]
        exact e10 _ _ (off_ex _ _ hk1)
      refine s_asg (ev_fld (ev_var rfl) hy11 ZK.cls (ZK.no _ (by simp [FIELDS_Call])) (kF_behind kind pn pr b)) fun H12 e12 => ?_
      refine ⟨ns.length - b, by omega, b, (Sr59Neutral.step st ((kind :: nums) :: rows)).1, Ts ++ ((((Sr59Neutral.step st ((kind :: nums) :: rows)).2.length : Int) :: (Sr59Neutral.step st ((kind :: nums) :: rows)).2)), cs', fu', some (.ref y), some (.ref pa), rfl, hb, rfl, ?_, ?_, ?_, ?_, by omega, fun c hc => hak c (List.mem_cons_of_mem _ hc), ?_⟩
      · refine mono _ _ _ _ (off_mono e12) ?_
        rw [off_kept (.inr rfl)]
        refine mono _ _ _ _ (off_mono e11) ?_
        rw [off_kept (.inr rfl)]
        exact mono _ _ _ _ (off_mono e10) hL9
      · refine e12 _ _ ?_
        rw [upd_same, intsV_len]
        unfold intsV
        rw [List.map_append, List.append_assoc]
        rfl
      · exact (Ex.mut ((Ex.mut (e9.trans e10) htd0).trans e11) htd0).trans e12
      · rw [← ht]
        exact hc2
      · rw [List.append_assoc]
        exact hplay
    · intro hlt H5 e5
      have hlt := of_decide_eq_false hlt
      rw [List.drop_eq_nil_of_le (by omega)] at hcs
      have hn := calls_nil hcs
      subst hn
      have hT : Ts ++ [] = PySr59.answers ns := hT
      rw [List.append_nil] at hT
      refine s_ret (ev_var rfl) fun H6 e6 => q H6 td ?_
      rw [← hT]
      exact e6 _ _ (e5 _ _ ht4)
end
end Few
set_option Elab.async false
set_option linter.all false
set_option maxRecDepth 100000
set_option maxHeartbeats 2000000
namespace Few
open PySem PySem.Spec PyProof.Rows L2 Evl
section
variable {X : Cx} {K : PySem.W.Frag} {a e e2 : Expr} {es elts : List Expr} {pos p p2 q tpos : Pos} {ta : TE} {t : TA} {k kk n : Nat} {tg : TGs}
theorem pg_tupK (hK : X.K = K) (hc : X.calm = true) (h : PGs X es tg) (hn : (assignEach es X.env).length = n := by rfl) (hst : (assignEach es X.env).findIdx? (·.1) = none := by rfl) : PG X (.Tuple es k pos) (gTup K n tg) := by
  subst hK
  exact pg_tup hc h hn hst
theorem pi_zipK (hK : X.K = K) (hg : Gl X "zip") (hm : X.mg "zip" = none) (ha : PA X [e, e2] t)
    (hs : starEach [e, e2] X.env = (false, eval e X.env) :: starEach [e2] X.env := by rfl) (hpl : (backTo pos (starEach [e2] X.env)).any (·.1) = false := by rfl) :
    PI X (.Tuple elts kk tpos) (.Call (.Name "zip" p) [e, e2] [] pos) (iZip K t) := by
  subst hK
  exact pi_zip hg hm ha hs hpl
theorem cr_maxK (hK : X.K = K) (hc : X.calm = true) : CallR X (.builtin "max") (rMax K) := by
  subst hK
  exact cr_max hc
theorem cr_minK (hK : X.K = K) (hc : X.calm = true) : CallR X (.builtin "min") (rMin K) := by
  subst hK
  exact cr_min hc
/-! ### len(set(xs)): how many different ones -/
theorem met_mem (ns : List Int) : ∀ (i : Nat) (x : Int), i ≤ ns.length → (x ∈ PyProof.Rows.firstMet (fun i => ns.getD i 0) i ↔ x ∈ ns.take i)
  | 0, x, _ => by
    show x ∈ [] ↔ _
    simp
  | i + 1, x, hi => by
    have ih := met_mem ns i
    have e1 : ns[i]? = some (ns.getD i 0) := by
      rw [List.getD_eq_getElem?_getD, List.getElem?_eq_getElem (by omega)]
      rfl
    rw [PyProof.Rows.firstMet_succ, List.take_add_one, e1]
    show x ∈ (if (PyProof.Rows.firstMet (fun i => ns.getD i 0) i).any (· == ns.getD i 0) then PyProof.Rows.firstMet (fun i => ns.getD i 0) i else PyProof.Rows.firstMet (fun i => ns.getD i 0) i ++ [ns.getD i 0]) ↔ x ∈ ns.take i ++ [ns.getD i 0]
    rw [List.mem_append, ← ih x (by omega), List.mem_singleton]
    split
    · rename_i hb
      obtain ⟨y, hy, ey⟩ := List.any_eq_true.mp hb
      have ey : y = ns.getD i 0 := eq_of_beq ey
      constructor
      · exact fun h => .inl h
      · rintro (h | h)
        · exact h
        · rw [h, ← ey]
          exact hy
    · rw [List.mem_append, List.mem_singleton]
theorem met_nodup (ns : List Int) : ∀ i, (PyProof.Rows.firstMet (fun i => ns.getD i 0) i).Nodup
  | 0 => List.nodup_nil
  | i + 1 => by
    have ih := met_nodup ns i
    rw [PyProof.Rows.firstMet_succ]
    show (if (PyProof.Rows.firstMet (fun i => ns.getD i 0) i).any (· == ns.getD i 0) then PyProof.Rows.firstMet (fun i => ns.getD i 0) i else PyProof.Rows.firstMet (fun i => ns.getD i 0) i ++ [ns.getD i 0]).Nodup
    split
    · exact ih
    · rename_i hb
      rw [List.nodup_append]
      refine ⟨ih, by simp, fun x hx y hy => ?_⟩
      rw [List.mem_singleton] at hy
      subst hy
      intro e
      exact hb (List.any_eq_true.mpr ⟨x, hx, by rw [e]; exact beq_self_eq_true _⟩)
theorem met_len (ns : List Int) : (PyProof.Rows.firstMet (fun i => ns.getD i 0) ns.length).length = ns.eraseDups.length :=
  same_len (met_nodup ns _) (dedup_nodup ns) fun x => by rw [met_mem ns _ x (Nat.le_refl _), List.take_length, List.mem_eraseDups]
def tLenSetN (K : PySem.W.Frag) (ta : TE) : TE := fun σ H Q => ta σ H fun x H1 => ∃ (l : Addr) (ns : List Int), x = .ref l ∧ SqL K H1 l (ns.map V.int) ∧ ns.length ≤ 4000 ∧ Q (.int (ns.eraseDups.length : Nat)) H1
theorem pe_lenSetN (hK : X.K = K) (hg : Gl X "len") (hm : X.mg "len" = none) (hg2 : Gl X "set") (hm2 : X.mg "set" = none) (ha : PE X a ta) (hc : X.calm = true := by rfl)
    (na : starEach [a] X.env = (false, eval a X.env) :: starEach [] X.env := by rfl) : PE X (.Call (.Name "len" p) [.Call (.Name "set" p2) [a] [] q] [] pos) (tLenSetN K ta) := by
  subst hK
  refine ⟨fun pins s σ H Q I h => ?_⟩
  refine Call_ (ld_blt I hg hm boot_len ?_)
  refine PyProof.Rows.callWith_builtin1 (PyProof.Rows.args_cons ?_ rfl) rfl rfl
  refine Call_ (ld_blt I hg2 hm2 boot_set ?_)
  refine PyProof.Rows.callWith_type1 (PyProof.Rows.args_cons (thn (ha.run pins s σ H _ I h) fun v s1 ⟨x, H1, I1, r1, q1⟩ => PyProof.Rows.args_nil ?_) na) na rfl
  obtain ⟨l, ns, rfl, hq, hl, q1⟩ := q1
  cases r1
  obtain ⟨its, r, pl, hz⟩ := I1.list hq
  have hlen : its.toArray.size = ns.length := by rw [List.size_toArray, ← r.length, List.length_map]
  refine call_set_list (I1.ok.hd hc) pl.isList (by simpa using RZ.intsAre_vals r) (by rw [hlen]; unfold scanBound; omega) fun h' tk hS hk => ?_
  refine PyProof.Rows.args_nil ?_
  rw [hlen] at hS
  have hle := PyProof.Rows.firstMet_length_le (fun i => ns.getD i 0) ns.length
  obtain ⟨o, es, ep, t, ho, hex, hd, _, _, _, hf, hn⟩ := hS
  have I2 : Inv X pins σ H1 { s1 with heap := h', toks := tk } := I1.kept fun b o e => hk b o (Heap.lt_size e) e
  exact call_len_set ho hex hd hf (by rw [hn] <;> omega) ⟨.int ns.eraseDups.length, H1, I2.tok _, ⟨_, by rw [hn, met_len]⟩, q1⟩
end
/-! ### more of what evaluates to what -/
section
variable {K : PySem.W.Frag} {σ : L2.St} {H : Hp} {ta tb te : TE} {b : Addr} {xs ys : List V}
theorem ev_lenSet {ns : List Int} (h : EvL te σ H (intsV ns)) (hl : ns.length ≤ 4000) : Ev (tLenSetN K te) σ H (.int (ns.eraseDups.length : Nat)) := fun H1 e Q q =>
  h H1 e _ fun p H2 _ e2 h2 => ⟨p, ns, rfl, sq_of h2, hl, q H2 e2⟩
theorem ev_lenSetR {a : Addr} {ns : List Int} (h : Ev te σ H (.ref a)) (hs : H a = some (.lst (intsV ns))) (hl : ns.length ≤ 4000) : Ev (tLenSetN K te) σ H (.int (ns.eraseDups.length : Nat)) := fun H1 e Q q =>
  h H1 e _ fun H2 e2 => ⟨a, ns, rfl, sq_of (e2 _ _ (e _ _ hs)), hl, q H2 e2⟩
/-- a + b: the first an old list, the second a new one; both new -/
theorem el_cat2 {a : Addr} (ha : Ev ta σ H (.ref a)) (hx : H a = some (.lst xs)) (hb : EvL tb σ H ys) (hz : xs.length + ys.length ≤ 100000) : EvL (tOp rCat ta tb) σ H (xs ++ ys) := fun H1 e Q q =>
  ha H1 e _ fun H2 e2 => hb H2 (e.trans e2) _ fun p H3 hp e3 h3 => ⟨a, p, xs, ys, rfl, rfl, e3 _ _ (e2 _ _ (e _ _ hx)), h3, sz_of hz, fun p' hp' => q p' _ (fresh_back (e2.trans e3) hp') ((e2.trans e3).trans (Ex.new hp')) upd_same⟩
theorem el_catN (ha : EvL ta σ H xs) (hb : EvL tb σ H ys) (hz : xs.length + ys.length ≤ 100000) : EvL (tOp rCat ta tb) σ H (xs ++ ys) := fun H1 e Q q =>
  ha H1 e _ fun p H2 hp e2 h2 => hb H2 (e.trans e2) _ fun p' H3 hp' e3 h3 => ⟨p, p', xs, ys, rfl, rfl, e3 _ _ h2, h3, sz_of hz, fun r hr => q r _ (fresh_back (e2.trans e3) hr) ((e2.trans e3).trans (Ex.new hr)) upd_same⟩
/-- a slice of a new list -/
theorem el_slN {tl th : TO} {lo hi : Option Int} (h : EvL te σ H xs) (h1 : EvO tl σ H lo) (h2 : EvO th σ H hi) : EvL (tSl (rSlL K) te tl th) σ H (cutV xs lo hi) := fun H1 e _ q =>
  h H1 e _ fun a H2 ha e2 hx => h1 H2 (e.trans e2) _ fun H3 e3 => h2 H3 ((e.trans e2).trans e3) _ fun H4 e4 =>
    ⟨a, xs, rfl, sq_of (e4 _ _ (e3 _ _ hx)), fun p hp => q p _ (fresh_back ((e2.trans e3).trans e4) hp) (((e2.trans e3).trans e4).trans (Ex.new hp)) upd_same⟩
/-- [f(x, y) for x, y in zip(xs, ys)], both lists new -/
theorem el_lcZ {j1 j2 : Nat} {vs : List Nat} (v : Nat → V) (ha : EvL ta σ H xs) (hb : EvL tb σ H ys) (hl : xs.length = ys.length) (hz : xs.length ≤ 40000) (hw : ∀ x y, wipe (((wipe σ vs).set j1 (some x)).set j2 (some y)) vs = wipe σ vs)
    (he : ∀ (i : Nat) (x y : V) H1, Ex H H1 → xs[i]? = some x → ys[i]? = some y → Ev te (((wipe σ vs).set j1 (some x)).set j2 (some y)) H1 (v i)) :
    EvL (tLc (iZip K (tCons ta (tCons tb tNil))) (gTup K 2 (gCons (gName j1) (gCons (gName j2) gNil))) tYes te vs) σ H ((List.range xs.length).map v) := fun H0 e Q q =>
  ha H0 e _ fun a H1 na e1 hx => hb H1 (e.trans e1) _ fun b H2 nb e2 hy => ⟨a, b, xs, ys, rfl, sq_of (e2 _ _ hx), sq_of hy, fun Dl hD =>
    lc_it (walk_zip (K := K) (a := a) (b := b) (xs := xs) (ys := ys) (n := xs.length) (by omega)) (Cw H2 (fun _ => true) v Dl) ⟨hD, Ex.new hD, upd_same⟩ (fun i H' _ p => ⟨sq_of (p.2.1 _ _ (e2 _ _ hx)), sq_of (p.2.1 _ _ hy)⟩) (fun i x H3 H4 hi p hY => by
      obtain ⟨T, x1, x2, rfl, nT, rfl, y1, y2⟩ := hY
      refine ⟨T, [x1, x2], rfl, st_of upd_same, rfl, x1, [x2], rfl, x2, [], rfl, rfl, hw x1 x2, ?_⟩
      have nTD : T ≠ Dl := fun ee => by
        rw [ee, p.2.2] at nT
        cases nT
      have p' : Cw H2 (fun _ => true) v Dl i (upd H3 T (.tup [x1, x2])) := ⟨p.1, p.2.1.trans (Ex.new nT), by rw [upd_ne nTD.symm]; exact p.2.2⟩
      exact cw_turn p' (by omega) (fun H1 _ Q q => q H1 (Ex.refl H1)) (fun _ => he i x1 x2 H2 ((e.trans e1).trans e2) y1 y2)) (fun H' p => by
      have hg := p.2.2
      rw [given_all] at hg
      exact q Dl H' (fresh_back (e1.trans e2) p.1) ((e1.trans e2).trans p.2.1) hg)⟩
theorem ev_max {a : Addr} {ns : List Int} {m : Int} (h : Ev te σ H (.ref a)) (hs : H a = some (.lst (intsV ns))) (hm : m ∈ ns) (hb : ∀ y ∈ ns, y ≤ m) : Ev (tCB (rMax K) (tCons te tNil)) σ H (.int m) := fun H1 e Q q =>
  h H1 e _ fun H2 e2 => ⟨a, ns, rfl, sq_of (e2 _ _ (e _ _ hs)), List.length_pos_of_mem hm, fun m' hm' hb' => by
    have : m' = m := Int.le_antisymm (hb m' hm') (hb' m hm)
    rw [this]
    exact q H2 e2⟩
theorem ev_min {a : Addr} {ns : List Int} {m : Int} (h : Ev te σ H (.ref a)) (hs : H a = some (.lst (intsV ns))) (hm : m ∈ ns) (hb : ∀ y ∈ ns, m ≤ y) : Ev (tCB (rMin K) (tCons te tNil)) σ H (.int m) := fun H1 e Q q =>
  h H1 e _ fun H2 e2 => ⟨a, ns, rfl, sq_of (e2 _ _ (e _ _ hs)), List.length_pos_of_mem hm, fun m' hm' hb' => by
    have : m' = m := Int.le_antisymm (hb' m hm) (hb m' hm')
    rw [this]
    exact q H2 e2⟩
theorem flat_ints (ns : List Int) : (intsV ns).all flatV = true := by
  unfold intsV
  rw [List.all_map]
  exact List.all_eq_true.mpr fun _ _ => rfl
theorem ev_index {a : Addr} {ns : List Int} {y : Int} {j : Nat} (h : Ev ta σ H (.ref a)) (hs : H a = some (.lst (intsV ns))) (hy : Ev tb σ H (.int y)) (hj : ns[j]? = some y) (hn : ∀ m, m < j → ns[m]? ≠ some y) :
    Ev (tBM K "list" (rIndex K) ta (tCons tb tNil)) σ H (.int (j : Nat)) := fun H1 e Q q =>
  h H1 e _ fun H2 e2 => ⟨Or.inl ⟨rfl, _, sq_of (e2 _ _ (e _ _ hs))⟩, hy H2 (e.trans e2) _ fun H3 e3 => ⟨a, intsV ns, .int y, j, .int y, rfl, rfl, sq_of (e3 _ _ (e2 _ _ (e _ _ hs))), rfl, flat_ints ns, by unfold intsV; rw [List.getElem?_map, hj]; rfl, by show decide (y = y) = true; exact decide_eq_true rfl, fun m z hm hz => by
    obtain ⟨n, hn1, rfl⟩ := intsV_of hz
    show decide (n = y) = false
    exact decide_eq_false fun e => hn m hm (e ▸ hn1), q H3 (e2.trans e3)⟩⟩
theorem rv_eqD {a b : Addr} {x1 x2 y1 y2 : Int} (ha : H a = some (.lst (intsV [x1, x2]))) (hb : H b = some (.lst (intsV [y1, y2]))) : RV (rEqD K) (.ref a) (.ref b) H (.bl (x1 == y1 && x2 == y2)) := fun H1 e Q q =>
  ⟨.list [.int x1, .int x2], .list [.int y1, .int y2], .lst (sq_of (e _ _ ha)) (.cons (.int _) (.cons (.int _) .nil)), .lst (sq_of (e _ _ hb)) (.cons (.int _) (.cons (.int _) .nil)), rfl, rfl, by
    have : PyData.eqv (.list [.int x1, .int x2]) (.list [.int y1, .int y2]) = (x1 == y1 && x2 == y2) := by
      show (x1 == y1 && (x2 == y2 && true)) = _
      rw [Bool.and_true]
    rw [this]
    exact q H1 (Ex.refl H1)⟩
end
end Few
set_option Elab.async false
set_option linter.all false
set_option maxRecDepth 100000
set_option maxHeartbeats 2000000
namespace Few
open PySem PySem.Spec PyProof.Rows L2 Evl
def fracI (f : Sr58.Frac) : List Int := [f.n, (f.d : Int)]
theorem gcd_step (g s : Nat) : Nat.gcd s (g % s) = Nat.gcd g s := by
  rw [Nat.gcd_comm g s, Nat.gcd_rec s g, Nat.gcd_comm]
theorem dec_int {a b : Int} : decide (V.int a = V.int b) = decide (a = b) := by
  rw [decide_eq_decide]
  exact ⟨fun h => V.int.inj h, fun h => by rw [h]⟩
theorem cut_from (ns : List Int) (t : Nat) : cutV (intsV ns) (some (t : Int)) none = intsV (ns.drop t) := by
  unfold cutV
  rw [HT.sIx_nat, HT.sIx_none, List.take_of_length_le (by rw [List.length_drop]; exact Nat.le_refl _)]
  unfold intsV
  rw [List.map_drop]
  by_cases h : t ≤ (ns.map V.int).length
  · rw [Nat.min_eq_left h]
  · rw [Nat.min_eq_right (by omega), List.drop_eq_nil_of_le (Nat.le_refl _), List.drop_eq_nil_of_le (by omega)]
section
variable {P : Program} {w : World} {K : PySem.W.Frag} {mg : Str → Option Value} {base : Heap} {a_DIVISORS a_SHAPES CF CC : Addr} {f : Addr} {fd : FuncData}
/-! ### fractions -/
def sp_greatest_common : Sp := fun vs H Q _ => ∃ x y : Nat, vs = [.int x, .int y] ∧ RetV (.int (Nat.gcd x y : Nat)) H Q
theorem ok_greatest_common (F : Fun K "greatest_common" "greatest_common" s_greatest_common f fd) : FnOk P w K mg base CX0 1 f fd ["x", "y"] sp_greatest_common := by
  refine F.ok sc_greatest_common (fun vs H Q E h => ?_) (fun cdv A outer s0 H vs Q E hr h => ?_)
  · obtain ⟨x, y, rfl, _⟩ := h
    rfl
  · obtain ⟨x, y, rfl, q⟩ := h
    refine ⟨_, (pss_cons (ps_set (i := 2) sc_greatest_common.nd rfl (.inl rfl) (pv 0)) (pss_cons (ps_set (i := 3) sc_greatest_common.nd rfl (.inl rfl) (pv 1)) (pss_cons (ps_while PassesOwn.never (pt_cmpR op_gt (pv 3) pe_int (nomark _)) (pss_cons (ps_set (i := 4) sc_greatest_common.nd rfl (.inl rfl) (pe_op op_mod (pv 2) (pv 3))) (pss_cons (ps_set (i := 2) sc_greatest_common.nd rfl (.inl rfl) (pv 3)) (pss_one (ps_set (i := 3) sc_greatest_common.nd rfl (.inl rfl) (pv 4)))))) (pss_one (ps_ret (pv 2)))))), ?_⟩
    refine q_asg (ev_var rfl) fun H1 e1 => ?_
    refine q_asg (ev_var rfl) fun H2 e2 => ?_
    refine q_whl (fun u σ H' => ∃ (g : Nat) (v : Option V), Nat.gcd g u = Nat.gcd x y ∧ σ = [some (.int x), some (.int y), some (.int g), some (.int u), v] ∧ Ex H H') y ⟨x, none, rfl, rfl, e1.trans e2⟩ ?_
    rintro u σ H3 ⟨g, v, hg, rfl, e3⟩
    refine ⟨decide (0 < u), et_is (et_test (ev_op (ev_var rfl) ev_c rv_I0)) ?_, ?_, ?_⟩
    · rw [decide_eq_decide]
      omega
    · intro hc H4 e4
      have hc' : 0 < u := of_decide_eq_true hc
      refine q_asg (v := .int ((g % u : Nat) : Int)) (ev_is (ev_op (ev_var rfl) (ev_var rfl) (rv_I ?_)) (by rw [Int.natCast_emod])) fun H5 e5 => ?_
      · show (0 : Int) < (u : Int)
        omega
      refine q_asg (ev_var rfl) fun H6 e6 => ?_
      refine s_asg (ev_var rfl) fun H7 e7 => ?_
      exact ⟨g % u, Nat.mod_lt _ hc', u, some (.int ((g % u : Nat) : Int)), (gcd_step g u).trans hg, rfl, (((e3.trans e4).trans e5).trans e6).trans e7⟩
    · intro hc H4 e4
      have hc' : u = 0 := by
        have := of_decide_eq_false hc
        omega
      subst hc'
      rw [Nat.gcd_zero_right] at hg
      rw [← hg] at q
      exact s_ret (ev_var rfl) fun H5 e5 => q.go ((e3.trans e4).trans e5)
def sp_as_fraction : Sp := fun vs H Q _ => ∃ (u : Int) (l : Nat), vs = [.int u, .int l] ∧ 0 < l ∧ l < 2 ^ 100 ∧ RetL (intsV (fracI (Sr58.frac u l))) H Q
theorem ok_as_fraction (F : Fun K "as_fraction" "as_fraction" s_as_fraction f fd) (T : Txt K mg a_DIVISORS a_SHAPES) (O_greatest_common : Ok P w K mg base 1 "greatest_common" ["x", "y"] sp_greatest_common) :
    FnOk P w K mg base CX0 2 f fd ["upper", "lower"] sp_as_fraction := by
  refine F.ok sc_as_fraction (fun vs H Q E h => ?_) (fun cdv A outer s0 H vs Q E hr h => ?_)
  · obtain ⟨u, l, rfl, _⟩ := h
    rfl
  · obtain ⟨u, l, rfl, hl, hl2, q⟩ := h
    refine ⟨_, (pss_cons (ps_set (i := 2) sc_as_fraction.nd rfl (.inl rfl) (by_fn O_greatest_common fun _ _ hm kp hb F => pe_call F (hr.mono (by decide)) rfl hm kp hb .nil pass0 (pa_cons (pe_callB call_abs (by rfl) T.n_abs (by decide +kernel) (pa_cons (pv 0) pa_nil)) (pa_cons (pv 1) pa_nil)))) (pss_one (ps_ret (pe_lst (pa_cons (pe_op op_fdivW (pv 0) (pv 2)) (pa_cons (pe_op op_fdivW (pv 1) (pv 2)) pa_nil)))))), ?_⟩
    have hg : 0 < Nat.gcd u.natAbs l := Nat.gcd_pos_of_pos_right _ hl
    have hg2 : Nat.gcd u.natAbs l ≤ l := Nat.le_of_dvd hl (Nat.gcd_dvd_right _ _)
    have hcd : ∀ i : Int, CDivW i ((Nat.gcd u.natAbs l : Nat) : Int) := fun i => wide_div (b := 100) (by omega) (by rw [Int.natAbs_natCast]; omega) (by decide) (by decide)
    refine q_asg (v := .int ((Nat.gcd u.natAbs l : Nat) : Int)) (ev_fn (ea_cons (x := .int ((u.natAbs : Nat) : Int)) (ev_is (ev_cb (ea_cons (ev_var rfl) ea_nil) fun H1 e1 Q q => ⟨u, rfl, q H1 (Ex.refl H1)⟩) ?_) (ea_cons (ev_var rfl) ea_nil)) fun H1 e1 Q q E => ⟨u.natAbs, l, rfl, q⟩) fun H1 e1 => ?_
    · congr 1
      split <;> omega
    refine s_retL (xs := intsV (fracI (Sr58.frac u l))) ?_ fun p H2 hp e2 h2 => q p H2 (fresh_back e1 hp) (e1.trans e2) h2
    rw [frac_pos hl]
    refine el_lst (ea_cons (ev_op (ev_var rfl) (ev_var rfl) (rv_I (hcd _))) (ea_cons (ev_is (ev_op (ev_var rfl) (ev_var rfl) (rv_I (hcd _))) ?_) ea_nil)) (by show 2 ≤ 100000; decide)
    rw [Int.natCast_ediv]
/-! ### what is so of a row -/
theorem all_take {l : List Nat} {p : Nat → Bool} {i n : Nat} (h : l[i]? = some n) : (l.take (i + 1)).all p = ((l.take i).all p && p n) := by
  rw [List.take_add_one, h, List.all_append]
  show (_ && ([n].all p)) = _
  rw [List.all_cons, List.all_nil, Bool.and_true]
def sp_is_all : Sp := fun vs H Q _ => ∃ (a b : Addr) (s : Sr59.Space) (x : Nat) (l : List Nat), vs = [.ref a, .ref b] ∧ H a = some (.lst (rowV s x)) ∧ H b = some (.lst (natsV l)) ∧ (∀ t ∈ l, t < 2 * 2 ^ s.m) ∧ RetV (.int (Sr58.bit (Sr58.holds (Sr59.row s x) (.all l)))) H Q
theorem ok_is_all (F : Fun K "is_all" "is_all" s_is_all f fd) (T : Txt K mg a_DIVISORS a_SHAPES) : FnOk P w K mg base CX0 1 f fd ["row", "lie"] sp_is_all := by
  refine F.ok sc_is_all (fun vs H Q E h => ?_) (fun cdv A outer s0 H vs Q E hr h => ?_)
  · obtain ⟨a, b, s, x, l, rfl, _⟩ := h
    rfl
  · obtain ⟨a, b, s, x, l, rfl, ha, hb, hl, q⟩ := h
    rw [holds_all hl] at q
    refine ⟨_, (pss_cons (ps_for PassesOwn.never rfl (pi_listK (K := K) rfl (pv 1)) (pg_name (i := 2) sc_is_all.nd rfl (.inl rfl)) (pss_one (ps_if (pt_cmpR op_ne (pe_ixL (K := K) rfl (pv 0) (pe_op op_fdiv (pv 2) pe_int) (fun _ _ => rfl)) (pe_op op_mod (pv 2) pe_int) (nomark _)) (pss_one (ps_ret pe_int)) pss_nil))) (pss_one (ps_ret pe_int))), ?_⟩
    refine q_forLn (xs := natsV l) (ev_var rfl) (sq_of hb) (fun i σ H' => ∃ v, σ = [some (.ref a), some (.ref b), v] ∧ Ex H H' ∧ ((l.take i).all fun t => coinN s x (t / 2) == t % 2) = true) ?_ ?_ ?_ ?_
    · exact fun H2 e2 => ⟨none, rfl, e2, rfl⟩
    · rintro i σ H2 _ ⟨v, rfl, e2, _⟩
      exact sq_of (e2 _ _ hb)
    · rintro i y σ H2 hi ⟨v, rfl, e2, hu⟩
      obtain ⟨n, hn, rfl⟩ := natsV_of hi
      have hnl := hl n (List.mem_of_getElem? hn)
      refine s_when (b := !(coinN s x (n / 2) == n % 2)) (et_is (et_test (ev_op (ev_op (ev_var rfl) (ev_op (ev_var rfl) ev_c (rv_I ⟨by decide, by decide⟩)) (rv_ixL (v := .int ((coinN s x (n / 2) : Nat) : Int)) (sq_of (e2 _ _ ha)) ?_)) (ev_op (ev_var rfl) ev_c (rv_I (by decide))) (rv_ne rfl))) ?_) ?_ ?_
      · have e : (n : Int) / 2 = ((n / 2 : Nat) : Int) := by omega
        rw [e]
        exact at_nat (rowV_at (by omega))
      · rw [dec_int]
        congr 1
        have e : (n : Int) % 2 = ((n % 2 : Nat) : Int) := by omega
        rw [e]
        by_cases hh : coinN s x (n / 2) = n % 2
        · rw [hh, decide_eq_true rfl]
          exact (beq_self_eq_true _).symm
        · rw [decide_eq_false (by omega)]
          exact (beq_eq_false_iff_ne.mpr hh).symm
      · intro hb2 H3 e3
        have hb2 := not_false' hb2
        have : (l.all fun t => coinN s x (t / 2) == t % 2) = false := by
          cases e : (l.all fun t => coinN s x (t / 2) == t % 2)
          · rfl
          · rw [List.all_eq_true.mp e n (List.mem_of_getElem? hn)] at hb2
            cases hb2
        rw [this] at q
        exact s_ret ev_c fun H4 e4 => q.go ((e2.trans e3).trans e4)
      · intro hb2 H3 e3
        exact ⟨some (.int n), rfl, e2.trans e3, by rw [all_take hn, hu, not_true hb2]; rfl⟩
    · rintro σ H2 ⟨v, rfl, e2, hu⟩
      rw [natsV_len, List.take_length] at hu
      rw [hu] at q
      exact s_ret ev_c fun H3 e3 => q.go (e2.trans e3)
def sp_is_many : Sp := fun vs H Q _ => ∃ (a b : Addr) (s : Sr59.Space) (x t : Nat) (l : List Nat), vs = [.ref a, .ref b, .int t] ∧ H a = some (.lst (rowV s x)) ∧ H b = some (.lst (natsV l)) ∧ (∀ c ∈ l, c < 2 ^ s.m) ∧ l.length ≤ 70 ∧ RetV (.int (Sr58.bit (Sr58.holds (Sr59.row s x) (.many t l)))) H Q
theorem ok_is_many (F : Fun K "is_many" "is_many" s_is_many f fd) (T : Txt K mg a_DIVISORS a_SHAPES) : FnOk P w K mg base CX0 1 f fd ["row", "chosen", "t"] sp_is_many := by
  refine F.ok sc_is_many (fun vs H Q E h => ?_) (fun cdv A outer s0 H vs Q E hr h => ?_)
  · obtain ⟨a, b, s, x, t, l, rfl, _⟩ := h
    rfl
  · obtain ⟨a, b, s, x, t, l, rfl, ha, hb, hl, hlen, q⟩ := h
    rw [holds_many hl] at q
    refine ⟨_, (pss_one (ps_ret (pe_ifExp (pt_cmpR op_ge (pe_callB (cr_sumK (K := K) rfl rfl) (by rfl) T.n_sum (by decide +kernel) (pa_cons (pe_lc (own := [("coin", 3)]) (g := gName 3) (tt := tYes) rfl sc_is_many.nd (pi_listK (K := K) rfl (pv 1)) (blkOk_by (by kernel_rfl)) (fun _ _ _ _ _ => pg_name (i := 3) sc_is_many.nd rfl (Or.inl rfl)) (fun _ _ _ _ _ => pts_nil) (fun _ _ _ _ _ => (pe_ixL (K := K) rfl (pv 0) (pv 3) (fun _ _ => rfl)))) pa_nil)) (pv 2) (nomark _)) pe_int pe_int))), ?_⟩
    have hsum : Ev (tCB (rSum K) (tCons (tLc (iList K (tVar 1)) (gName 3) tYes (tOp (rIxL K) (tVar 0) (tVar 3)) [3]) tNil)) (start ["row", "chosen", "t", "coin"] [.ref a, .ref b, .int t]) H (.int (((l.map (coinN s x)).map fun (n : Nat) => (n : Int)).sum)) := by
      refine ev_sum ?_
      have hin : given (natsV l).length (fun _ => true) (fun j => V.int ((coinN s x (l.getD j 0) : Nat) : Int)) = intsV ((l.map (coinN s x)).map fun (n : Nat) => (n : Int)) := by
        rw [given_all, natsV_len]
        unfold intsV
        rw [List.map_map, List.map_map]
        refine List.ext_getElem? fun j => ?_
        rw [List.getElem?_map, List.getElem?_map]
        by_cases hj : j < l.length
        · rw [List.getElem?_range hj, List.getElem?_eq_getElem hj]
          simp [List.getD_eq_getElem?_getD, hj]
        · rw [List.getElem?_eq_none (by rw [List.length_range]; omega), List.getElem?_eq_none (by omega)]
          rfl
      rw [← hin]
      refine el_lcL (fun _ => true) (fun j => V.int ((coinN s x (l.getD j 0) : Nat) : Int)) (ev_var rfl) (sq_of hb) (by rw [natsV_len]; omega) (fun _ => rfl) (fun _ _ _ _ _ H1 _ Q q => q H1 (Ex.refl H1)) ?_
      intro j y H2 e2 hj _
      obtain ⟨n, hn, rfl⟩ := natsV_of hj
      have hn2 : l.getD j 0 = n := by rw [List.getD_eq_getElem?_getD, hn]; rfl
      rw [hn2]
      exact ev_op (ev_var rfl) (ev_var rfl) (rv_ixL (sq_of (e2 _ _ ha)) (at_nat (rowV_at (hl n (List.mem_of_getElem? hn)))))
    refine s_ret (ev_if (b := decide (t ≤ (l.map (coinN s x)).sum)) (et_is (et_test (ev_op hsum (ev_var rfl) rv_I0)) ?_) (fun hb => ?_) (fun hb => ?_)) fun H1 e1 => q.go e1
    · rw [sum_cast, decide_eq_decide]
      omega
    · rw [hb]
      exact ev_c
    · rw [hb]
      exact ev_c
/-! ### ways by how many are 1 -/
def sp_ways_by_ones : Sp := fun vs H Q _ => ∃ n : Nat, vs = [.int n] ∧ n ≤ 64 ∧ RetL (natsV (binRow n)) H Q
theorem ok_ways_by_ones (F : Fun K "ways_by_ones" "ways_by_ones" s_ways_by_ones f fd) (T : Txt K mg a_DIVISORS a_SHAPES) : FnOk P w K mg base CX0 1 f fd ["how_many"] sp_ways_by_ones := by
  refine F.ok sc_ways_by_ones (fun vs H Q E h => ?_) (fun cdv A outer s0 H vs Q E hr h => ?_)
  · obtain ⟨n, rfl, _⟩ := h
    rfl
  · obtain ⟨n, rfl, hn, q⟩ := h
    refine ⟨_, (pss_cons (ps_set (i := 1) sc_ways_by_ones.nd rfl (.inl rfl) (pe_lst (pa_cons pe_int pa_nil))) (pss_cons (ps_for PassesOwn.never rfl (pi_range1 rfl T.n_range (pa_cons (pv 0) pa_nil)) (pg_name (i := 2) sc_ways_by_ones.nd rfl (.inl rfl)) (pss_one (ps_setLc (i := 1) (own := [("one_fewer", 3), ("as_many", 4)]) (g := gTup K 2 (gCons (gName 3) (gCons (gName 4) gNil))) (tt := tYes) rfl sc_ways_by_ones.nd rfl rfl (sw_true rfl rfl rfl (by decide +kernel)) (pi_zipK (K := K) rfl rfl T.n_zip (pa_cons (pe_op op_cat (pe_lst (pa_cons pe_int pa_nil)) (pv 1)) (pa_cons (pe_op op_cat (pv 1) (pe_lst (pa_cons pe_int pa_nil))) pa_nil))) (blkOk_by (by kernel_rfl)) (fun _ _ _ _ _ => pg_tupK (K := K) rfl rfl (pgs_cons (pg_name (i := 3) sc_ways_by_ones.nd rfl (Or.inl rfl)) (pgs_cons (pg_name (i := 4) sc_ways_by_ones.nd rfl (Or.inl rfl)) pgs_nil))) (fun _ _ _ _ _ => pts_nil) (fun _ _ _ _ _ => (pe_op op_add (pv 3) (pv 4)))))) (pss_one (ps_ret (pv 1))))), ?_⟩
    refine q_asgL (xs := natsV (binRow 0)) (el_lst (ea_cons ev_c ea_nil) (by show 1 ≤ 100000; decide)) fun p H1 hp e1 h1 => ?_
    refine q_forR1 (n := n) (ea_cons (ev_var rfl) ea_nil) (by omega) (fun i σ H' => ∃ p v, σ = [some (.int n), some (.ref p), v, none, none] ∧ Ex H H' ∧ H p = none ∧ H' p = some (.lst (natsV (binRow i)))) ?_ ?_ ?_
    · exact fun H2 e2 => ⟨p, none, rfl, e1.trans e2, hp, e2 _ _ h1⟩
    · rintro i σ H2 hi ⟨p, v, rfl, e2, hp, h2⟩
      have hi' : i < n := by omega
      have l1 : (natsV (binRow i)).length = i + 1 := by rw [natsV_len, binRow_len]
      refine s_asgL (xs := natsV (binRow (i + 1))) ?_ fun p' H3 hp' e3 h3 => ⟨p', some (.int i), rfl, e2.trans e3, fresh_back e2 hp', h3⟩
      have := el_lcZ (K := K) (σ := [some (.int n), some (.ref p), some (.int i), none, none]) (H := H2) (xs := V.int 0 :: natsV (binRow i)) (ys := natsV (binRow i) ++ [V.int 0]) (j1 := 3) (j2 := 4) (vs := [3, 4]) (fun j => V.int ((binom (i + 1) j : Nat) : Int))
        (ta := tOp rCat (tLst (tCons (tC (.int 0)) tNil)) (tVar 1)) (tb := tOp rCat (tVar 1) (tLst (tCons (tC (.int 0)) tNil))) (te := tOp (rI0 fun i j => .int (i + j)) (tVar 3) (tVar 4)) ?_ ?_ (by rw [List.length_cons, List.length_append]; rfl) (by rw [List.length_cons, l1]; omega) (fun _ _ => rfl) ?_
      · rw [List.length_cons, l1] at this
        have e : (List.range (i + 1 + 1)).map (fun j => V.int ((binom (i + 1) j : Nat) : Int)) = natsV (binRow (i + 1)) := by
          unfold natsV binRow
          rw [List.map_map]
          rfl
        rw [e] at this
        exact this
      · exact el_cat (xs := [V.int 0]) (ys := natsV (binRow i)) (el_lst (ea_cons ev_c ea_nil) (by show 1 ≤ 100000; decide)) (fun H1 _ => ev_var rfl) h2 (by rw [l1]; show 1 + (i + 1) ≤ 100000; omega)
      · exact el_cat2 (ys := [V.int 0]) (ev_var rfl) h2 (el_lst (ea_cons ev_c ea_nil) (by show 1 ≤ 100000; decide)) (by rw [l1]; show i + 1 + 1 ≤ 100000; omega)
      · intro j x y H3 e3 hx hy
        have hj : j < i + 2 := by
          have := (List.getElem?_eq_some_iff.mp hx).1
          rw [List.length_cons, l1] at this
          omega
        obtain ⟨a, b, ha, hb, hab⟩ := bin_step hj
        have ex : x = .int (a : Int) := by
          have : natsV (0 :: binRow i) = V.int 0 :: natsV (binRow i) := rfl
          rw [← this, natsV_at ha] at hx
          exact (Option.some.inj hx).symm
        have ey : y = .int (b : Int) := by
          have : natsV (binRow i ++ [0]) = natsV (binRow i) ++ [V.int 0] := by
            unfold natsV
            rw [List.map_append]
            rfl
          rw [← this, natsV_at hb] at hy
          exact (Option.some.inj hy).symm
        subst ex ey
        refine ev_is (ev_op (ev_var rfl) (ev_var rfl) rv_I0) ?_
        rw [← hab, Int.natCast_add]
    · rintro σ H2 ⟨p, v, rfl, e2, hp, h2⟩
      rw [Int.toNat_natCast] at h2
      exact s_ret (ev_var rfl) fun H3 e3 => q p H3 hp (e2.trans e3) (e3 _ _ h2)
end
end Few
set_option Elab.async false
set_option linter.all false
set_option maxRecDepth 100000
set_option maxHeartbeats 2000000
namespace Few
open PySem PySem.Spec PyProof.Rows L2 Evl
/-! ### a term as the program keeps it -/
def tF (w : Int) (looks ways : Nat) (pso : Addr) : List (Str × V) := [("weight", .int w), ("looks_at", .int (looks : Int)), ("ways", .int (ways : Int)), ("so", .ref pso)]
theorem tF_weight (w : Int) (looks ways : Nat) (pso : Addr) : (tF w looks ways pso).lookup ("weight" : Str) = some (.int w) := by kernel_rfl
theorem tF_looks (w : Int) (looks ways : Nat) (pso : Addr) : (tF w looks ways pso).lookup ("looks_at" : Str) = some (.int (looks : Int)) := by kernel_rfl
theorem tF_ways (w : Int) (looks ways : Nat) (pso : Addr) : (tF w looks ways pso).lookup ("ways" : Str) = some (.int (ways : Int)) := by kernel_rfl
theorem tF_so (w : Int) (looks ways : Nat) (pso : Addr) : (tF w looks ways pso).lookup ("so" : Str) = some (.ref pso) := by kernel_rfl
theorem tF_new (w : Int) (looks ways : Nat) (pso : Addr) : putF "so" (.ref pso) (putF "ways" (.int (ways : Int)) (putF "looks_at" (.int (looks : Int)) (putF "weight" (.int w) []))) = tF w looks ways pso := by kernel_rfl
def TermAt (CT : Addr) (G : Hp) (q : Addr) (s : Sr59.Space) (t : Sr58.Term) : Prop := ∃ dx pso, G q = some (.ins CT dx (tF t.w (Sr59.looks t.sort).length (waysOf (2 ^ s.m) t.sort) pso)) ∧ G pso = some (.lst (intsV (soI s t.sort)))
theorem TermAt.mono {CT : Addr} {G G' : Hp} {q : Addr} {s : Sr59.Space} {t : Sr58.Term} (e : Ex G G') (h : TermAt CT G q s t) : TermAt CT G' q s t := by
  obtain ⟨dx, pso, h1, h2⟩ := h
  exact ⟨dx, pso, e _ _ h1, e _ _ h2⟩
def TermsAt (CT : Addr) (G : Hp) (qs : List Addr) (s : Sr59.Space) (ts : List Sr58.Term) : Prop := qs.length = ts.length ∧ ∀ (i : Nat) (t : Sr58.Term), ts[i]? = some t → ∃ q, qs[i]? = some q ∧ TermAt CT G q s t
theorem TermsAt.mono {CT : Addr} {G G' : Hp} {qs : List Addr} {s : Sr59.Space} {ts : List Sr58.Term} (e : Ex G G') (h : TermsAt CT G qs s ts) : TermsAt CT G' qs s ts := by
  refine ⟨h.1, fun i t hi => ?_⟩
  obtain ⟨q, h1, h2⟩ := h.2 i t hi
  exact ⟨q, h1, h2.mono e⟩
def GoodT (s : Sr59.Space) (t : Sr58.Term) : Prop := -100 ≤ t.w ∧ t.w ≤ 100 ∧ GoodK (2 ^ s.m) t.sort
def FIELDS_Term : List Str := ["weight", "looks_at", "ways", "so"]
theorem s_retP {σ : L2.St} {H : Hp} {te : TE} {D : Ends} {Pr : Addr → Hp → Prop} (h : EvP te σ H Pr) (k : ∀ x H1, H x = none → Ex H H1 → Pr x (newPart H H1) → D.rt (.ref x) H1) : tRet te D σ H := h H (Ex.refl H) _ k
section
variable {P : Program} {w : World} {K : PySem.W.Frag} {mg : Str → Option Value} {base : Heap} {a_DIVISORS a_SHAPES CF CC CT : Addr} {f : Addr} {fd : FuncData}
def sp_Term_init (C : Addr) : Sp := fun vs H Q _ => ∃ (p dx pso : Addr) (wt : Int) (looks ways : Nat), vs = [.ref p, .int wt, .int (looks : Int), .int (ways : Int), .ref pso] ∧ H p = some (.ins C dx []) ∧
  ∀ H' : Hp, H' p = some (.ins C dx (tF wt looks ways pso)) → (∀ b o, H b = some o → b ≠ p → H' b = some o) → Q .non H'
theorem ok_Term_init (F : Fun K "__init__" "Term.__init__" s_Term_init f fd) (Z : Clz K CT FIELDS_Term) : FnOk P w K mg base CX0 1 f fd ["self", "weight", "looks_at", "ways", "so"] (sp_Term_init CT) := by
  refine F.ok sc_Term_init (fun vs H Q E h => ?_) (fun cdv A outer s H vs Q E hr h => ?_)
  · obtain ⟨p, dx, pso, wt, looks, ways, rfl, _⟩ := h
    rfl
  · obtain ⟨p, dx, pso, wt, looks, ways, rfl, hp, q⟩ := h
    refine ⟨_, (pss_cons (ps_fld (pv 0) (pv 1) rfl) (pss_cons (ps_fld (pv 0) (pv 2) rfl) (pss_cons (ps_fld (pv 0) (pv 3) rfl) (pss_one (ps_fld (pv 0) (pv 4) rfl))))), ?_⟩
    refine q_fld (ev_var rfl) (ev_var rfl) hp Z.cls (Z.no _ (by simp [FIELDS_Term])) (by decide) fun H1 e1 => ?_
    refine q_fld (ev_var rfl) (ev_var rfl) upd_same Z.cls (Z.no _ (by simp [FIELDS_Term])) (show 1 < 1000 by decide) fun H2 e2 => ?_
    refine q_fld (ev_var rfl) (ev_var rfl) upd_same Z.cls (Z.no _ (by simp [FIELDS_Term])) (show 2 < 1000 by decide) fun H3 e3 => ?_
    refine s_fld (ev_var rfl) (ev_var rfl) upd_same Z.cls (Z.no _ (by simp [FIELDS_Term])) (show 3 < 1000 by decide) fun H4 e4 => ?_
    refine q _ ?_ fun b o hb nb => ?_
    · rw [upd_same, tF_new]
    · rw [upd_ne nb]
      refine e4 _ _ ?_
      rw [upd_ne nb]
      refine e3 _ _ ?_
      rw [upd_ne nb]
      refine e2 _ _ ?_
      rw [upd_ne nb]
      exact e1 _ _ hb
/-- Term(..), its list of seeds made before -/
theorem ep_term {σ : L2.St} {H : Hp} {t : TA} {wt : Int} {looks ways : Nat} {pso : Addr} (h : EvA t σ H [.int wt, .int (looks : Int), .int (ways : Int), .ref pso]) :
    EvP (tMake CT (sp_Term_init CT) [] E0 t) σ H (fun x G => ∃ dx, G x = some (.ins CT dx (tF wt looks ways pso))) := by
  refine en_make h (fun _ _ _ e ⟨dx, h⟩ => ⟨dx, e _ _ h⟩) fun H7 x dx a7 nx nd ne Q' q' => ⟨x, dx, pso, wt, looks, ways, rfl, upd_same, fun H8 h8 kp => q' H8 (upd (fun _ => none) x (.ins CT dx (tF wt looks ways pso))) (fun c o hc => ?_) (fun c o hc => ?_) ⟨dx, upd_same⟩ kp⟩
  · by_cases e : c = x
    · subst e
      rw [upd_same] at hc
      rw [← hc]
      exact h8
    · rw [upd_ne e] at hc
      cases hc
  · by_cases e : c = x
    · exact .inl e
    · rw [upd_ne e] at hc
      cases hc
/-- over the rows of all seeds -/
theorem el_lcRows {σ : L2.St} {H : Hp} {te tl : TE} {s : Sr59.Space} {pr : Addr} {j : Nat} {vs : List Nat} (g : Nat → Int) (gs : GoodS s) (h : Ev tl σ H (.ref pr)) (hR : Rows H pr ((List.range (2 ^ (s.m * s.k))).map (rowV s))) (hw : ∀ x, wipe ((wipe σ vs).set j (some x)) vs = wipe σ vs)
    (he : ∀ (i : Nat) (r : Addr) H1, Ex H H1 → i < 2 ^ (s.m * s.k) → H1 r = some (.lst (rowV s i)) → Ev te ((wipe σ vs).set j (some (.ref r))) H1 (.int (g i))) :
    EvL (tLc (iList K tl) (gName j) tYes te vs) σ H (intsV ((List.range (2 ^ (s.m * s.k))).map g)) := by
  obtain ⟨ps, hp, hpl, hrow⟩ := hR
  rw [List.length_map, List.length_range] at hpl
  have s1024 := gs.seeds
  have hgiv : given (ps.map V.ref).length (fun _ => true) (fun i => V.int (g i)) = intsV ((List.range (2 ^ (s.m * s.k))).map g) := by
    rw [given_all, List.length_map, hpl]
    unfold intsV
    rw [List.map_map]
    rfl
  rw [← hgiv]
  refine el_lcL (fun _ => true) (fun i => V.int (g i)) h (sq_of hp) (by rw [List.length_map]; omega) hw (fun _ _ _ _ _ H1 _ Q q => q H1 (Ex.refl H1)) ?_
  intro i x H1 e1 hi _
  have hi2 : i < 2 ^ (s.m * s.k) := by
    have := (List.getElem?_eq_some_iff.mp hi).1
    rw [List.length_map] at this
    omega
  obtain ⟨r, hr1, hr2⟩ := hrow i (rowV s i) (by rw [List.getElem?_map, List.getElem?_range hi2]; rfl)
  have hx : x = .ref r := by
    rw [List.getElem?_map, hr1] at hi
    exact (Option.some.inj hi).symm
  subst hx
  exact he i r H1 e1 hi2 (e1 _ _ hr2)
def RetT (CT : Addr) (s : Sr59.Space) (t : Sr58.Term) (H : Hp) (Q : VK) : Prop := ∀ x H2, H x = none → Ex H H2 → TermAt CT (newPart H H2) x s t → Q (.ref x) H2
def sp_all_term (CC CF CT : Addr) : Sp := fun vs H Q _ => ∃ (a b : Addr) (s : Sr59.Space) (wt : Int) (l : List Nat), vs = [.ref a, .int wt, .ref b] ∧ CoinsAt CC CF H a s ∧ H b = some (.lst (natsV l)) ∧ l.length ≤ 20 ∧ (∀ x ∈ l, x < 2 * 2 ^ s.m) ∧ RetT CT s ⟨wt, .all l⟩ H Q
theorem ok_all_term (F : Fun K "all_term" "all_term" s_all_term f fd) (T : Txt K mg a_DIVISORS a_SHAPES) (Z : Clz K CC FIELDS_Coins) (O_is_all : Ok P w K mg base 1 "is_all" ["row", "lie"] sp_is_all)
    (O_Term : OkC P w K mg base 1 "Term" CT ["self", "weight", "looks_at", "ways", "so"] (sp_Term_init CT)) : FnOk P w K mg base CX0 3 f fd ["coins", "weight", "lie"] (sp_all_term CC CF CT) := by
  refine F.ok sc_all_term (fun vs H Q E h => ?_) (fun cdv A outer s0 H vs Q E hr h => ?_)
  · obtain ⟨a, b, s, wt, l, rfl, _⟩ := h
    rfl
  · obtain ⟨a, b, s, wt, l, rfl, hC, hb, hl, hx, q⟩ := h
    obtain ⟨g, dx, pf, pr, ho, hF, hR⟩ := hC
    have m64 := pow64 g.h6
    have hh := halves_le hx
    refine ⟨_, (pss_cons (ps_set (i := 3) sc_all_term.nd rfl (.inl rfl) (pe_lenSetN (K := K) rfl (by rfl) T.n_len (by rfl) T.n_set (pe_lc (own := [("told", 6)]) (g := gName 6) (tt := tYes) rfl sc_all_term.nd (pi_listK (K := K) rfl (pv 2)) (blkOk_by (by kernel_rfl)) (fun _ _ _ _ _ => pg_name (i := 6) sc_all_term.nd rfl (Or.inl rfl)) (fun _ _ _ _ _ => pts_nil) (fun _ _ _ _ _ => (pe_op op_fdiv (pv 6) pe_int))))) (pss_cons (ps_set (i := 4) sc_all_term.nd rfl (.inl rfl) (pe_ifExp (pt_cmpR op_eq (pe_lenSetN (K := K) rfl (by rfl) T.n_len (by rfl) T.n_set (pv 2)) (pv 3) (nomark _)) pe_int pe_int)) (pss_cons (ps_setLc (i := 5) (own := [("row", 7)]) (g := gName 7) (tt := tYes) rfl sc_all_term.nd rfl rfl (sw_true rfl rfl rfl (by decide +kernel)) (pi_listK (K := K) rfl (pe_fldK (K := K) rfl (pv 0) rfl)) (blkOk_by (by kernel_rfl)) (fun _ _ _ _ _ => pg_name (i := 7) sc_all_term.nd rfl (Or.inl rfl)) (fun _ _ _ _ _ => pts_nil) (fun _ _ _ _ _ => (by_fn O_is_all fun _ _ hm kp hb F => pe_call F (hr.mono (by decide)) rfl hm kp hb .nil pass0 (pa_cons (pv 7) (pa_cons (pv 2) pa_nil))))) (pss_one (ps_ret (by_cls O_Term fun _ _ hm M hb F => pe_make M F (hr.mono (by decide)) rfl hm hb .nil pass0 (pa_cons (pv 1) (pa_cons (pv 3) (pa_cons (pe_op op_shlW (pv 4) (pe_op op_sub (pe_fldK (K := K) rfl (pv 0) rfl) (pv 3))) (pa_cons (pv 5) pa_nil)))))))))), ?_⟩
    have hv : natsV l = intsV (l.map fun (n : Nat) => (n : Int)) := (intsV_nats l).symm
    refine q_asg (v := .int ((halves l).length : Int)) (ev_is (ev_lenSet (ns := (l.map fun x => x / 2).map fun (n : Nat) => (n : Int)) ?_ (by rw [List.length_map, List.length_map]; omega)) (by rw [dedup_cast]; rfl)) fun H1 e1 => ?_
    · have e : intsV ((l.map fun x => x / 2).map fun (n : Nat) => (n : Int)) = (natsV l).map fun v => match v with | .int i => V.int (i / 2) | v => v := by
        unfold intsV natsV
        rw [List.map_map, List.map_map, List.map_map]
        refine List.map_congr_left fun n _ => ?_
        show V.int ((n / 2 : Nat) : Int) = V.int ((n : Int) / 2)
        rw [Int.natCast_ediv]
        rfl
      rw [e]
      refine el_lcI (xs := natsV l) _ (ev_var rfl) (sq_of hb) (by rw [natsV_len]; omega) (fun _ => rfl) ?_
      intro x H2 e2 hx2
      obtain ⟨n, _, rfl⟩ := List.mem_map.mp hx2
      exact ev_op (ev_var rfl) ev_c (rv_I ⟨by decide, by decide⟩)
    refine q_asg (v := .int ((if l.eraseDups.length = (halves l).length then 1 else 0 : Nat) : Int)) (ev_if (b := decide (l.eraseDups.length = (halves l).length)) (et_is (et_test (ev_op (ev_lenSetR (ns := l.map fun (n : Nat) => (n : Int)) (ev_var rfl) (by rw [← hv]; exact e1 _ _ hb) (by rw [List.length_map]; omega)) (ev_var rfl) (rv_eq rfl))) ?_) (fun hc => ?_) (fun hc => ?_)) fun H2 e2 => ?_
    · rw [dec_int, dedup_cast, decide_eq_decide]
      omega
    · rw [if_pos (of_decide_eq_true hc)]
      exact ev_c
    · rw [if_neg (of_decide_eq_false hc)]
      exact ev_c
    have e12 := e1.trans e2
    refine q_asgL (xs := intsV (soI s (.all l))) (el_lcRows (s := s) (fun i => Sr58.bit (Sr58.holds (Sr59.row s i) (.all l))) g (ev_fld (ev_var rfl) (e12 _ _ ho) Z.cls (Z.no _ (by simp [FIELDS_Coins])) (cF_rows s pf pr)) (hR.mono e12) (fun _ => rfl) ?_) fun pso H3 hpso e3 h3 => ?_
    · intro i r H4 e4 hi hr2
      exact ev_fn (ea_cons (ev_var rfl) (ea_cons (ev_var rfl) ea_nil)) fun H5 e5 Q q E => ⟨r, b, s, i, l, rfl, e5 _ _ hr2, e5 _ _ (e4 _ _ (e12 _ _ hb)), hx, q⟩
    have e13 := e12.trans e3
    refine s_retP (ep_term (wt := wt) (looks := (halves l).length) (ways := waysOf (2 ^ s.m) (.all l)) (pso := pso) (ea_cons (ev_var rfl) (ea_cons (ev_var rfl) (ea_cons (ev_is (ev_op (ev_var rfl) (ev_op (ev_fld (ev_var rfl) (e13 _ _ ho) Z.cls (Z.no _ (by simp [FIELDS_Coins])) (cF_how_many s pf pr)) (ev_var rfl) rv_I0) (rv_I ?_)) ?_) (ea_cons (ev_var rfl) ea_nil))))) fun x H4 hx4 e4 ⟨dx', h4⟩ => ?_
    · have e : ((2 ^ s.m : Nat) : Int) - ((halves l).length : Int) = ((2 ^ s.m - (halves l).length : Nat) : Int) := by omega
      rw [e]
      refine shl_ok (n := 1) ?_ (by omega)
      rw [Int.natAbs_natCast]
      split <;> decide
    · have e : ((2 ^ s.m : Nat) : Int) - ((halves l).length : Int) = ((2 ^ s.m - (halves l).length : Nat) : Int) := by omega
      rw [e, Int.toNat_natCast]
      congr 1
    · have hx0 := fresh_back e13 hx4
      exact q x H4 hx0 (e13.trans e4) ⟨dx', pso, newPart_of hx0 (newPart_ex _ _ h4), newPart_of (fresh_back e12 hpso) (e4 _ _ h3)⟩
def sp_many_term (CC CF CT : Addr) : Sp := fun vs H Q _ => ∃ (a b : Addr) (s : Sr59.Space) (wt : Int) (t : Nat) (l : List Nat), vs = [.ref a, .int wt, .int t, .ref b] ∧ CoinsAt CC CF H a s ∧ H b = some (.lst (natsV l)) ∧ l.length ≤ 2 ^ s.m ∧ (∀ x ∈ l, x < 2 ^ s.m) ∧ RetT CT s ⟨wt, .many t l⟩ H Q
theorem ok_many_term (F : Fun K "many_term" "many_term" s_many_term f fd) (T : Txt K mg a_DIVISORS a_SHAPES) (Z : Clz K CC FIELDS_Coins) (O_is_many : Ok P w K mg base 1 "is_many" ["row", "chosen", "t"] sp_is_many) (O_ways_by_ones : Ok P w K mg base 1 "ways_by_ones" ["how_many"] sp_ways_by_ones)
    (O_Term : OkC P w K mg base 1 "Term" CT ["self", "weight", "looks_at", "ways", "so"] (sp_Term_init CT)) : FnOk P w K mg base CX0 3 f fd ["coins", "weight", "t", "chosen"] (sp_many_term CC CF CT) := by
  refine F.ok sc_many_term (fun vs H Q E h => ?_) (fun cdv A outer s0 H vs Q E hr h => ?_)
  · obtain ⟨a, b, s, wt, t, l, rfl, _⟩ := h
    rfl
  · obtain ⟨a, b, s, wt, t, l, rfl, hC, hb, hl, hx, q⟩ := h
    obtain ⟨g, dx, pf, pr, ho, hF, hR⟩ := hC
    have m64 := pow64 g.h6
    refine ⟨_, (pss_cons (ps_set (i := 4) sc_many_term.nd rfl (.inl rfl) (pe_callB (cr_lenK (K := K) rfl) (by rfl) T.n_len PySem.boot_len (pa_cons (pv 3) pa_nil))) (pss_cons (ps_set (i := 5) sc_many_term.nd rfl (.inl rfl) (pe_callB (cr_sumK (K := K) rfl rfl) (by rfl) T.n_sum (by decide +kernel) (pa_cons (pe_slice (sl_listK (K := K) rfl) (by_fn O_ways_by_ones fun _ _ hm kp hb F => pe_call F (hr.mono (by decide)) rfl hm kp hb .nil pass0 (pa_cons (pv 4) pa_nil)) (po_some (pv 2)) po_none) pa_nil))) (pss_cons (ps_setLc (i := 6) (own := [("row", 7)]) (g := gName 7) (tt := tYes) rfl sc_many_term.nd rfl rfl (sw_true rfl rfl rfl (by decide +kernel)) (pi_listK (K := K) rfl (pe_fldK (K := K) rfl (pv 0) rfl)) (blkOk_by (by kernel_rfl)) (fun _ _ _ _ _ => pg_name (i := 7) sc_many_term.nd rfl (Or.inl rfl)) (fun _ _ _ _ _ => pts_nil) (fun _ _ _ _ _ => (by_fn O_is_many fun _ _ hm kp hb F => pe_call F (hr.mono (by decide)) rfl hm kp hb .nil pass0 (pa_cons (pv 7) (pa_cons (pv 3) (pa_cons (pv 2) pa_nil)))))) (pss_one (ps_ret (by_cls O_Term fun _ _ hm M hb F => pe_make M F (hr.mono (by decide)) rfl hm hb .nil pass0 (pa_cons (pv 1) (pa_cons (pv 4) (pa_cons (pe_op op_shlW (pv 5) (pe_op op_sub (pe_fldK (K := K) rfl (pv 0) rfl) (pv 4))) (pa_cons (pv 6) pa_nil)))))))))), ?_⟩
    refine q_asg (v := .int (l.length : Int)) (ev_is (ev_len (ev_var rfl) (sq_of hb)) (by rw [natsV_len])) fun H1 e1 => ?_
    refine q_asg (v := .int ((atLeast l.length t : Nat) : Int)) (ev_is (ev_sum (ns := ((binRow l.length).map fun (n : Nat) => (n : Int)).drop t) ?_) ?_) fun H2 e2 => ?_
    · rw [← cut_from, intsV_nats]
      exact el_slN (el_fn (ea_cons (ev_var rfl) ea_nil) fun H3 e3 Q q E => ⟨l.length, rfl, by omega, q⟩) (eo_some (ev_var rfl)) eo_none
    · rw [← List.map_drop, sum_cast, atLeast_eq]
    have e12 := e1.trans e2
    refine q_asgL (xs := intsV (soI s (.many t l))) (el_lcRows (s := s) (fun i => Sr58.bit (Sr58.holds (Sr59.row s i) (.many t l))) g (ev_fld (ev_var rfl) (e12 _ _ ho) Z.cls (Z.no _ (by simp [FIELDS_Coins])) (cF_rows s pf pr)) (hR.mono e12) (fun _ => rfl) ?_) fun pso H3 hpso e3 h3 => ?_
    · intro i r H4 e4 hi hr2
      exact ev_fn (ea_cons (ev_var rfl) (ea_cons (ev_var rfl) (ea_cons (ev_var rfl) ea_nil))) fun H5 e5 Q q E => ⟨r, b, s, i, t, l, rfl, e5 _ _ hr2, e5 _ _ (e4 _ _ (e12 _ _ hb)), hx, by omega, q⟩
    have e13 := e12.trans e3
    refine s_retP (ep_term (wt := wt) (looks := l.length) (ways := waysOf (2 ^ s.m) (.many t l)) (pso := pso) (ea_cons (ev_var rfl) (ea_cons (ev_var rfl) (ea_cons (ev_is (ev_op (ev_var rfl) (ev_op (ev_fld (ev_var rfl) (e13 _ _ ho) Z.cls (Z.no _ (by simp [FIELDS_Coins])) (cF_how_many s pf pr)) (ev_var rfl) rv_I0) (rv_I ?_)) ?_) (ea_cons (ev_var rfl) ea_nil))))) fun x H4 hx4 e4 ⟨dx', h4⟩ => ?_
    · have e : ((2 ^ s.m : Nat) : Int) - (l.length : Int) = ((2 ^ s.m - l.length : Nat) : Int) := by omega
      rw [e]
      refine shl_ok (n := 100) ?_ (by omega)
      rw [Int.natAbs_natCast]
      exact atLeast_lt (by omega)
    · have e : ((2 ^ s.m : Nat) : Int) - (l.length : Int) = ((2 ^ s.m - l.length : Nat) : Int) := by omega
      rw [e, Int.toNat_natCast]
      congr 1
    · have hx0 := fresh_back e13 hx4
      exact q x H4 hx0 (e13.trans e4) ⟨dx', pso, newPart_of hx0 (newPart_ex _ _ h4), newPart_of (fresh_back e12 hpso) (e4 _ _ h3)⟩
/-! ### chances -/
theorem pp_lt {m : Nat} (h : m ≤ 6) : 2 ^ 2 ^ m < 2 ^ 100 := Nat.pow_lt_pow_right (by decide) (Nat.lt_of_le_of_lt (pow64 h) (by decide))
theorem cpow_coins {m : Nat} (h : m ≤ 6) : CPow 1 ((2 ^ m : Nat) : Int) := ⟨Int.natCast_nonneg _, by have := pow64 h; omega, by decide⟩
def sp_true_chance (CC CF CT : Addr) : Sp := fun vs H Q _ => ∃ (a b : Addr) (s : Sr59.Space) (t : Sr58.Term), vs = [.ref a, .ref b] ∧ CoinsAt CC CF H a s ∧ TermAt CT H b s t ∧ RetL (intsV (fracI (Sr58.frac (waysOf (2 ^ s.m) t.sort : Nat) (2 ^ 2 ^ s.m)))) H Q
theorem ok_true_chance (F : Fun K "true_chance" "true_chance" s_true_chance f fd) (Z : Clz K CC FIELDS_Coins) (ZT : Clz K CT FIELDS_Term) (O_as_fraction : Ok P w K mg base 2 "as_fraction" ["upper", "lower"] sp_as_fraction) :
    FnOk P w K mg base CX0 3 f fd ["coins", "term"] (sp_true_chance CC CF CT) := by
  refine F.ok sc_true_chance (fun vs H Q E h => ?_) (fun cdv A outer s0 H vs Q E hr h => ?_)
  · obtain ⟨a, b, s, t, rfl, _⟩ := h
    rfl
  · obtain ⟨a, b, s, t, rfl, hC, hT, q⟩ := h
    obtain ⟨g, dx, pf, pr, ho, hF, hR⟩ := hC
    obtain ⟨dt, pso, ht, hs⟩ := hT
    refine ⟨_, (pss_one (ps_ret (by_fn O_as_fraction fun _ _ hm kp hb F => pe_call F (hr.mono (by decide)) rfl hm kp hb .nil pass0 (pa_cons (pe_fldK (K := K) rfl (pv 1) rfl) (pa_cons (pe_op op_shl pe_int (pe_fldK (K := K) rfl (pv 0) rfl)) pa_nil))))), ?_⟩
    refine s_retL (xs := intsV (fracI (Sr58.frac (waysOf (2 ^ s.m) t.sort : Nat) (2 ^ 2 ^ s.m)))) (el_fn (ea_cons (ev_fld (ev_var rfl) ht ZT.cls (ZT.no _ (by simp [FIELDS_Term])) (tF_ways _ _ _ _)) (ea_cons (x := .int ((2 ^ 2 ^ s.m : Nat) : Int)) (ev_is (ev_op ev_c (ev_fld (ev_var rfl) ho Z.cls (Z.no _ (by simp [FIELDS_Coins])) (cF_how_many s pf pr)) (rv_I (cpow_coins g.h6))) (congrArg V.int (one_shl _))) ea_nil)) fun H1 e1 Q q E => ⟨_, 2 ^ 2 ^ s.m, rfl, two_pos _, pp_lt g.h6, q⟩) fun p H1 hp e1 h1 => q p H1 hp e1 h1
def sp_seeds_chance (CC CF CT : Addr) : Sp := fun vs H Q _ => ∃ (a b : Addr) (s : Sr59.Space) (t : Sr58.Term), vs = [.ref a, .ref b] ∧ CoinsAt CC CF H a s ∧ TermAt CT H b s t ∧ RetL (intsV (fracI (Sr58.frac (hits s (List.range (Sr59.seeds s)) t.sort : Nat) (Sr59.seeds s)))) H Q
theorem seeds_lt {s : Sr59.Space} (g : GoodS s) : 0 < Sr59.seeds s ∧ Sr59.seeds s < 2 ^ 100 := ⟨two_pos _, Nat.lt_of_le_of_lt g.seeds (by decide)⟩
theorem ok_seeds_chance (F : Fun K "seeds_chance" "seeds_chance" s_seeds_chance f fd) (T : Txt K mg a_DIVISORS a_SHAPES) (Z : Clz K CC FIELDS_Coins) (ZT : Clz K CT FIELDS_Term) (O_as_fraction : Ok P w K mg base 2 "as_fraction" ["upper", "lower"] sp_as_fraction) :
    FnOk P w K mg base CX0 3 f fd ["coins", "term"] (sp_seeds_chance CC CF CT) := by
  refine F.ok sc_seeds_chance (fun vs H Q E h => ?_) (fun cdv A outer s0 H vs Q E hr h => ?_)
  · obtain ⟨a, b, s, t, rfl, _⟩ := h
    rfl
  · obtain ⟨a, b, s, t, rfl, hC, hT, q⟩ := h
    obtain ⟨g, dx, pf, pr, ho, hF, hR⟩ := hC
    obtain ⟨dt, pso, ht, hs⟩ := hT
    refine ⟨_, (pss_one (ps_ret (by_fn O_as_fraction fun _ _ hm kp hb F => pe_call F (hr.mono (by decide)) rfl hm kp hb .nil pass0 (pa_cons (pe_callB (cr_sumK (K := K) rfl rfl) (by rfl) T.n_sum (by decide +kernel) (pa_cons (pe_fldK (K := K) rfl (pv 1) rfl) pa_nil)) (pa_cons (pe_fldK (K := K) rfl (pv 0) rfl) pa_nil))))), ?_⟩
    refine s_retL (xs := intsV (fracI (Sr58.frac (hits s (List.range (Sr59.seeds s)) t.sort : Nat) (Sr59.seeds s)))) (el_fn (ea_cons (x := .int ((hits s (List.range (Sr59.seeds s)) t.sort : Nat) : Int)) (ev_is (ev_sumR (ev_fld (ev_var rfl) ht ZT.cls (ZT.no _ (by simp [FIELDS_Term])) (tF_so _ _ _ _)) (sq_of hs)) (by rw [soI_sum])) (ea_cons (ev_fld (ev_var rfl) ho Z.cls (Z.no _ (by simp [FIELDS_Coins])) (cF_seeds s pf pr)) ea_nil)) fun H1 e1 Q q E => ⟨_, Sr59.seeds s, rfl, (seeds_lt g).1, (seeds_lt g).2, q⟩) fun p H1 hp e1 h1 => q p H1 hp e1 h1
/-! ### sums over terms -/
theorem el_lcT {σ : L2.St} {H : Hp} {te tl : TE} {s : Sr59.Space} {pt : Addr} {qs : List Addr} {ts : List Sr58.Term} {j : Nat} {vs : List Nat} (g : Sr58.Term → Int) (h : Ev tl σ H (.ref pt)) (hp : H pt = some (.lst (qs.map V.ref))) (hT : TermsAt CT H qs s ts) (hz : ts.length ≤ 12) (hw : ∀ x, wipe ((wipe σ vs).set j (some x)) vs = wipe σ vs)
    (he : ∀ (t : Sr58.Term) (q : Addr) H1, Ex H H1 → t ∈ ts → TermAt CT H1 q s t → Ev te ((wipe σ vs).set j (some (.ref q))) H1 (.int (g t))) : EvL (tLc (iList K tl) (gName j) tYes te vs) σ H (intsV (ts.map g)) := by
  have hl := hT.1
  have hgiv : given (qs.map V.ref).length (fun _ => true) (fun i => V.int (g (ts.getD i ⟨0, .all []⟩))) = intsV (ts.map g) := by
    rw [given_all, List.length_map, hl]
    unfold intsV
    rw [List.map_map]
    refine List.ext_getElem? fun i => ?_
    rw [List.getElem?_map, List.getElem?_map]
    by_cases hi : i < ts.length
    · rw [List.getElem?_range hi, List.getElem?_eq_getElem hi]
      simp [List.getD_eq_getElem?_getD, hi]
    · rw [List.getElem?_eq_none (by rw [List.length_range]; omega), List.getElem?_eq_none (by omega)]
      rfl
  rw [← hgiv]
  refine el_lcL (fun _ => true) (fun i => V.int (g (ts.getD i ⟨0, .all []⟩))) h (sq_of hp) (by rw [List.length_map]; omega) hw (fun _ _ _ _ _ H1 _ Q q => q H1 (Ex.refl H1)) ?_
  intro i x H1 e1 hi _
  have hi2 : i < ts.length := by
    have := (List.getElem?_eq_some_iff.mp hi).1
    rw [List.length_map] at this
    omega
  have ht : ts[i]? = some (ts.getD i ⟨0, .all []⟩) := by
    rw [List.getD_eq_getElem?_getD, List.getElem?_eq_getElem hi2]
    rfl
  obtain ⟨q, hq1, hq2⟩ := hT.2 i _ ht
  have hx : x = .ref q := by
    rw [List.getElem?_map, hq1] at hi
    exact (Option.some.inj hi).symm
  subst hx
  exact he _ q H1 e1 (List.mem_of_getElem? ht) (hq2.mono e1)
theorem mul_ok {x y : Int} (h : -100 ≤ x ∧ x ≤ 100) : (-(2 ^ 64) ≤ x ∧ x ≤ 2 ^ 64) ∨ (-(2 ^ 64) ≤ y ∧ y ≤ 2 ^ 64) := .inl ⟨by omega, by omega⟩
def sp_true_mean (CC CF CT : Addr) : Sp := fun vs H Q _ => ∃ (a pt : Addr) (s : Sr59.Space) (qs : List Addr) (ts : List Sr58.Term), vs = [.ref a, .ref pt] ∧ CoinsAt CC CF H a s ∧ H pt = some (.lst (qs.map V.ref)) ∧ TermsAt CT H qs s ts ∧ ts.length ≤ 12 ∧ (∀ t ∈ ts, GoodT s t) ∧
  RetL (intsV (fracI (Sr58.frac ((ts.map fun t => t.w * ((waysOf (2 ^ s.m) t.sort : Nat) : Int)).sum) (2 ^ 2 ^ s.m)))) H Q
theorem ok_true_mean (F : Fun K "true_mean" "true_mean" s_true_mean f fd) (T : Txt K mg a_DIVISORS a_SHAPES) (Z : Clz K CC FIELDS_Coins) (ZT : Clz K CT FIELDS_Term) (O_as_fraction : Ok P w K mg base 2 "as_fraction" ["upper", "lower"] sp_as_fraction) :
    FnOk P w K mg base CX0 3 f fd ["coins", "terms"] (sp_true_mean CC CF CT) := by
  refine F.ok sc_true_mean (fun vs H Q E h => ?_) (fun cdv A outer s0 H vs Q E hr h => ?_)
  · obtain ⟨a, pt, s, qs, ts, rfl, _⟩ := h
    rfl
  · obtain ⟨a, pt, s, qs, ts, rfl, hC, hp, hT, hz, hG, q⟩ := h
    obtain ⟨g, dx, pf, pr, ho, hF, hR⟩ := hC
    refine ⟨_, (pss_one (ps_ret (by_fn O_as_fraction fun _ _ hm kp hb F => pe_call F (hr.mono (by decide)) rfl hm kp hb .nil pass0 (pa_cons (pe_callB (cr_sumK (K := K) rfl rfl) (by rfl) T.n_sum (by decide +kernel) (pa_cons (pe_lc (own := [("term", 2)]) (g := gName 2) (tt := tYes) rfl sc_true_mean.nd (pi_listK (K := K) rfl (pv 1)) (blkOk_by (by kernel_rfl)) (fun _ _ _ _ _ => pg_name (i := 2) sc_true_mean.nd rfl (Or.inl rfl)) (fun _ _ _ _ _ => pts_nil) (fun _ _ _ _ _ => (pe_op op_mul (pe_fldK (K := K) rfl (pv 2) rfl) (pe_fldK (K := K) rfl (pv 2) rfl)))) pa_nil)) (pa_cons (pe_op op_shl pe_int (pe_fldK (K := K) rfl (pv 0) rfl)) pa_nil))))), ?_⟩
    refine s_retL (xs := intsV (fracI (Sr58.frac ((ts.map fun t => t.w * ((waysOf (2 ^ s.m) t.sort : Nat) : Int)).sum) (2 ^ 2 ^ s.m)))) (el_fn (ea_cons (ev_sum (el_lcT (fun t => t.w * ((waysOf (2 ^ s.m) t.sort : Nat) : Int)) (ev_var rfl) hp hT hz (fun _ => rfl) ?_)) (ea_cons (x := .int ((2 ^ 2 ^ s.m : Nat) : Int)) (ev_is (ev_op ev_c (ev_fld (ev_var rfl) ho Z.cls (Z.no _ (by simp [FIELDS_Coins])) (cF_how_many s pf pr)) (rv_I (cpow_coins g.h6))) (congrArg V.int (one_shl _))) ea_nil)) fun H1 e1 Q q E => ⟨_, 2 ^ 2 ^ s.m, rfl, two_pos _, pp_lt g.h6, q⟩) fun p H1 hp e1 h1 => q p H1 hp e1 h1
    intro t q H1 e1 ht ⟨dt, pso, h1, h2⟩
    have hg := hG t ht
    exact ev_op (ev_fld (ev_var rfl) h1 ZT.cls (ZT.no _ (by simp [FIELDS_Term])) (tF_weight _ _ _ _)) (ev_fld (ev_var rfl) h1 ZT.cls (ZT.no _ (by simp [FIELDS_Term])) (tF_ways _ _ _ _)) (rv_I (.inl ⟨by have := hg.1; omega, by have := hg.2.1; omega⟩))
def sp_seeds_mean (CC CF CT : Addr) : Sp := fun vs H Q _ => ∃ (a pt : Addr) (s : Sr59.Space) (qs : List Addr) (ts : List Sr58.Term), vs = [.ref a, .ref pt] ∧ CoinsAt CC CF H a s ∧ H pt = some (.lst (qs.map V.ref)) ∧ TermsAt CT H qs s ts ∧ ts.length ≤ 12 ∧ (∀ t ∈ ts, GoodT s t) ∧
  RetL (intsV (fracI (Sr58.frac ((ts.map fun t => t.w * ((hits s (List.range (Sr59.seeds s)) t.sort : Nat) : Int)).sum) (Sr59.seeds s)))) H Q
theorem ok_seeds_mean (F : Fun K "seeds_mean" "seeds_mean" s_seeds_mean f fd) (T : Txt K mg a_DIVISORS a_SHAPES) (Z : Clz K CC FIELDS_Coins) (ZT : Clz K CT FIELDS_Term) (O_as_fraction : Ok P w K mg base 2 "as_fraction" ["upper", "lower"] sp_as_fraction) :
    FnOk P w K mg base CX0 3 f fd ["coins", "terms"] (sp_seeds_mean CC CF CT) := by
  refine F.ok sc_seeds_mean (fun vs H Q E h => ?_) (fun cdv A outer s0 H vs Q E hr h => ?_)
  · obtain ⟨a, pt, s, qs, ts, rfl, _⟩ := h
    rfl
  · obtain ⟨a, pt, s, qs, ts, rfl, hC, hp, hT, hz, hG, q⟩ := h
    obtain ⟨g, dx, pf, pr, ho, hF, hR⟩ := hC
    refine ⟨_, (pss_one (ps_ret (by_fn O_as_fraction fun _ _ hm kp hb F => pe_call F (hr.mono (by decide)) rfl hm kp hb .nil pass0 (pa_cons (pe_callB (cr_sumK (K := K) rfl rfl) (by rfl) T.n_sum (by decide +kernel) (pa_cons (pe_lc (own := [("term", 2)]) (g := gName 2) (tt := tYes) rfl sc_seeds_mean.nd (pi_listK (K := K) rfl (pv 1)) (blkOk_by (by kernel_rfl)) (fun _ _ _ _ _ => pg_name (i := 2) sc_seeds_mean.nd rfl (Or.inl rfl)) (fun _ _ _ _ _ => pts_nil) (fun _ _ _ _ _ => (pe_op op_mul (pe_fldK (K := K) rfl (pv 2) rfl) (pe_callB (cr_sumK (K := K) rfl rfl) (by rfl) T.n_sum (by decide +kernel) (pa_cons (pe_fldK (K := K) rfl (pv 2) rfl) pa_nil))))) pa_nil)) (pa_cons (pe_fldK (K := K) rfl (pv 0) rfl) pa_nil))))), ?_⟩
    refine s_retL (xs := intsV (fracI (Sr58.frac ((ts.map fun t => t.w * ((hits s (List.range (Sr59.seeds s)) t.sort : Nat) : Int)).sum) (Sr59.seeds s)))) (el_fn (ea_cons (ev_sum (el_lcT (fun t => t.w * ((hits s (List.range (Sr59.seeds s)) t.sort : Nat) : Int)) (ev_var rfl) hp hT hz (fun _ => rfl) ?_)) (ea_cons (ev_fld (ev_var rfl) ho Z.cls (Z.no _ (by simp [FIELDS_Coins])) (cF_seeds s pf pr)) ea_nil)) fun H1 e1 Q q E => ⟨_, Sr59.seeds s, rfl, (seeds_lt g).1, (seeds_lt g).2, q⟩) fun p H1 hp e1 h1 => q p H1 hp e1 h1
    intro t q H1 e1 ht ⟨dt, pso, h1, h2⟩
    have hg := hG t ht
    exact ev_op (ev_fld (ev_var rfl) h1 ZT.cls (ZT.no _ (by simp [FIELDS_Term])) (tF_weight _ _ _ _)) (ev_is (ev_sumR (ev_fld (ev_var rfl) h1 ZT.cls (ZT.no _ (by simp [FIELDS_Term])) (tF_so _ _ _ _)) (sq_of h2)) (by rw [soI_sum])) (rv_I (.inl ⟨by have := hg.1; omega, by have := hg.2.1; omega⟩))
def sp_worth_of (CT : Addr) : Sp := fun vs H Q _ => ∃ (pt : Addr) (s : Sr59.Space) (qs : List Addr) (ts : List Sr58.Term) (x : Nat), vs = [.ref pt, .int x] ∧ H pt = some (.lst (qs.map V.ref)) ∧ TermsAt CT H qs s ts ∧ ts.length ≤ 12 ∧ (∀ t ∈ ts, GoodT s t) ∧ x < 2 ^ (s.m * s.k) ∧
  RetV (.int ((ts.map fun t => t.w * Sr58.bit (Sr58.holds (Sr59.row s x) t.sort)).sum)) H Q
theorem ok_worth_of (F : Fun K "worth_of" "worth_of" s_worth_of f fd) (T : Txt K mg a_DIVISORS a_SHAPES) (ZT : Clz K CT FIELDS_Term) : FnOk P w K mg base CX0 1 f fd ["terms", "s"] (sp_worth_of CT) := by
  refine F.ok sc_worth_of (fun vs H Q E h => ?_) (fun cdv A outer s0 H vs Q E hr h => ?_)
  · obtain ⟨pt, s, qs, ts, x, rfl, _⟩ := h
    rfl
  · obtain ⟨pt, s, qs, ts, x, rfl, hp, hT, hz, hG, hx, q⟩ := h
    refine ⟨_, (pss_one (ps_ret (pe_callB (cr_sumK (K := K) rfl rfl) (by rfl) T.n_sum (by decide +kernel) (pa_cons (pe_lc (own := [("term", 2)]) (g := gName 2) (tt := tYes) rfl sc_worth_of.nd (pi_listK (K := K) rfl (pv 0)) (blkOk_by (by kernel_rfl)) (fun _ _ _ _ _ => pg_name (i := 2) sc_worth_of.nd rfl (Or.inl rfl)) (fun _ _ _ _ _ => pts_nil) (fun _ _ _ _ _ => (pe_op op_mul (pe_fldK (K := K) rfl (pv 2) rfl) (pe_ixL (K := K) rfl (pe_fldK (K := K) rfl (pv 2) rfl) (pv 1) (fun _ _ => rfl))))) pa_nil)))), ?_⟩
    refine s_ret (ev_sum (el_lcT (fun t => t.w * Sr58.bit (Sr58.holds (Sr59.row s x) t.sort)) (ev_var rfl) hp hT hz (fun _ => rfl) ?_)) fun H1 e1 => q.go e1
    intro t q H1 e1 ht ⟨dt, pso, h1, h2⟩
    have hg := hG t ht
    exact ev_op (ev_fld (ev_var rfl) h1 ZT.cls (ZT.no _ (by simp [FIELDS_Term])) (tF_weight _ _ _ _)) (ev_op (ev_fld (ev_var rfl) h1 ZT.cls (ZT.no _ (by simp [FIELDS_Term])) (tF_so _ _ _ _)) (ev_var rfl) (rv_ixL (sq_of h2) (at_nat (by unfold intsV; rw [List.getElem?_map, soI_at hx]; rfl)))) (rv_I (.inl ⟨by have := hg.1; omega, by have := hg.2.1; omega⟩))
end
end Few
set_option Elab.async false
set_option linter.all false
set_option maxRecDepth 100000
set_option maxHeartbeats 2000000
namespace Few
open PySem PySem.Spec PyProof.Rows L2 Evl
/-! ### the line: its object and its list of terms may change, all else stands -/
def lF (vc : V) (pt : Addr) (u : Int) : List (Str × V) := [("coins", vc), ("terms", .ref pt), ("much", .int u)]
theorem lF_coins (vc : V) (pt : Addr) (u : Int) : (lF vc pt u).lookup ("coins" : Str) = some vc := by kernel_rfl
theorem lF_terms (vc : V) (pt : Addr) (u : Int) : (lF vc pt u).lookup ("terms" : Str) = some (.ref pt) := by kernel_rfl
theorem lF_much (vc : V) (pt : Addr) (u : Int) : (lF vc pt u).lookup ("much" : Str) = some (.int u) := by kernel_rfl
theorem lF_answer (vc : V) (pt : Addr) (u : Int) : (lF vc pt u).lookup ("answer" : Str) = none := by kernel_rfl
theorem lF_answer_begin (vc : V) (pt : Addr) (u : Int) : (lF vc pt u).lookup ("answer_begin" : Str) = none := by kernel_rfl
theorem lF_answer_change (vc : V) (pt : Addr) (u : Int) : (lF vc pt u).lookup ("answer_change" : Str) = none := by kernel_rfl
theorem lF_answer_look (vc : V) (pt : Addr) (u : Int) : (lF vc pt u).lookup ("answer_look" : Str) = none := by kernel_rfl
theorem lF_is_full (vc : V) (pt : Addr) (u : Int) : (lF vc pt u).lookup ("is_full" : Str) = none := by kernel_rfl
theorem lF_has_term (vc : V) (pt : Addr) (u : Int) : (lF vc pt u).lookup ("has_term" : Str) = none := by kernel_rfl
theorem lF_answer_all (vc : V) (pt : Addr) (u : Int) : (lF vc pt u).lookup ("answer_all" : Str) = none := by kernel_rfl
theorem lF_answer_many (vc : V) (pt : Addr) (u : Int) : (lF vc pt u).lookup ("answer_many" : Str) = none := by kernel_rfl
theorem lF_answer_drop (vc : V) (pt : Addr) (u : Int) : (lF vc pt u).lookup ("answer_drop" : Str) = none := by kernel_rfl
theorem lF_answer_want (vc : V) (pt : Addr) (u : Int) : (lF vc pt u).lookup ("answer_want" : Str) = none := by kernel_rfl
theorem lF_answer_means (vc : V) (pt : Addr) (u : Int) : (lF vc pt u).lookup ("answer_means" : Str) = none := by kernel_rfl
theorem lF_answer_worth (vc : V) (pt : Addr) (u : Int) : (lF vc pt u).lookup ("answer_worth" : Str) = none := by kernel_rfl
theorem lF_answer_best (vc : V) (pt : Addr) (u : Int) : (lF vc pt u).lookup ("answer_best" : Str) = none := by kernel_rfl
theorem lF_answer_chances (vc : V) (pt : Addr) (u : Int) : (lF vc pt u).lookup ("answer_chances" : Str) = none := by kernel_rfl
def Own (L pt : Addr) : Addr → Prop := fun b => b = L ∨ b = pt
def LI (CL CC CF CT : Addr) (G : Hp) (L : Addr) (st : Sr59.State) : Prop := ∃ (dx pt : Addr) (vc : V) (u : Int) (qs : List Addr), L ≠ pt ∧ G L = some (.ins CL dx (lF vc pt u)) ∧ G pt = some (.lst (qs.map V.ref)) ∧
  (st = none → vc = .non) ∧ (∀ d, st = some d → ∃ pc, vc = .ref pc ∧ u = Sr58.bit d.much ∧ CoinsAt CC CF (off (Own L pt) G) pc d.s ∧ TermsAt CT (off (Own L pt) G) qs d.s d.terms ∧ d.terms.length ≤ 12 ∧ ∀ t ∈ d.terms, GoodT d.s t)
theorem LI.mono {CL CC CF CT : Addr} {G G' : Hp} {L : Addr} {st : Sr59.State} (e : Ex G G') (h : LI CL CC CF CT G L st) : LI CL CC CF CT G' L st := by
  obtain ⟨dx, pt, vc, u, qs, h1, h2, h3, h4, h5⟩ := h
  refine ⟨dx, pt, vc, u, qs, h1, e _ _ h2, e _ _ h3, h4, fun d hd => ?_⟩
  obtain ⟨pc, a1, a2, a3, a4, a5, a6⟩ := h5 d hd
  exact ⟨pc, a1, a2, a3.mono (off_mono e), a4.mono (off_mono e), a5, a6⟩
/-- what is there of a line that has begun -/
theorem LI.has {CL CC CF CT : Addr} {G : Hp} {L : Addr} {d : Sr59.Desk} (h : LI CL CC CF CT G L (some d)) : ∃ dx pt pc qs, L ≠ pt ∧ G L = some (.ins CL dx (lF (.ref pc) pt (Sr58.bit d.much))) ∧ G pt = some (.lst (qs.map V.ref)) ∧
    CoinsAt CC CF (off (Own L pt) G) pc d.s ∧ TermsAt CT (off (Own L pt) G) qs d.s d.terms ∧ d.terms.length ≤ 12 ∧ ∀ t ∈ d.terms, GoodT d.s t := by
  obtain ⟨dx, pt, vc, u, qs, h1, h2, h3, h4, h5⟩ := h
  obtain ⟨pc, rfl, rfl, a3, a4, a5, a6⟩ := h5 d rfl
  exact ⟨dx, pt, pc, qs, h1, h2, h3, a3, a4, a5, a6⟩
theorem ret_up {xs : List V} {H H' : Hp} {Q : VK} (k : RetL xs H Q) (e : Ex H H') : RetL xs H' Q := fun p H2 hp e2 h => k p H2 (fresh_back e hp) (e.trans e2) h
theorem q_fldL {K : PySem.W.Frag} {σ : L2.St} {H : Hp} {ta tv : TE} {a C dx : Addr} {fs : List (Str × V)} {f : Str} {D : Ends} {tz : TS} {xs : List V} (hv : EvL tv σ H xs) (ha : Ev ta σ H (.ref a)) (ho : H a = some (.ins C dx fs)) (c : Cls K C) (n : NoAttr K C f) (hl : fs.length < 1000) (k : ∀ p H1, H p = none → Ex H H1 → H1 p = some (.lst xs) → tz D σ (upd H1 a (.ins C dx (putF f (.ref p) fs)))) : tSeq (sFld K ta tv f) tz D σ H :=
  s_fldL (D := { D with nx := tz D }) hv ha ho c n hl k
/-! ### what may change, and what stands -/
section
variable {CL CC CF CT L : Addr} {GL GC H Hk H' : Hp} {kp : Addr → Prop} {st : Sr59.State}
/-- nothing changed -/
theorem stay {Q : VK} {xs : List V} (hL : LI CL CC CF CT GL L st) (eL : Ex GL (off kp H)) (eC : Ex GC (off kp H)) (hkp : ∀ b, kp b → ∃ o, H b = some o)
    (q : ∀ (H' : Hp) (p : Addr), LI CL CC CF CT (off kp H') L st → Ex GC (off kp H') → (∀ b o, kp b → H b = some o → H' b = some o) → ¬ kp p → H' p = some (.lst xs) → Q (.ref p) H') : RetL xs H Q := fun p H2 hp e h2 =>
  q H2 p (hL.mono (fun b o hb => off_mono e _ _ (eL _ _ hb))) (fun b o hb => off_mono e _ _ (eC _ _ hb)) (fun b o _ hb => e _ _ hb) (fun c => by
    obtain ⟨o, ho⟩ := hkp p c
    rw [ho] at hp
    cases hp) h2
/-- the line and its terms changed, all else stands -/
theorem change {pt p : Addr} {o1 o2 : HO} (h1 : GL L = some o1) (h2 : GL pt = some o2) (eL : Ex GL (off kp H)) (eC : Ex GC (off kp H)) (dis : ∀ b o, GL b = some o → GC b = none) (hkp : ∀ b, kp b → ∃ o, H b = some o)
    (old : ∀ b o, H b = some o → b ≠ L → b ≠ pt → Hk b = some o) (e : Ex Hk H') (hp : Hk p = none) : Ex GC (off kp H') ∧ (∀ b o, kp b → H b = some o → H' b = some o) ∧ ¬ kp p := by
  have n1 : ¬ kp L := off_not (eL _ _ h1)
  have n2 : ¬ kp pt := off_not (eL _ _ h2)
  refine ⟨fun b o hb => ?_, fun b o hk hb => ?_, fun c => ?_⟩
  · have m1 : b ≠ L := fun e => by
      rw [e, dis L _ h1] at hb
      cases hb
    have m2 : b ≠ pt := fun e => by
      rw [e, dis pt _ h2] at hb
      cases hb
    exact off_of (off_not (eC _ _ hb)) (e _ _ (old b o (off_ex _ _ (eC _ _ hb)) m1 m2))
  · exact e _ _ (old b o hb (fun e => n1 (e ▸ hk)) (fun e => n2 (e ▸ hk)))
  · obtain ⟨u, hu⟩ := hkp p c
    rw [old p u hu (fun e => n1 (e ▸ c)) (fun e => n2 (e ▸ c))] at hp
    cases hp
/-- what the line has but may not change -/
theorem keeps {pt : Addr} (eL : Ex GL (off kp H)) (old : ∀ b o, H b = some o → b ≠ L → b ≠ pt → Hk b = some o) (e : Ex Hk H') : Ex (off (Own L pt) GL) (off (Own L pt) (off kp H')) := fun b o hb => by
  have n := off_not hb
  have hb := off_ex _ _ hb
  exact off_of n (off_of (off_not (eL _ _ hb)) (e _ _ (old b o (off_ex _ _ (eL _ _ hb)) (fun e => n (.inl e)) (fun e => n (.inr e)))))
/-- what is new is neither the line's own nor kept -/
theorem news {pt : Addr} {H1 : Hp} {o1 o2 : HO} (h1 : H L = some o1) (h2 : H pt = some o2) (hkp : ∀ b, kp b → ∃ o, H b = some o) (st : ∀ b o, H1 b = some o → b ≠ L → b ≠ pt → H' b = some o) : Ex (newPart H H1) (off (Own L pt) (off kp H')) := fun b o hb => by
  have hn := newPart_none hb
  have m1 : b ≠ L := fun e => by
    rw [e, h1] at hn
    cases hn
  have m2 : b ≠ pt := fun e => by
    rw [e, h2] at hn
    cases hn
  refine off_of (fun h => h.elim m1 m2) (off_of (fun c => ?_) (st b o (newPart_ex _ _ hb) m1 m2))
  obtain ⟨u, hu⟩ := hkp b c
  rw [hu] at hn
  cases hn
end
section
variable {P : Program} {w : World} {K : PySem.W.Frag} {mg : Str → Option Value} {base : Heap} {a_DIVISORS a_SHAPES CL CC CF CT : Addr} {f : Addr} {fd : FuncData}
def FIELDS_Line : List Str := ["coins", "terms", "much"]
theorem ok_Line_init (F : Fun K "__init__" "Line.__init__" s_Line_init f fd) (Z : Clz K CL FIELDS_Line) : FnOk P w K mg base CX0 1 f fd ["self"] (sp_Line_init CL (LI CL CC CF CT)) := by
  refine F.ok sc_Line_init (fun vs H Q E h => ?_) (fun cdv A outer s H vs Q E hr h => ?_)
  · obtain ⟨p, dx, rfl, _⟩ := h
    rfl
  · obtain ⟨p, dx, rfl, hp, q⟩ := h
    refine ⟨_, (pss_cons (ps_fld (pv 0) pe_non rfl) (pss_cons (ps_fld (pv 0) (pe_lst pa_nil) rfl) (pss_one (ps_fld (pv 0) pe_int rfl)))), ?_⟩
    refine q_fld ev_c (ev_var rfl) hp Z.cls (Z.no _ (by simp [FIELDS_Line])) (by decide) fun H1 e1 => ?_
    refine q_fldL (xs := []) (el_lst ea_nil (by decide)) (ev_var rfl) upd_same Z.cls (Z.no _ (by simp [FIELDS_Line])) (show 1 < 1000 by decide) fun pt H2 hpt e2 h2 => ?_
    have npt : p ≠ pt := fun e => by
      rw [← e, upd_same] at hpt
      cases hpt
    have hpt0 : H pt = none := by
      rw [upd_ne npt.symm] at hpt
      exact fresh_back e1 hpt
    refine s_fld ev_c (ev_var rfl) upd_same Z.cls (Z.no _ (by simp [FIELDS_Line])) (show 2 < 1000 by decide) fun H3 e3 => ?_
    refine q _ (off (fun b => ¬ (b = p ∨ b = pt)) (upd H3 p (.ins CL dx (putF "much" (.int 0) (putF "terms" (.ref pt) (putF "coins" .non [])))))) off_ex (fun b o hb => ?_) ⟨dx, pt, .non, 0, [], npt, ?_, ?_, fun _ => rfl, fun d hd => by cases hd⟩ fun b o hb nb => ?_
    · have := off_not hb
      rcases Classical.not_not.mp this with rfl | rfl
      · exact .inl rfl
      · exact .inr hpt0
    · refine off_of (fun h => h (.inl rfl)) ?_
      rw [upd_same]
      exact congrArg some (congrArg (HO.ins CL dx) (by kernel_rfl))
    · refine off_of (fun h => h (.inr rfl)) ?_
      rw [upd_ne npt.symm]
      refine e3 _ _ ?_
      rw [upd_ne npt.symm]
      exact h2
    · rw [upd_ne nb]
      refine e3 _ _ ?_
      rw [upd_ne nb]
      refine e2 _ _ ?_
      rw [upd_ne nb]
      exact e1 _ _ hb
/-- what each method that may change the line promises: as Line.answer, of one call of the specification; A: what the call's own part has -/
def sp_meth (CL CC CF CT : Addr) (args : List V) (A : Hp → Prop) (st : Sr59.State) (cl : Sr59.Call) : Sp := fun vs H Q _ => ∃ (L : Addr) (kp : Addr → Prop) (GL GC : Hp), vs = .ref L :: args ∧ A GC ∧ LI CL CC CF CT GL L st ∧ Ex GL (off kp H) ∧ Ex GC (off kp H) ∧ (∀ b o, GL b = some o → GC b = none) ∧ (∀ b, kp b → ∃ o, H b = some o) ∧
  ∀ (H' : Hp) (p : Addr), LI CL CC CF CT (off kp H') L (Sr59.step st cl).1 → Ex GC (off kp H') → (∀ b o, kp b → H b = some o → H' b = some o) → ¬ kp p → H' p = some (.lst (ansV (Sr59.step st cl).2)) → Q (.ref p) H'
theorem step_begin_no {st : Sr59.State} {m k g : Int} (h : canB m k g = false) : Sr59.step st (.begin_ m k g) = (st, Sr59.say (-22)) := by
  unfold canB at h
  have h := of_decide_eq_false h
  show (if m < 1 ∨ 6 < m ∨ k < 1 ∨ (Sr59.SEEDBITS : Int) < m * k ∨ g < 0 ∨ 1 < g ∨ (g = 1 ∧ (k ≠ 2 ∨ 4 < m)) then (st, Sr59.say (-22)) else _) = _
  have hs : (Sr59.SEEDBITS : Int) = 10 := rfl
  rw [hs, if_pos]
  apply Classical.byContradiction
  intro hn
  apply h
  have n1 : ¬ m < 1 := fun h => hn (.inl h)
  have n2 : ¬ 6 < m := fun h => hn (.inr (.inl h))
  have n3 : ¬ k < 1 := fun h => hn (.inr (.inr (.inl h)))
  have n4 : ¬ 10 < m * k := fun h => hn (.inr (.inr (.inr (.inl h))))
  have n5 : ¬ g < 0 := fun h => hn (.inr (.inr (.inr (.inr (.inl h)))))
  have n6 : ¬ 1 < g := fun h => hn (.inr (.inr (.inr (.inr (.inr (.inl h))))))
  have n7 : ¬ (g = 1 ∧ (k ≠ 2 ∨ 4 < m)) := fun h => hn (.inr (.inr (.inr (.inr (.inr (.inr h))))))
  exact ⟨by omega, by omega, by omega, by omega, by omega, by omega, fun e => by omega⟩
theorem step_begin_yes {st : Sr59.State} {m k g : Int} (h : canB m k g = true) : ∃ s : Sr59.Space, GoodS s ∧ m = (s.m : Int) ∧ k = (s.k : Int) ∧ decide (g = 1) = s.faint ∧ Sr59.step st (.begin_ m k g) = (some ⟨s, [], false⟩, Sr59.say (2 ^ (s.m * s.k) : Nat)) := by
  unfold canB at h
  obtain ⟨a1, a2, a3, a4, a5, a6, a7⟩ := of_decide_eq_true h
  have hs : (Sr59.SEEDBITS : Int) = 10 := rfl
  have em : m = (m.toNat : Int) := by omega
  have ek : k = (k.toNat : Int) := by omega
  have emk : (m * k).toNat = m.toNat * k.toNat := by
    have : m * k = ((m.toNat * k.toNat : Nat) : Int) := by rw [Int.natCast_mul, ← em, ← ek]
    rw [this, Int.toNat_natCast]
  refine ⟨⟨m.toNat, k.toNat, g == 1⟩, ⟨?_, ?_, ?_, ?_, ?_⟩, em, ek, ?_, ?_⟩
  · show 1 ≤ m.toNat
    omega
  · show m.toNat ≤ 6
    omega
  · show 1 ≤ k.toNat
    omega
  · show m.toNat * k.toNat ≤ 10
    rw [← emk]
    omega
  · intro hf
    have hg : g = 1 := eq_of_beq hf
    have := a7 hg
    show k.toNat = 2 ∧ m.toNat ≤ 4
    omega
  · show decide (g = 1) = (g == 1)
    by_cases e : g = 1
    · rw [e]
      rfl
    · rw [decide_eq_false e]
      exact (beq_eq_false_iff_ne.mpr e).symm
  · show (if m < 1 ∨ 6 < m ∨ k < 1 ∨ (Sr59.SEEDBITS : Int) < m * k ∨ g < 0 ∨ 1 < g ∨ (g = 1 ∧ (k ≠ 2 ∨ 4 < m)) then (st, Sr59.say (-22)) else (some ⟨⟨m.toNat, k.toNat, g == 1⟩, [], false⟩, Sr59.say (2 ^ (m * k).toNat : Nat))) = _
    rw [if_neg, emk]
    rw [hs]
    rintro (h | h | h | h | h | h | ⟨h, h'⟩)
    · omega
    · omega
    · omega
    · omega
    · omega
    · omega
    · have := a7 h
      omega
theorem ok_Line_answer_begin (F : Fun K "answer_begin" "Line.answer_begin" s_Line_answer_begin f fd) (T : Txt K mg a_DIVISORS a_SHAPES) (Z : Clz K CL FIELDS_Line) (ZC : Clz K CC FIELDS_Coins) (O_can_begin : Ok P w K mg base 1 "can_begin" ["m", "k", "f"] sp_can_begin)
    (O_Coins : OkC P w K mg base 6 "Coins" CC ["self", "m", "k", "faint"] (sp_Coins_init CC CF)) :
    FnOk P w K mg base CX0 8 f fd ["self", "m", "k", "f"] (fun vs H Q E => ∃ (m k g : Int) (st : Sr59.State), sp_meth CL CC CF CT [.int m, .int k, .int g] (fun _ => True) st (.begin_ m k g) vs H Q E) := by
  refine F.ok sc_Line_answer_begin (fun vs H Q E h => ?_) (fun cdv A outer s0 H vs Q E hr h => ?_)
  · obtain ⟨m, k, g, st, L, kp, GL, GC, rfl, _⟩ := h
    rfl
  · obtain ⟨m, k, g, st, L, kp, GL, GC, rfl, _, hL, eL, eC, dis, hkp, q⟩ := h
    refine ⟨_, (pss_cons (ps_if (pt_not (pt_val (by_fn O_can_begin fun _ _ hm kp hb F => pe_call F (hr.mono (by decide)) rfl hm kp hb .nil pass0 (pa_cons (pv 1) (pa_cons (pv 2) (pa_cons (pv 3) pa_nil)))))) (pss_one (ps_ret (pe_lst (pa_cons (pe_gint rfl T.g_WRONG) pa_nil)))) pss_nil) (pss_cons (ps_fld (pv 0) (by_cls O_Coins fun _ _ hm M hb F => pe_make M F (hr.mono (by decide)) rfl hm hb .nil pass0 (pa_cons (pv 1) (pa_cons (pv 2) (pa_cons (pe_cmpR op_eq (pv 3) pe_int (nomark _)) pa_nil)))) rfl) (pss_cons (ps_fld (pv 0) (pe_lst pa_nil) rfl) (pss_cons (ps_fld (pv 0) pe_int rfl) (pss_one (ps_ret (pe_lst (pa_cons (pe_fldK (K := K) rfl (pe_fldK (K := K) rfl (pv 0) rfl) rfl) pa_nil)))))))), ?_⟩
    refine q_when (b := !canB m k g) (et_not (et_B (ev_fn (ea_cons (ev_var rfl) (ea_cons (ev_var rfl) (ea_cons (ev_var rfl) ea_nil))) fun H3 e3 Q q E => ⟨m, k, g, rfl, q⟩))) ?_ ?_
    · intro hb H1 e1
      have hb := not_false' hb
      rw [step_begin_no hb] at q
      exact s_retL (xs := intsV [-22]) (el_lst (ea_cons ev_c ea_nil) (by decide)) fun p H2 hp e2 h2 => ret_up (stay hL eL eC hkp q) e1 p H2 hp e2 h2
    · intro hb H1 e1
      obtain ⟨s, gs, rfl, rfl, hf, hstep⟩ := step_begin_yes (st := st) (not_true hb)
      rw [hstep] at q
      obtain ⟨dx, pt, vc, u, qs, nLp, hoL, hpt, _, _⟩ := hL
      have hoL1 : H1 L = some (.ins CL dx (lF vc pt u)) := e1 _ _ (off_ex _ _ (eL _ _ hoL))
      have nkL : ¬ kp L := off_not (eL _ _ hoL)
      refine q_fldP (Pr := fun x H2 => CoinsAt CC CF H2 x s) (en_make (vs := [.int (s.m : Int), .int (s.k : Int), .bl s.faint]) (ea_cons (ev_var rfl) (ea_cons (ev_var rfl) (ea_cons (ev_is (ev_op (ev_var rfl) ev_c (rv_eq rfl)) ?_) ea_nil))) (fun _ _ _ e h => h.mono e) fun H2 x dx' e nx nd ne Q q => ⟨x, dx', s, rfl, gs, upd_same, q⟩) (ev_var rfl) hoL1 Z.cls (Z.no _ (by simp [FIELDS_Line])) (show 3 < 1000 by decide) (fun _ _ _ e h => h.mono e) fun x H2 nx e2 hC2 => ?_
      · rw [← hf]
        congr 1
        rw [decide_eq_decide]
        exact ⟨fun h => V.int.inj h, fun h => by rw [h]⟩
      have f1 : putF "coins" (.ref x) (lF vc pt u) = lF (.ref x) pt u := by kernel_rfl
      rw [f1]
      refine q_fldL (xs := []) (el_lst ea_nil (by decide)) (ev_var rfl) upd_same Z.cls (Z.no _ (by simp [FIELDS_Line])) (show 3 < 1000 by decide) fun pt' H3 hpt' e3 h3 => ?_
      have f2 : putF "terms" (.ref pt') (lF (.ref x) pt u) = lF (.ref x) pt' u := by kernel_rfl
      rw [f2]
      refine q_fld ev_c (ev_var rfl) upd_same Z.cls (Z.no _ (by simp [FIELDS_Line])) (show 3 < 1000 by decide) fun H5 e5 => ?_
      have f3 : putF "much" (.int 0) (lF (.ref x) pt' u) = lF (.ref x) pt' 0 := by kernel_rfl
      rw [f3]
      have nLp' : L ≠ pt' := fun e => by
        rw [← e, upd_same] at hpt'
        cases hpt'
      -- the coins lie in the new part: neither the line nor its terms
      have kC : ∀ b o, newPart H1 H2 b = some o → b ≠ L ∧ b ≠ pt' ∧ ¬ kp b ∧ H5 b = some o := by
        intro b o hb
        have hn := newPart_none hb
        have n1 : b ≠ L := fun e => by
          rw [e, hoL1] at hn
          cases hn
        have h2b : (upd H2 L (.ins CL dx (lF (.ref x) pt u))) b = some o := by
          rw [upd_ne n1]
          exact newPart_ex _ _ hb
        refine ⟨n1, fun e => ?_, fun c => ?_, e5 _ _ ?_⟩
        · rw [e, hpt'] at h2b
          cases h2b
        · obtain ⟨u, hu⟩ := hkp b c
          rw [e1 _ _ hu] at hn
          cases hn
        · rw [upd_ne n1]
          exact e3 _ _ h2b
      have eC3 : Ex (newPart H1 H2) (upd H5 L (.ins CL dx (lF (.ref x) pt' 0))) := fun b o hb => by
        rw [upd_ne (kC b o hb).1]
        exact (kC b o hb).2.2.2
      obtain ⟨_, dxc, pf, pr, hoc, _, _⟩ := hC2.mono eC3
      -- what was there, but for the line
      have old : ∀ b o, H b = some o → b ≠ L → (upd H5 L (.ins CL dx (lF (.ref x) pt' 0))) b = some o := by
        intro b o hb nb
        rw [upd_ne nb]
        refine e5 _ _ ?_
        rw [upd_ne nb]
        refine e3 _ _ ?_
        rw [upd_ne nb]
        exact e2 _ _ (e1 _ _ hb)
      refine s_retL (xs := intsV [(2 ^ (s.m * s.k) : Nat)]) (el_lst (ea_cons (ev_fld (ev_fld (ev_var rfl) upd_same Z.cls (Z.no _ (by simp [FIELDS_Line])) (lF_coins _ _ _)) hoc ZC.cls (ZC.no _ (by simp [FIELDS_Coins])) (cF_seeds s pf pr)) ea_nil) (by show 1 ≤ 100000; decide)) fun p H4 hp e4 h4 => ?_
      have npt' : ¬ kp pt' := fun c => by
        obtain ⟨v, hv⟩ := hkp pt' c
        have : (upd H2 L (.ins CL dx (lF (.ref x) pt u))) pt' = some v := by
          rw [upd_ne nLp'.symm]
          exact e2 _ _ (e1 _ _ hv)
        rw [this] at hpt'
        cases hpt'
      obtain ⟨c1, c2, c3⟩ := change hoL hpt eL eC dis hkp (fun b o hb n1 _ => old b o hb n1) e4 hp
      refine q H4 p ⟨dx, pt', .ref x, 0, [], nLp', off_of nkL (e4 _ _ upd_same), off_of npt' (e4 _ _ ?_), (fun h => by cases h), fun d hd => ?_⟩ c1 c2 c3 h4
      · rw [upd_ne nLp'.symm]
        refine e5 _ _ ?_
        rw [upd_ne nLp'.symm]
        exact h3
      · obtain rfl := Option.some.inj hd
        refine ⟨x, rfl, rfl, hC2.mono fun b o hb => ?_, ⟨rfl, fun i t hi => by simp at hi⟩, Nat.zero_le _, fun t ht => by cases ht⟩
        obtain ⟨c1, c2, c3, c4⟩ := kC b o hb
        exact off_of (fun h => h.elim c1 c2) (off_of c3 (e4 _ _ (eC3 _ _ hb)))
end
end Few
set_option Elab.async false
set_option linter.all false
set_option maxRecDepth 100000
set_option maxHeartbeats 2000000
namespace Few
open PySem PySem.Spec PyProof.Rows L2 Evl
section
variable {K : PySem.W.Frag} {σ : L2.St} {H H' : Hp} {ta te : TE} {D : Ends} {tz : TS} {t : TA} {vs : List V} {sp : Sp} {E : XK} {Pr : Addr → Hp → Prop}
/-- a def that gives back something new -/
theorem ep_fn (hv : EvA t σ H vs) (hm : ∀ x H H', Ex H H' → Pr x H → Pr x H') (hs : ∀ H1, Ex H H1 → ∀ Q : VK, (∀ x H2, H1 x = none → Ex H1 H2 → Pr x (newPart H1 H2) → Q (.ref x) H2) → sp vs H1 Q E) : EvP (tCall sp [] E t) σ H Pr := fun H1 e Q q =>
  hv H1 e _ fun H2 e2 => by
    show sp (vs ++ []) H2 Q E
    rw [List.append_nil]
    exact hs H2 (e.trans e2) Q fun x H3 hx e3 h3 => q x H3 (fresh_back e2 hx) (e2.trans e3) (hm x _ _ (np_ex e2 (Ex.refl H3)) h3)
/-- xs.append of something new -/
theorem q_appP {l : Addr} {xs : List V} (hl : H l = some (.lst xs)) (ha : Ev ta σ H (.ref l)) (h : EvP te σ H Pr) (hm : ∀ x H H', Ex H H' → Pr x H → Pr x H') (hz : xs.length < 100000) (k : ∀ x H1, H x = none → Ex H H1 → Pr x (newPart H H1) → tz D σ (upd H1 l (.lst (xs ++ [.ref x])))) :
    tSeq (tDrop (tBM K "list" rAppend ta (tCons te tNil))) tz D σ H := ha H (Ex.refl H) _ fun H1 e1 =>
  ⟨Or.inl ⟨rfl, xs, sq_of (e1 l _ hl)⟩, h H1 e1 _ fun x H2 hx e2 hp => ⟨l, xs, .ref x, rfl, rfl, e2 l _ (e1 l _ hl), sz_lt hz, k x H2 (fresh_back e1 hx) (e1.trans e2) (hm x _ _ (np_ex e1 (Ex.refl H2)) hp)⟩⟩
/-- xs.pop(j) -/
theorem q_pop {l : Addr} {xs : List V} {j : Nat} {y : V} (hl : H l = some (.lst xs)) (ha : Ev ta σ H (.ref l)) (h : Ev te σ H (.int (j : Int))) (hj : xs[j]? = some y) (hz : xs.length < 100000) (k : ∀ H1, Ex H H1 → tz D σ (upd H1 l (.lst (xs.eraseIdx j)))) :
    tSeq (tDrop (tBM K "list" rPopAt ta (tCons te tNil))) tz D σ H := ha H (Ex.refl H) _ fun H1 e1 =>
  ⟨Or.inl ⟨rfl, xs, sq_of (e1 l _ hl)⟩, h H1 e1 _ fun H2 e2 => by
    have hlt : j < xs.length := (List.getElem?_eq_some_iff.mp hj).1
    refine ⟨l, xs, (j : Int), j, y, rfl, rfl, e2 l _ (e1 l _ hl), by omega, by omega, ?_, hj, k H2 (e1.trans e2)⟩
    unfold seqIndex?
    simp
    omega⟩
end
/-- a row of a call -/
theorem rows_at {H : Hp} {pr : Addr} {rows : List (List V)} {i : Nat} {row : List V} (h : Rows H pr rows) (hi : rows[i]? = some row) : ∃ (ps : List Addr) (a : Addr), H pr = some (.lst (ps.map V.ref)) ∧ (ps.map V.ref)[i]? = some (.ref a) ∧ H a = some (.lst row) := by
  obtain ⟨ps, h1, h2, h3⟩ := h
  obtain ⟨a, ha, hb⟩ := h3 i row hi
  exact ⟨ps, a, h1, by rw [List.getElem?_map, ha]; rfl, hb⟩
section
variable {P : Program} {w : World} {K : PySem.W.Frag} {mg : Str → Option Value} {base : Heap} {a_DIVISORS a_SHAPES CK CL CC CF CT : Addr} {f : Addr} {fd : FuncData}
/-! ### can_choose -/
def canC (n : Nat) (t : Int) (l : List Int) : Bool := decide (0 ≤ t) && (decide (t ≤ 20) && (decide (0 < l.length) && upFrom n (-1) l))
def sp_can_choose (CC CF : Addr) : Sp := fun vs H Q _ => ∃ (a b : Addr) (s : Sr59.Space) (t : Int) (l : List Int), vs = [.ref a, .int t, .ref b] ∧ CoinsAt CC CF H a s ∧ H b = some (.lst (intsV l)) ∧ RetV (.bl (canC (2 ^ s.m) t l)) H Q
theorem ok_can_choose (F : Fun K "can_choose" "can_choose" s_can_choose f fd) (T : Txt K mg a_DIVISORS a_SHAPES) (Z : Clz K CC FIELDS_Coins) (O_Coins_are_rising : OkM P w K mg base 2 CC "are_rising" ["self", "coins"] (sp_Coins_are_rising CC CF)) :
    FnOk P w K mg base CX0 3 f fd ["coins", "t", "chosen"] (sp_can_choose CC CF) := by
  refine F.ok sc_can_choose (fun vs H Q E h => ?_) (fun cdv A outer s0 H vs Q E hr h => ?_)
  · obtain ⟨a, b, s, t, l, rfl, _⟩ := h
    rfl
  · obtain ⟨a, b, s, t, l, rfl, hC, hb, q⟩ := h
    have c_Coins := Z.cls
    have hC0 := hC
    obtain ⟨g, dx, pf, pr, ho, hF, hR⟩ := hC0
    refine ⟨_, (pss_one (ps_ret (pe_and (pe_cmpR op_ge (pv 1) pe_int (nomark _)) (pe_and (pe_cmpR op_le (pv 1) (pe_gint rfl T.g_MOST_ONES) (nomark _)) (pe_and (pe_cmpR op_gt (pe_callB (cr_lenK (K := K) rfl) (by rfl) T.n_len PySem.boot_len (pa_cons (pv 2) pa_nil)) pe_int (nomark _)) (pe_one (by_mth O_Coins_are_rising fun _ _ hm hb F => pe_meth (pv 0) c_Coins hm F (hr.mono (by decide)) hb .nil pass0 (pa_cons (pv 2) pa_nil)))))))), ?_⟩
    refine s_ret (ev_andV (ev_op (ev_var rfl) ev_c rv_I0) fun _ => ev_andV (ev_op (ev_var rfl) ev_c rv_I0) fun _ => ev_andV (b := upFrom (2 ^ s.m) (-1) l) (ev_is (w := .bl (decide (0 < l.length))) (ev_op (ev_len (ev_var rfl) (sq_of hb)) ev_c rv_I0) ?_) fun _ => ev_meth (ev_var rfl) ho (cF_are_rising s pf pr) (ea_cons (ev_var rfl) ea_nil) fun H3 e3 Q q E => ⟨a, b, s, l, rfl, hC.mono e3, e3 _ _ hb, q⟩) fun H1 e1 => q.go e1
    rw [intsV_len]
    congr 1
    rw [decide_eq_decide]
    omega
/-! ### answer_of_coins -/
def sp_answer_of_coins (CK CC CF : Addr) : Sp := fun vs H Q _ => ∃ (a c : Addr) (d : Sr59.Desk) (kind : Int) (nums : List Int) (rows : List (List Int)) (b : Nat), vs = [.ref a, .ref c] ∧ CoinsAt CC CF H a d.s ∧ CallAt CK H c kind nums rows b ∧ Form kind nums rows ∧ 1 ≤ kind ∧ kind < 7 ∧
  RetL (intsV (Sr59Neutral.step (some d) ((kind :: nums) :: rows)).2) H Q
theorem ok_answer_of_coins (F : Fun K "answer_of_coins" "answer_of_coins" s_answer_of_coins f fd) (T : Txt K mg a_DIVISORS a_SHAPES) (ZK : Clz K CK FIELDS_Call) (O_answer_mul : Ok P w K mg base 2 "answer_mul" ["coins", "x", "y"] (sp_answer_mul CC CF)) (O_answer_pow : Ok P w K mg base 3 "answer_pow" ["coins", "x", "e"] (sp_answer_pow CC CF))
    (O_answer_coin : Ok P w K mg base 2 "answer_coin" ["coins", "s", "i"] (sp_answer_coin CC CF)) (O_answer_row : Ok P w K mg base 2 "answer_row" ["coins", "s"] (sp_answer_row CC CF)) (O_answer_count : Ok P w K mg base 3 "answer_count" ["coins", "row", "lie"] (sp_answer_count CC CF))
    (O_answer_odds : Ok P w K mg base 3 "answer_odds" ["coins", "row"] (sp_answer_odds CC CF)) : FnOk P w K mg base CX0 4 f fd ["coins", "call"] (sp_answer_of_coins CK CC CF) := by
  refine F.ok sc_answer_of_coins (fun vs H Q E h => ?_) (fun cdv A outer s0 H vs Q E hr h => ?_)
  · obtain ⟨a, c, d, kind, nums, rows, b, rfl, _⟩ := h
    rfl
  · obtain ⟨a, c, d, kind, nums, rows, b, rfl, hC, ⟨dx, pn, pr, hk, hn, hR⟩, hf, k1, k7, q⟩ := h
    refine ⟨_, (pss_cons (ps_set (i := 2) sc_answer_of_coins.nd rfl (.inl rfl) (pe_fldK (K := K) rfl (pv 1) rfl)) (pss_cons (ps_if (pt_cmpR op_eq (pe_fldK (K := K) rfl (pv 1) rfl) (pe_gint rfl T.g_MUL) (nomark _)) (pss_one (ps_ret (by_fn O_answer_mul fun _ _ hm kp hb F => pe_call F (hr.mono (by decide)) rfl hm kp hb .nil pass0 (pa_cons (pv 0) (pa_cons (pe_ixL (K := K) rfl (pv 2) pe_int (fun _ _ => rfl)) (pa_cons (pe_ixL (K := K) rfl (pv 2) pe_int (fun _ _ => rfl)) pa_nil)))))) pss_nil) (pss_cons (ps_if (pt_cmpR op_eq (pe_fldK (K := K) rfl (pv 1) rfl) (pe_gint rfl T.g_POW) (nomark _)) (pss_one (ps_ret (by_fn O_answer_pow fun _ _ hm kp hb F => pe_call F (hr.mono (by decide)) rfl hm kp hb .nil pass0 (pa_cons (pv 0) (pa_cons (pe_ixL (K := K) rfl (pv 2) pe_int (fun _ _ => rfl)) (pa_cons (pe_ixL (K := K) rfl (pv 2) pe_int (fun _ _ => rfl)) pa_nil)))))) pss_nil) (pss_cons (ps_if (pt_cmpR op_eq (pe_fldK (K := K) rfl (pv 1) rfl) (pe_gint rfl T.g_COIN) (nomark _)) (pss_one (ps_ret (by_fn O_answer_coin fun _ _ hm kp hb F => pe_call F (hr.mono (by decide)) rfl hm kp hb .nil pass0 (pa_cons (pv 0) (pa_cons (pe_ixL (K := K) rfl (pv 2) pe_int (fun _ _ => rfl)) (pa_cons (pe_ixL (K := K) rfl (pv 2) pe_int (fun _ _ => rfl)) pa_nil)))))) pss_nil) (pss_cons (ps_if (pt_cmpR op_eq (pe_fldK (K := K) rfl (pv 1) rfl) (pe_gint rfl T.g_ROW) (nomark _)) (pss_one (ps_ret (by_fn O_answer_row fun _ _ hm kp hb F => pe_call F (hr.mono (by decide)) rfl hm kp hb .nil pass0 (pa_cons (pv 0) (pa_cons (pe_ixL (K := K) rfl (pv 2) pe_int (fun _ _ => rfl)) pa_nil))))) pss_nil) (pss_cons (ps_if (pt_cmpR op_eq (pe_fldK (K := K) rfl (pv 1) rfl) (pe_gint rfl T.g_COUNT) (nomark _)) (pss_one (ps_ret (by_fn O_answer_count fun _ _ hm kp hb F => pe_call F (hr.mono (by decide)) rfl hm kp hb .nil pass0 (pa_cons (pv 0) (pa_cons (pe_ixL (K := K) rfl (pe_fldK (K := K) rfl (pv 1) rfl) pe_int (fun _ _ => rfl)) (pa_cons (pe_ixL (K := K) rfl (pe_fldK (K := K) rfl (pv 1) rfl) pe_int (fun _ _ => rfl)) pa_nil)))))) pss_nil) (pss_one (ps_ret (by_fn O_answer_odds fun _ _ hm kp hb F => pe_call F (hr.mono (by decide)) rfl hm kp hb .nil pass0 (pa_cons (pv 0) (pa_cons (pe_ixL (K := K) rfl (pe_fldK (K := K) rfl (pv 1) rfl) pe_int (fun _ _ => rfl)) pa_nil))))))))))), ?_⟩
    refine q_asg (ev_fld (ev_var rfl) hk ZK.cls (ZK.no _ (by simp [FIELDS_Call])) (kF_numbers _ _ _ _)) fun H1 e => ?_
    cases hf with
    | c0 => omega
    | c1 x y =>
      (refine q_when (b := true) (et_is (et_test (ev_op (ev_fld (ev_var rfl) (e _ _ hk) ZK.cls (ZK.no _ (by simp [FIELDS_Call])) (kF_kind _ _ _ _)) ev_c (rv_eq rfl))) (dec_int.trans (by decide))) (fun _ H1 e1 => ?_) (fun h => by cases h)); have e := e.trans e1
      exact s_retC (ea_cons (ev_var rfl) (ea_cons (ev_op (ev_var rfl) ev_c (rv_ixL (i := ((0 : Nat) : Int)) (v := .int x) (sq_of (e _ _ hn)) (at_nat rfl))) (ea_cons (ev_op (ev_var rfl) ev_c (rv_ixL (i := ((1 : Nat) : Int)) (v := .int y) (sq_of (e _ _ hn)) (at_nat rfl))) ea_nil))) fun H2 e2 => ⟨a, d, x, y, rfl, hC.mono (e.trans e2), ret_up q (e.trans e2)⟩
    | c2 x y =>
      (refine q_when (b := false) (et_is (et_test (ev_op (ev_fld (ev_var rfl) (e _ _ hk) ZK.cls (ZK.no _ (by simp [FIELDS_Call])) (kF_kind _ _ _ _)) ev_c (rv_eq rfl))) (dec_int.trans (by decide))) (fun h => by cases h) fun _ H1 e1 => ?_); have e := e.trans e1
      (refine q_when (b := true) (et_is (et_test (ev_op (ev_fld (ev_var rfl) (e _ _ hk) ZK.cls (ZK.no _ (by simp [FIELDS_Call])) (kF_kind _ _ _ _)) ev_c (rv_eq rfl))) (dec_int.trans (by decide))) (fun _ H1 e1 => ?_) (fun h => by cases h)); have e := e.trans e1
      exact s_retC (ea_cons (ev_var rfl) (ea_cons (ev_op (ev_var rfl) ev_c (rv_ixL (i := ((0 : Nat) : Int)) (v := .int x) (sq_of (e _ _ hn)) (at_nat rfl))) (ea_cons (ev_op (ev_var rfl) ev_c (rv_ixL (i := ((1 : Nat) : Int)) (v := .int y) (sq_of (e _ _ hn)) (at_nat rfl))) ea_nil))) fun H2 e2 => ⟨a, d, x, y, rfl, hC.mono (e.trans e2), ret_up q (e.trans e2)⟩
    | c3 x y =>
      (refine q_when (b := false) (et_is (et_test (ev_op (ev_fld (ev_var rfl) (e _ _ hk) ZK.cls (ZK.no _ (by simp [FIELDS_Call])) (kF_kind _ _ _ _)) ev_c (rv_eq rfl))) (dec_int.trans (by decide))) (fun h => by cases h) fun _ H1 e1 => ?_); have e := e.trans e1
      (refine q_when (b := false) (et_is (et_test (ev_op (ev_fld (ev_var rfl) (e _ _ hk) ZK.cls (ZK.no _ (by simp [FIELDS_Call])) (kF_kind _ _ _ _)) ev_c (rv_eq rfl))) (dec_int.trans (by decide))) (fun h => by cases h) fun _ H1 e1 => ?_); have e := e.trans e1
      (refine q_when (b := true) (et_is (et_test (ev_op (ev_fld (ev_var rfl) (e _ _ hk) ZK.cls (ZK.no _ (by simp [FIELDS_Call])) (kF_kind _ _ _ _)) ev_c (rv_eq rfl))) (dec_int.trans (by decide))) (fun _ H1 e1 => ?_) (fun h => by cases h)); have e := e.trans e1
      exact s_retC (ea_cons (ev_var rfl) (ea_cons (ev_op (ev_var rfl) ev_c (rv_ixL (i := ((0 : Nat) : Int)) (v := .int x) (sq_of (e _ _ hn)) (at_nat rfl))) (ea_cons (ev_op (ev_var rfl) ev_c (rv_ixL (i := ((1 : Nat) : Int)) (v := .int y) (sq_of (e _ _ hn)) (at_nat rfl))) ea_nil))) fun H2 e2 => ⟨a, d, x, y, rfl, hC.mono (e.trans e2), ret_up q (e.trans e2)⟩
    | c4 x =>
      (refine q_when (b := false) (et_is (et_test (ev_op (ev_fld (ev_var rfl) (e _ _ hk) ZK.cls (ZK.no _ (by simp [FIELDS_Call])) (kF_kind _ _ _ _)) ev_c (rv_eq rfl))) (dec_int.trans (by decide))) (fun h => by cases h) fun _ H1 e1 => ?_); have e := e.trans e1
      (refine q_when (b := false) (et_is (et_test (ev_op (ev_fld (ev_var rfl) (e _ _ hk) ZK.cls (ZK.no _ (by simp [FIELDS_Call])) (kF_kind _ _ _ _)) ev_c (rv_eq rfl))) (dec_int.trans (by decide))) (fun h => by cases h) fun _ H1 e1 => ?_); have e := e.trans e1
      (refine q_when (b := false) (et_is (et_test (ev_op (ev_fld (ev_var rfl) (e _ _ hk) ZK.cls (ZK.no _ (by simp [FIELDS_Call])) (kF_kind _ _ _ _)) ev_c (rv_eq rfl))) (dec_int.trans (by decide))) (fun h => by cases h) fun _ H1 e1 => ?_); have e := e.trans e1
      (refine q_when (b := true) (et_is (et_test (ev_op (ev_fld (ev_var rfl) (e _ _ hk) ZK.cls (ZK.no _ (by simp [FIELDS_Call])) (kF_kind _ _ _ _)) ev_c (rv_eq rfl))) (dec_int.trans (by decide))) (fun _ H1 e1 => ?_) (fun h => by cases h)); have e := e.trans e1
      exact s_retC (ea_cons (ev_var rfl) (ea_cons (ev_op (ev_var rfl) ev_c (rv_ixL (i := ((0 : Nat) : Int)) (v := .int x) (sq_of (e _ _ hn)) (at_nat rfl))) ea_nil)) fun H2 e2 => ⟨a, d, x, rfl, hC.mono (e.trans e2), ret_up q (e.trans e2)⟩
    | c5 r s lr _ ls _ =>
      (refine q_when (b := false) (et_is (et_test (ev_op (ev_fld (ev_var rfl) (e _ _ hk) ZK.cls (ZK.no _ (by simp [FIELDS_Call])) (kF_kind _ _ _ _)) ev_c (rv_eq rfl))) (dec_int.trans (by decide))) (fun h => by cases h) fun _ H1 e1 => ?_); have e := e.trans e1
      (refine q_when (b := false) (et_is (et_test (ev_op (ev_fld (ev_var rfl) (e _ _ hk) ZK.cls (ZK.no _ (by simp [FIELDS_Call])) (kF_kind _ _ _ _)) ev_c (rv_eq rfl))) (dec_int.trans (by decide))) (fun h => by cases h) fun _ H1 e1 => ?_); have e := e.trans e1
      (refine q_when (b := false) (et_is (et_test (ev_op (ev_fld (ev_var rfl) (e _ _ hk) ZK.cls (ZK.no _ (by simp [FIELDS_Call])) (kF_kind _ _ _ _)) ev_c (rv_eq rfl))) (dec_int.trans (by decide))) (fun h => by cases h) fun _ H1 e1 => ?_); have e := e.trans e1
      (refine q_when (b := false) (et_is (et_test (ev_op (ev_fld (ev_var rfl) (e _ _ hk) ZK.cls (ZK.no _ (by simp [FIELDS_Call])) (kF_kind _ _ _ _)) ev_c (rv_eq rfl))) (dec_int.trans (by decide))) (fun h => by cases h) fun _ H1 e1 => ?_); have e := e.trans e1
      (refine q_when (b := true) (et_is (et_test (ev_op (ev_fld (ev_var rfl) (e _ _ hk) ZK.cls (ZK.no _ (by simp [FIELDS_Call])) (kF_kind _ _ _ _)) ev_c (rv_eq rfl))) (dec_int.trans (by decide))) (fun _ H1 e1 => ?_) (fun h => by cases h)); have e := e.trans e1
      obtain ⟨ps, ra, g1, g2, g3⟩ := rows_at (i := 0) hR rfl
      obtain ⟨ps', sa, g4, g5, g6⟩ := rows_at (i := 1) hR rfl
      exact s_retC (ea_cons (ev_var rfl) (ea_cons (ev_op (ev_fld (ev_var rfl) (e _ _ hk) ZK.cls (ZK.no _ (by simp [FIELDS_Call])) (kF_rows _ _ _ _)) ev_c (rv_ixL (i := ((0 : Nat) : Int)) (sq_of (e _ _ g1)) (at_nat g2))) (ea_cons (ev_op (ev_fld (ev_var rfl) (e _ _ hk) ZK.cls (ZK.no _ (by simp [FIELDS_Call])) (kF_rows _ _ _ _)) ev_c (rv_ixL (i := ((1 : Nat) : Int)) (sq_of (e _ _ g4)) (at_nat g5))) ea_nil))) fun H2 e2 => ⟨a, ra, sa, d, r, s, rfl, hC.mono (e.trans e2), (e.trans e2) _ _ g3, (e.trans e2) _ _ g6, ret_up q (e.trans e2)⟩
    | c6 r lr _ =>
      (refine q_when (b := false) (et_is (et_test (ev_op (ev_fld (ev_var rfl) (e _ _ hk) ZK.cls (ZK.no _ (by simp [FIELDS_Call])) (kF_kind _ _ _ _)) ev_c (rv_eq rfl))) (dec_int.trans (by decide))) (fun h => by cases h) fun _ H1 e1 => ?_); have e := e.trans e1
      (refine q_when (b := false) (et_is (et_test (ev_op (ev_fld (ev_var rfl) (e _ _ hk) ZK.cls (ZK.no _ (by simp [FIELDS_Call])) (kF_kind _ _ _ _)) ev_c (rv_eq rfl))) (dec_int.trans (by decide))) (fun h => by cases h) fun _ H1 e1 => ?_); have e := e.trans e1
      (refine q_when (b := false) (et_is (et_test (ev_op (ev_fld (ev_var rfl) (e _ _ hk) ZK.cls (ZK.no _ (by simp [FIELDS_Call])) (kF_kind _ _ _ _)) ev_c (rv_eq rfl))) (dec_int.trans (by decide))) (fun h => by cases h) fun _ H1 e1 => ?_); have e := e.trans e1
      (refine q_when (b := false) (et_is (et_test (ev_op (ev_fld (ev_var rfl) (e _ _ hk) ZK.cls (ZK.no _ (by simp [FIELDS_Call])) (kF_kind _ _ _ _)) ev_c (rv_eq rfl))) (dec_int.trans (by decide))) (fun h => by cases h) fun _ H1 e1 => ?_); have e := e.trans e1
      (refine q_when (b := false) (et_is (et_test (ev_op (ev_fld (ev_var rfl) (e _ _ hk) ZK.cls (ZK.no _ (by simp [FIELDS_Call])) (kF_kind _ _ _ _)) ev_c (rv_eq rfl))) (dec_int.trans (by decide))) (fun h => by cases h) fun _ H1 e1 => ?_); have e := e.trans e1
      obtain ⟨ps, ra, g1, g2, g3⟩ := rows_at (i := 0) hR rfl
      exact s_retC (ea_cons (ev_var rfl) (ea_cons (ev_op (ev_fld (ev_var rfl) (e _ _ hk) ZK.cls (ZK.no _ (by simp [FIELDS_Call])) (kF_rows _ _ _ _)) ev_c (rv_ixL (i := ((0 : Nat) : Int)) (sq_of (e _ _ g1)) (at_nat g2))) ea_nil)) fun H2 e2 => ⟨a, ra, d, r, rfl, hC.mono (e.trans e2), (e.trans e2) _ _ g3, lr, ret_up q (e.trans e2)⟩
    | c7 => omega
    | c8 => omega
    | c9 => omega
    | c10 => omega
    | c11 => omega
    | c12 => omega
    | c13 => omega
    | c14 => omega
    | c15 => omega
/-! ### is_full, has_term -/
def sp_Line_is_full (CL CC CF CT : Addr) : Sp := fun vs H Q _ => ∃ (L : Addr) (d : Sr59.Desk), vs = [.ref L] ∧ LI CL CC CF CT H L (some d) ∧ RetV (.bl (decide (d.terms.length = 12))) H Q
theorem ok_Line_is_full (F : Fun K "is_full" "Line.is_full" s_Line_is_full f fd) (T : Txt K mg a_DIVISORS a_SHAPES) (Z : Clz K CL FIELDS_Line) : FnOk P w K mg base CX0 1 f fd ["self"] (sp_Line_is_full CL CC CF CT) := by
  refine F.ok sc_Line_is_full (fun vs H Q E h => ?_) (fun cdv A outer s0 H vs Q E hr h => ?_)
  · obtain ⟨L, d, rfl, _⟩ := h
    rfl
  · obtain ⟨L, d, rfl, hL, q⟩ := h
    obtain ⟨dx, pt, pc, qs, nLp, hoL, hpt, hC, hT, hz, hG⟩ := hL.has
    refine ⟨_, (pss_one (ps_ret (pe_cmpR op_eq (pe_callB (cr_lenK (K := K) rfl) (by rfl) T.n_len PySem.boot_len (pa_cons (pe_fldK (K := K) rfl (pv 0) rfl) pa_nil)) (pe_gint rfl T.g_MOST_TERMS) (nomark _)))), ?_⟩
    refine s_ret (ev_is (ev_op (ev_len (ev_fld (ev_var rfl) hoL Z.cls (Z.no _ (by simp [FIELDS_Line])) (lF_terms _ _ _)) (sq_of hpt)) ev_c (rv_eq rfl)) ?_) fun H1 e1 => q.go e1
    rw [dec_int, List.length_map, hT.1]
    congr 1
    rw [decide_eq_decide]
    omega
def sp_Line_has_term (CL CC CF CT : Addr) : Sp := fun vs H Q _ => ∃ (L : Addr) (d : Sr59.Desk) (j : Int), vs = [.ref L, .int j] ∧ LI CL CC CF CT H L (some d) ∧ RetV (.bl (inR d.terms.length j)) H Q
theorem ok_Line_has_term (F : Fun K "has_term" "Line.has_term" s_Line_has_term f fd) (T : Txt K mg a_DIVISORS a_SHAPES) (Z : Clz K CL FIELDS_Line) : FnOk P w K mg base CX0 1 f fd ["self", "j"] (sp_Line_has_term CL CC CF CT) := by
  refine F.ok sc_Line_has_term (fun vs H Q E h => ?_) (fun cdv A outer s0 H vs Q E hr h => ?_)
  · obtain ⟨L, d, j, rfl, _⟩ := h
    rfl
  · obtain ⟨L, d, j, rfl, hL, q⟩ := h
    obtain ⟨dx, pt, pc, qs, nLp, hoL, hpt, hC, hT, hz, hG⟩ := hL.has
    refine ⟨_, (pss_one (ps_ret (pe_and (pe_cmpR op_ge (pv 1) pe_int (nomark _)) (pe_one (pe_cmpR op_lt (pv 1) (pe_callB (cr_lenK (K := K) rfl) (by rfl) T.n_len PySem.boot_len (pa_cons (pe_fldK (K := K) rfl (pv 0) rfl) pa_nil)) (nomark _)))))), ?_⟩
    refine s_ret (ev_is (ev_andV (ev_op (ev_var rfl) ev_c rv_I0) fun _ => ev_op (ev_var rfl) (ev_len (ev_fld (ev_var rfl) hoL Z.cls (Z.no _ (by simp [FIELDS_Line])) (lF_terms _ _ _)) (sq_of hpt)) rv_I0) ?_) fun H1 e1 => q.go e1
    rw [List.length_map, hT.1]
    rfl
end
end Few
set_option Elab.async false
set_option linter.all false
set_option maxRecDepth 100000
set_option maxHeartbeats 2000000
namespace Few
open PySem PySem.Spec PyProof.Rows L2 Evl
/-! ### the specification, call by call -/
theorem step_none {d : Sr59.Desk} {cl : Sr59.Call} {a : Sr59.Ans} (hb : ∀ m k f, cl ≠ .begin_ m k f) (h : Sr59.doing d cl = (none, a)) : Sr59.step (some d) cl = (some d, a) := by
  cases cl <;> first | exact absurd rfl (hb _ _ _) | simp only [Sr59.step, h]
theorem step_some {d r : Sr59.Desk} {cl : Sr59.Call} {a : Sr59.Ans} (h : Sr59.doing d cl = (some r, a)) : Sr59.step (some d) cl = (some r, a) := by
  cases cl <;> first | (simp only [Sr59.step, h]; done) | cases h
theorem want_no {d : Sr59.Desk} {v : Int} (h0 : v ≠ 0) (h1 : v ≠ 1) : Sr59.doing d (.want v) = (none, Sr59.say (-22)) := by
  show (if v < 0 ∨ 1 < v then (none, Sr59.say (-22)) else _) = _
  rw [if_pos (by omega)]
theorem want_yes {d : Sr59.Desk} {v : Int} (h : v = 0 ∨ v = 1) : Sr59.doing d (.want v) = (some { d with much := v == 1 }, Sr59.say (Sr59.bit d.much)) := by
  show (if v < 0 ∨ 1 < v then _ else (some { d with much := v == 1 }, Sr59.say (Sr59.bit d.much))) = _
  rw [if_neg (by omega)]
theorem inR_no {n : Nat} {j : Int} (h : inR n j = false) : j < 0 ∨ (n : Int) ≤ j := by
  unfold inR at h
  rw [Bool.and_eq_false_iff, decide_eq_false_iff_not, decide_eq_false_iff_not] at h
  omega
theorem drop_no {d : Sr59.Desk} {j : Int} (h : inR d.terms.length j = false) : Sr59.doing d (.drop j) = (none, Sr59.say (-2)) := by
  show (if j < 0 ∨ (d.terms.length : Int) ≤ j then (none, Sr59.say (-2)) else _) = _
  rw [if_pos (inR_no h)]
theorem drop_yes {d : Sr59.Desk} {j : Nat} (h : j < d.terms.length) : Sr59.doing d (.drop (j : Int)) = (some { d with terms := d.terms.eraseIdx j }, Sr59.say (d.terms.length - 1 : Nat)) := by
  show (if (j : Int) < 0 ∨ (d.terms.length : Int) ≤ (j : Int) then _ else (some { d with terms := d.terms.eraseIdx (j : Int).toNat }, Sr59.say (d.terms.length - 1 : Nat))) = _
  rw [if_neg (by omega)]
  rfl
theorem canL_of {n : Nat} {l : List Int} (h : canL n l = true) : 1 ≤ l.length ∧ l.length ≤ 20 ∧ ∀ x ∈ l, 0 ≤ x ∧ x < 2 * (n : Int) := by
  unfold canL at h
  rw [Bool.and_eq_true, Bool.and_eq_true, decide_eq_true_eq, decide_eq_true_eq] at h
  refine ⟨h.1.1, h.1.2, fun x hx => ?_⟩
  have := List.all_eq_true.mp h.2 x hx
  rw [Bool.and_eq_true, decide_eq_true_eq, decide_eq_true_eq] at this
  exact this
theorem isW_of {x : Int} (h : isW x = true) : -100 ≤ x ∧ x ≤ 100 := of_decide_eq_true h
theorem all_no {d : Sr59.Desk} {x : Int} {l : List Int} (h : (!isW x || !canL (2 ^ d.s.m) l) = true) : Sr59.doing d (.all x l) = (none, Sr59.say (-22)) := by
  show (if x < -100 ∨ 100 < x ∨ l = [] ∨ 20 < l.length ∨ l.any (fun x => decide (x < 0) || decide (2 * (Sr59.coins d.s : Int) ≤ x)) = true then (none, Sr59.say (-22)) else _) = _
  rw [if_pos]
  apply Classical.byContradiction
  intro hn
  have n1 : ¬ x < -100 := fun h => hn (.inl h)
  have n2 : ¬ 100 < x := fun h => hn (.inr (.inl h))
  have n3 : ¬ l = [] := fun h => hn (.inr (.inr (.inl h)))
  have n4 : ¬ 20 < l.length := fun h => hn (.inr (.inr (.inr (.inl h))))
  have n5 : ¬ l.any (fun x => decide (x < 0) || decide (2 * (Sr59.coins d.s : Int) ≤ x)) = true := fun h => hn (.inr (.inr (.inr (.inr h))))
  have e1 : isW x = true := decide_eq_true ⟨by omega, by omega⟩
  have e2 : canL (2 ^ d.s.m) l = true := by
    unfold canL
    rw [Bool.and_eq_true, Bool.and_eq_true, decide_eq_true_eq, decide_eq_true_eq]
    refine ⟨⟨List.length_pos_iff.mpr n3, by omega⟩, List.all_eq_true.mpr fun y hy => ?_⟩
    rw [Bool.and_eq_true, decide_eq_true_eq, decide_eq_true_eq]
    have hc : (Sr59.coins d.s : Int) = ((2 ^ d.s.m : Nat) : Int) := rfl
    refine ⟨Classical.byContradiction fun c => n5 (List.any_eq_true.mpr ⟨y, hy, ?_⟩), Classical.byContradiction fun c => n5 (List.any_eq_true.mpr ⟨y, hy, ?_⟩)⟩
    · rw [Bool.or_eq_true, decide_eq_true_eq, decide_eq_true_eq]
      omega
    · rw [Bool.or_eq_true, decide_eq_true_eq, decide_eq_true_eq]
      omega
  rw [e1, e2] at h
  cases h
theorem all_ok {d : Sr59.Desk} {x : Int} {l : List Int} (h1 : isW x = true) (h2 : canL (2 ^ d.s.m) l = true) : Sr59.doing d (.all x l) = if Sr59.TERMS ≤ d.terms.length then (none, Sr59.say (-28)) else (some { d with terms := d.terms ++ [(⟨x, .all (Sr59.nats l)⟩ : Sr58.Term)] }, Sr59.say (d.terms.length : Nat)) := by
  show (if x < -100 ∨ 100 < x ∨ l = [] ∨ 20 < l.length ∨ l.any (fun x => decide (x < 0) || decide (2 * (Sr59.coins d.s : Int) ≤ x)) = true then _ else (if Sr59.TERMS ≤ d.terms.length then (none, Sr59.say (-28)) else (some { d with terms := d.terms ++ [(⟨x, .all (Sr59.nats l)⟩ : Sr58.Term)] }, Sr59.say (d.terms.length : Nat)))) = _
  rw [if_neg]
  obtain ⟨a1, a2⟩ := isW_of h1
  obtain ⟨b1, b2, b3⟩ := canL_of h2
  have hc : (Sr59.coins d.s : Int) = ((2 ^ d.s.m : Nat) : Int) := rfl
  rintro (h | h | h | h | h)
  · omega
  · omega
  · subst h
    exact absurd b1 (by decide)
  · omega
  · obtain ⟨y, hy, h⟩ := List.any_eq_true.mp h
    rw [Bool.or_eq_true, decide_eq_true_eq, decide_eq_true_eq] at h
    have := b3 y hy
    omega
theorem canC_of {n : Nat} {t : Int} {l : List Int} (h : canC n t l = true) : 0 ≤ t ∧ t ≤ 20 ∧ 0 < l.length ∧ upFrom n (-1) l = true := by
  unfold canC at h
  rw [Bool.and_eq_true, Bool.and_eq_true, Bool.and_eq_true, decide_eq_true_eq, decide_eq_true_eq, decide_eq_true_eq] at h
  exact h
theorem many_no {d : Sr59.Desk} {x t : Int} {l : List Int} (h : (!isW x || !canC (2 ^ d.s.m) t l) = true) : Sr59.doing d (.many x t l) = (none, Sr59.say (-22)) := by
  show (if x < -100 ∨ 100 < x ∨ l = [] ∨ Sr59.okCoins d l = false ∨ t < 0 ∨ 20 < t then (none, Sr59.say (-22)) else _) = _
  rw [if_pos]
  apply Classical.byContradiction
  intro hn
  have n1 : ¬ x < -100 := fun h => hn (.inl h)
  have n2 : ¬ 100 < x := fun h => hn (.inr (.inl h))
  have n3 : ¬ l = [] := fun h => hn (.inr (.inr (.inl h)))
  have n4 : ¬ Sr59.okCoins d l = false := fun h => hn (.inr (.inr (.inr (.inl h))))
  have n5 : ¬ t < 0 := fun h => hn (.inr (.inr (.inr (.inr (.inl h)))))
  have n6 : ¬ 20 < t := fun h => hn (.inr (.inr (.inr (.inr (.inr h)))))
  have e1 : isW x = true := decide_eq_true ⟨by omega, by omega⟩
  have e2 : canC (2 ^ d.s.m) t l = true := by
    unfold canC
    rw [Bool.and_eq_true, Bool.and_eq_true, Bool.and_eq_true, decide_eq_true_eq, decide_eq_true_eq, decide_eq_true_eq, ← okCoins_eq]
    exact ⟨by omega, by omega, List.length_pos_iff.mpr n3, by simpa using n4⟩
  rw [e1, e2] at h
  cases h
theorem many_ok {d : Sr59.Desk} {x t : Int} {l : List Int} (h1 : isW x = true) (h2 : canC (2 ^ d.s.m) t l = true) : Sr59.doing d (.many x t l) = if Sr59.TERMS ≤ d.terms.length then (none, Sr59.say (-28)) else (some { d with terms := d.terms ++ [(⟨x, .many t.toNat (Sr59.nats l)⟩ : Sr58.Term)] }, Sr59.say (d.terms.length : Nat)) := by
  show (if x < -100 ∨ 100 < x ∨ l = [] ∨ Sr59.okCoins d l = false ∨ t < 0 ∨ 20 < t then _ else (if Sr59.TERMS ≤ d.terms.length then (none, Sr59.say (-28)) else (some { d with terms := d.terms ++ [(⟨x, .many t.toNat (Sr59.nats l)⟩ : Sr58.Term)] }, Sr59.say (d.terms.length : Nat)))) = _
  rw [if_neg]
  obtain ⟨a1, a2⟩ := isW_of h1
  obtain ⟨b1, b2, b3, b4⟩ := canC_of h2
  rintro (h | h | h | h | h | h)
  · omega
  · omega
  · subst h
    exact absurd b3 (by decide)
  · rw [okCoins_eq, b4] at h
    cases h
  · omega
  · omega
/-! ### terms, one more or one less -/
theorem erase_map {α β : Type} (g : α → β) : ∀ (l : List α) (i : Nat), (l.map g).eraseIdx i = (l.eraseIdx i).map g
  | [], _ => rfl
  | _ :: _, 0 => rfl
  | a :: l, i + 1 => by
    show g a :: (l.map g).eraseIdx i = g a :: (l.eraseIdx i).map g
    rw [erase_map g l i]
theorem TermsAt.snoc {CT : Addr} {G : Hp} {qs : List Addr} {s : Sr59.Space} {ts : List Sr58.Term} {q : Addr} {t : Sr58.Term} (h : TermsAt CT G qs s ts) (hq : TermAt CT G q s t) : TermsAt CT G (qs ++ [q]) s (ts ++ [t]) := by
  have hl := h.1
  refine ⟨by rw [List.length_append, List.length_append, hl]; rfl, fun i u hi => ?_⟩
  by_cases c : i < ts.length
  · rw [List.getElem?_append_left c] at hi
    obtain ⟨q', h1, h2⟩ := h.2 i u hi
    exact ⟨q', by rw [List.getElem?_append_left (by omega)]; exact h1, h2⟩
  · rw [List.getElem?_append_right (by omega)] at hi
    have c2 : i - ts.length = 0 := by
      have := (List.getElem?_eq_some_iff.mp hi).1
      rw [List.length_singleton] at this
      omega
    rw [c2] at hi
    obtain rfl := Option.some.inj hi
    exact ⟨q, by rw [List.getElem?_append_right (by omega), hl, c2]; rfl, hq⟩
theorem TermsAt.less {CT : Addr} {G : Hp} {qs : List Addr} {s : Sr59.Space} {ts : List Sr58.Term} (h : TermsAt CT G qs s ts) (j : Nat) : TermsAt CT G (qs.eraseIdx j) s (ts.eraseIdx j) := by
  have hl := h.1
  refine ⟨by rw [List.length_eraseIdx, List.length_eraseIdx, hl], fun i u hi => ?_⟩
  rw [List.getElem?_eraseIdx] at hi
  rw [List.getElem?_eraseIdx]
  split at hi
  · rename_i c
    rw [if_pos c]
    exact h.2 i u hi
  · rename_i c
    rw [if_neg c]
    exact h.2 (i + 1) u hi
section
variable {CL CC CF CT L : Addr} {GL GC H H1 H2 H' : Hp} {kp : Addr → Prop} {d : Sr59.Desk}
/-- one more term -/
theorem add_end {dx pt pc x p : Addr} {qs : List Addr} {t : Sr58.Term} (nLp : L ≠ pt) (hoL : GL L = some (.ins CL dx (lF (.ref pc) pt (Sr58.bit d.much)))) (hpt : GL pt = some (.lst (qs.map V.ref))) (hC : CoinsAt CC CF (off (Own L pt) GL) pc d.s) (hT : TermsAt CT (off (Own L pt) GL) qs d.s d.terms) (hG : ∀ t ∈ d.terms, GoodT d.s t)
    (eL : Ex GL (off kp H)) (eC : Ex GC (off kp H)) (dis : ∀ b o, GL b = some o → GC b = none) (hkp : ∀ b, kp b → ∃ o, H b = some o) (hlt : d.terms.length < 12) (ht : GoodT d.s t) (e1 : Ex H H1) (e2 : Ex H1 H2) (hx : TermAt CT (newPart H1 H2) x d.s t) (e : Ex (upd H2 pt (.lst (qs.map V.ref ++ [.ref x]))) H') (hp : upd H2 pt (.lst (qs.map V.ref ++ [.ref x])) p = none) :
    LI CL CC CF CT (off kp H') L (some { d with terms := d.terms ++ [t] }) ∧ Ex GC (off kp H') ∧ (∀ b o, kp b → H b = some o → H' b = some o) ∧ ¬ kp p := by
  have old : ∀ b o, H b = some o → b ≠ L → b ≠ pt → (upd H2 pt (.lst (qs.map V.ref ++ [.ref x]))) b = some o := fun b o hb _ n2 => by
    rw [upd_ne n2]
    exact e2 _ _ (e1 _ _ hb)
  have hoL0 := off_ex _ _ (eL _ _ hoL)
  have hpt0 := off_ex _ _ (eL _ _ hpt)
  obtain ⟨c1, c2, c3⟩ := change hoL hpt eL eC dis hkp old e hp
  have kk := keeps eL old e
  have nn : Ex (newPart H1 H2) (off (Own L pt) (off kp H')) := news (e1 _ _ hoL0) (e1 _ _ hpt0) (fun b c => by
    obtain ⟨o, ho⟩ := hkp b c
    exact ⟨o, e1 _ _ ho⟩) fun b o hb _ n2 => e _ _ (by rw [upd_ne n2]; exact hb)
  refine ⟨⟨dx, pt, .ref pc, Sr58.bit d.much, qs ++ [x], nLp, off_of (off_not (eL _ _ hoL)) (e _ _ ?_), off_of (off_not (eL _ _ hpt)) (e _ _ ?_), (fun h => by cases h), fun d' hd => ?_⟩, c1, c2, c3⟩
  · rw [upd_ne nLp]
    exact e2 _ _ (e1 _ _ hoL0)
  · rw [upd_same, List.map_append]
    rfl
  · obtain rfl := Option.some.inj hd
    refine ⟨pc, rfl, rfl, hC.mono kk, (hT.mono kk).snoc (hx.mono nn), ?_, fun u hu => ?_⟩
    · show (d.terms ++ [t]).length ≤ 12
      rw [List.length_append, List.length_singleton]
      omega
    · rcases List.mem_append.mp hu with h | h
      · exact hG u h
      · obtain rfl := List.mem_singleton.mp h
        exact ht
end
theorem nats_eq {n : Nat} {l : List Int} (h : ∀ x ∈ l, 0 ≤ x ∧ x < (n : Int)) : intsV l = natsV (Sr59.nats l) ∧ (Sr59.nats l).length = l.length ∧ ∀ x ∈ Sr59.nats l, x < n := by
  have hn : l = (Sr59.nats l).map fun (n : Nat) => (n : Int) := nats_of fun x hx => (h x hx).1
  refine ⟨by rw [← intsV_nats, ← hn], by unfold Sr59.nats; rw [List.length_map], fun x hx => ?_⟩
  obtain ⟨z, hz, rfl⟩ := List.mem_map.mp hx
  have := h z hz
  show z.toNat < n
  omega
section
variable {P : Program} {w : World} {K : PySem.W.Frag} {mg : Str → Option Value} {base : Heap} {a_DIVISORS a_SHAPES CK CL CC CF CT : Addr} {f : Addr} {fd : FuncData}
/-! ### answer_want, answer_drop, answer_all, answer_many -/
def sp_Line_want (CL CC CF CT : Addr) : Sp := fun vs H Q E => ∃ (v : Int) (d : Sr59.Desk), sp_meth CL CC CF CT [.int v] (fun _ => True) (some d) (.want v) vs H Q E
theorem ok_Line_answer_want (F : Fun K "answer_want" "Line.answer_want" s_Line_answer_want f fd) (T : Txt K mg a_DIVISORS a_SHAPES) (Z : Clz K CL FIELDS_Line) : FnOk P w K mg base CX0 1 f fd ["self", "v"] (sp_Line_want CL CC CF CT) := by
  refine F.ok sc_Line_answer_want (fun vs H Q E h => ?_) (fun cdv A outer s0 H vs Q E hr h => ?_)
  · obtain ⟨v, d, L, kp, GL, GC, rfl, _⟩ := h
    rfl
  · obtain ⟨v, d, L, kp, GL, GC, rfl, _, hL, eL, eC, dis, hkp, q⟩ := h
    refine ⟨_, (pss_cons (ps_if (PW.pt (pw_and (pt_cmpR op_ne (pv 1) pe_int (nomark _)) (pw_and1 (pt_cmpR op_ne (pv 1) pe_int (nomark _))))) (pss_one (ps_ret (pe_lst (pa_cons (pe_gint rfl T.g_WRONG) pa_nil)))) pss_nil) (pss_cons (ps_set (i := 2) sc_Line_answer_want.nd rfl (.inl rfl) (pe_fldK (K := K) rfl (pv 0) rfl)) (pss_cons (ps_fld (pv 0) (pv 1) rfl) (pss_one (ps_ret (pe_lst (pa_cons (pv 2) pa_nil))))))), ?_⟩
    refine q_when (b := !decide (v = 0) && !decide (v = 1)) (et_is (et_and (et_test (ev_op (ev_var rfl) ev_c (rv_ne rfl))) fun _ => et_test (ev_op (ev_var rfl) ev_c (rv_ne rfl))) ?_) ?_ ?_
    · rw [dec_int, dec_int]
    · intro hb H1 e1
      rw [Bool.and_eq_true] at hb
      rw [step_none (fun _ _ _ h => by cases h) (want_no (of_decide_eq_false (not_false' hb.1)) (of_decide_eq_false (not_false' hb.2)))] at q
      exact s_retL (xs := intsV [-22]) (el_lst (ea_cons ev_c ea_nil) (by decide)) fun p H2 hp e2 h2 => ret_up (stay hL eL eC hkp q) e1 p H2 hp e2 h2
    · intro hb H1 e1
      have hv : v = 0 ∨ v = 1 := by
        rw [Bool.and_eq_false_iff] at hb
        rcases hb with h | h
        · exact .inl (of_decide_eq_true (not_true h))
        · exact .inr (of_decide_eq_true (not_true h))
      rw [step_some (want_yes hv)] at q
      obtain ⟨dx, pt, pc, qs, nLp, hoL, hpt, hC, hT, hz, hG⟩ := hL.has
      have hoL1 : H1 L = some (.ins CL dx (lF (.ref pc) pt (Sr58.bit d.much))) := e1 _ _ (off_ex _ _ (eL _ _ hoL))
      refine q_asg (ev_fld (ev_var rfl) hoL1 Z.cls (Z.no _ (by simp [FIELDS_Line])) (lF_much _ _ _)) fun H2 e2 => ?_
      refine q_fld (ev_var rfl) (ev_var rfl) (e2 _ _ hoL1) Z.cls (Z.no _ (by simp [FIELDS_Line])) (show 3 < 1000 by decide) fun H3 e3 => ?_
      have f1 : ∀ u : Int, putF "much" (.int v) (lF (.ref pc) pt u) = lF (.ref pc) pt v := fun u => by kernel_rfl
      rw [f1]
      have old : ∀ b o, H b = some o → b ≠ L → b ≠ pt → (upd H3 L (.ins CL dx (lF (.ref pc) pt v))) b = some o := fun b o hb n1 _ => by
        rw [upd_ne n1]
        exact e3 _ _ (e2 _ _ (e1 _ _ hb))
      refine s_retL (xs := intsV [Sr58.bit d.much]) (el_lst (ea_cons (ev_var rfl) ea_nil) (by show 1 ≤ 100000; decide)) fun p H4 hp e4 h4 => ?_
      obtain ⟨c1, c2, c3⟩ := change hoL hpt eL eC dis hkp old e4 hp
      refine q H4 p ⟨dx, pt, .ref pc, v, qs, nLp, off_of (off_not (eL _ _ hoL)) (e4 _ _ upd_same), off_of (off_not (eL _ _ hpt)) (e4 _ _ ?_), (fun h => by cases h), fun d' hd => ?_⟩ c1 c2 c3 h4
      · rw [upd_ne nLp.symm]
        exact e3 _ _ (e2 _ _ (e1 _ _ (off_ex _ _ (eL _ _ hpt))))
      · obtain rfl := Option.some.inj hd
        refine ⟨pc, rfl, ?_, hC.mono (keeps eL old e4), hT.mono (keeps eL old e4), hz, hG⟩
        rcases hv with rfl | rfl <;> rfl
def sp_Line_drop (CL CC CF CT : Addr) : Sp := fun vs H Q E => ∃ (j : Int) (d : Sr59.Desk), sp_meth CL CC CF CT [.int j] (fun _ => True) (some d) (.drop j) vs H Q E
theorem ok_Line_answer_drop (F : Fun K "answer_drop" "Line.answer_drop" s_Line_answer_drop f fd) (T : Txt K mg a_DIVISORS a_SHAPES) (Z : Clz K CL FIELDS_Line) (O_Line_has_term : OkM P w K mg base 1 CL "has_term" ["self", "j"] (sp_Line_has_term CL CC CF CT)) :
    FnOk P w K mg base CX0 2 f fd ["self", "j"] (sp_Line_drop CL CC CF CT) := by
  refine F.ok sc_Line_answer_drop (fun vs H Q E h => ?_) (fun cdv A outer s0 H vs Q E hr h => ?_)
  · obtain ⟨v, d, L, kp, GL, GC, rfl, _⟩ := h
    rfl
  · obtain ⟨j, d, L, kp, GL, GC, rfl, _, hL, eL, eC, dis, hkp, q⟩ := h
    have c_Line := Z.cls
    have hLH : LI CL CC CF CT H L (some d) := hL.mono fun b o hb => off_ex _ _ (eL _ _ hb)
    obtain ⟨dx, pt, pc, qs, nLp, hoL, hpt, hC, hT, hz, hG⟩ := hL.has
    have hoL0 := off_ex _ _ (eL _ _ hoL)
    have hpt0 := off_ex _ _ (eL _ _ hpt)
    refine ⟨_, (pss_cons (ps_if (pt_not (pt_val (by_mth O_Line_has_term fun _ _ hm hb F => pe_meth (pv 0) c_Line hm F (hr.mono (by decide)) hb .nil pass0 (pa_cons (pv 1) pa_nil)))) (pss_one (ps_ret (pe_lst (pa_cons (pe_gint rfl T.g_NONE_SUCH) pa_nil)))) pss_nil) (pss_cons (ps_expr (pe_bm PySem.F.plainAttrs_list PySem.F.slot_list_pop PySem.F.type_list_pop mt_popAt (pe_fldK (K := K) rfl (pv 0) rfl) (pa_cons (pv 1) pa_nil))) (pss_one (ps_ret (pe_lst (pa_cons (pe_callB (cr_lenK (K := K) rfl) (by rfl) T.n_len PySem.boot_len (pa_cons (pe_fldK (K := K) rfl (pv 0) rfl) pa_nil)) pa_nil)))))), ?_⟩
    refine q_when (b := !inR d.terms.length j) (et_not (et_B (ev_meth (ev_var rfl) hoL0 (lF_has_term _ _ _) (ea_cons (ev_var rfl) ea_nil) fun H3 e3 Q q E => ⟨L, d, j, rfl, hLH.mono e3, q⟩))) ?_ ?_
    · intro hb H1 e1
      rw [step_none (fun _ _ _ h => by cases h) (drop_no (not_false' hb))] at q
      exact s_retL (xs := intsV [-2]) (el_lst (ea_cons ev_c ea_nil) (by decide)) fun p H2 hp e2 h2 => ret_up (stay hL eL eC hkp q) e1 p H2 hp e2 h2
    · intro hb H1 e1
      obtain ⟨i, rfl, hi⟩ := inR_of (not_true hb)
      rw [step_some (drop_yes hi)] at q
      have hl := hT.1
      refine q_pop (xs := qs.map V.ref) (j := i) (y := .ref (qs[i]'(by omega))) (e1 _ _ hpt0) (ev_fld (ev_var rfl) (e1 _ _ hoL0) Z.cls (Z.no _ (by simp [FIELDS_Line])) (lF_terms _ _ _)) (ev_var rfl) (by rw [List.getElem?_map, List.getElem?_eq_getElem (by omega)]; rfl) (by rw [List.length_map]; omega) fun H2 e2 => ?_
      have em : (qs.map V.ref).eraseIdx i = (qs.eraseIdx i).map V.ref := erase_map V.ref qs i
      rw [em]
      have old : ∀ b o, H b = some o → b ≠ L → b ≠ pt → (upd H2 pt (.lst ((qs.eraseIdx i).map V.ref))) b = some o := fun b o hb _ n2 => by
        rw [upd_ne n2]
        exact e2 _ _ (e1 _ _ hb)
      have hLk : (upd H2 pt (.lst ((qs.eraseIdx i).map V.ref))) L = some (.ins CL dx (lF (.ref pc) pt (Sr58.bit d.much))) := by
        rw [upd_ne nLp]
        exact e2 _ _ (e1 _ _ hoL0)
      refine s_retL (xs := intsV [((d.terms.length - 1 : Nat) : Int)]) (el_lst (ea_cons (ev_is (ev_len (ev_fld (ev_var rfl) hLk Z.cls (Z.no _ (by simp [FIELDS_Line])) (lF_terms _ _ _)) (sq_of upd_same)) ?_) ea_nil) (by show 1 ≤ 100000; decide)) fun p H4 hp e4 h4 => ?_
      · rw [List.length_map, List.length_eraseIdx, if_pos (by omega), hl]
      obtain ⟨c1, c2, c3⟩ := change hoL hpt eL eC dis hkp old e4 hp
      refine q H4 p ⟨dx, pt, .ref pc, Sr58.bit d.much, qs.eraseIdx i, nLp, off_of (off_not (eL _ _ hoL)) (e4 _ _ hLk), off_of (off_not (eL _ _ hpt)) (e4 _ _ upd_same), (fun h => by cases h), fun d' hd => ?_⟩ c1 c2 c3 h4
      obtain rfl := Option.some.inj hd
      refine ⟨pc, rfl, rfl, hC.mono (keeps eL old e4), (hT.mono (keeps eL old e4)).less i, ?_, fun t ht => hG t (List.mem_of_mem_eraseIdx ht)⟩
      show (d.terms.eraseIdx i).length ≤ 12
      rw [List.length_eraseIdx]
      split <;> omega
def sp_Line_all (CL CC CF CT : Addr) : Sp := fun vs H Q E => ∃ (x : Int) (b : Addr) (l : List Int) (d : Sr59.Desk), sp_meth CL CC CF CT [.int x, .ref b] (fun G => G b = some (.lst (intsV l))) (some d) (.all x l) vs H Q E
theorem ok_Line_answer_all (F : Fun K "answer_all" "Line.answer_all" s_Line_answer_all f fd) (T : Txt K mg a_DIVISORS a_SHAPES) (Z : Clz K CL FIELDS_Line) (O_is_weight : Ok P w K mg base 1 "is_weight" ["w"] sp_is_weight) (O_can_lie : Ok P w K mg base 1 "can_lie" ["coins", "lie"] (sp_can_lie CC CF))
    (O_Line_is_full : OkM P w K mg base 1 CL "is_full" ["self"] (sp_Line_is_full CL CC CF CT)) (O_all_term : Ok P w K mg base 3 "all_term" ["coins", "weight", "lie"] (sp_all_term CC CF CT)) :
    FnOk P w K mg base CX0 4 f fd ["self", "w", "lie"] (sp_Line_all CL CC CF CT) := by
  refine F.ok sc_Line_answer_all (fun vs H Q E h => ?_) (fun cdv A outer s0 H vs Q E hr h => ?_)
  · obtain ⟨x, b, l, d, L, kp, GL, GC, rfl, _⟩ := h
    rfl
  · obtain ⟨x, b, l, d, L, kp, GL, GC, rfl, hb, hL, eL, eC, dis, hkp, q⟩ := h
    have c_Line := Z.cls
    have hLH : LI CL CC CF CT H L (some d) := hL.mono fun b o hb => off_ex _ _ (eL _ _ hb)
    obtain ⟨dx, pt, pc, qs, nLp, hoL, hpt, hC, hT, hz, hG⟩ := hL.has
    have hoL0 := off_ex _ _ (eL _ _ hoL)
    have hpt0 := off_ex _ _ (eL _ _ hpt)
    have hb0 := off_ex _ _ (eC _ _ hb)
    have hC0 : CoinsAt CC CF H pc d.s := hC.mono fun b o hb => off_ex _ _ (eL _ _ (off_ex _ _ hb))
    refine ⟨_, (pss_cons (ps_if (PW.pt (pw_or (pt_not (pt_val (by_fn O_is_weight fun _ _ hm kp hb F => pe_call F (hr.mono (by decide)) rfl hm kp hb .nil pass0 (pa_cons (pv 1) pa_nil)))) (pw_or1 (pt_not (pt_val (by_fn O_can_lie fun _ _ hm kp hb F => pe_call F (hr.mono (by decide)) rfl hm kp hb .nil pass0 (pa_cons (pe_fldK (K := K) rfl (pv 0) rfl) (pa_cons (pv 2) pa_nil)))))))) (pss_one (ps_ret (pe_lst (pa_cons (pe_gint rfl T.g_WRONG) pa_nil)))) pss_nil) (pss_cons (ps_if (pt_val (by_mth O_Line_is_full fun _ _ hm hb F => pe_meth0 (pv 0) c_Line hm F (hr.mono (by decide)) hb .nil pass0)) (pss_one (ps_ret (pe_lst (pa_cons (pe_gint rfl T.g_FULL) pa_nil)))) pss_nil) (pss_cons (ps_expr (pe_bm PySem.F.plainAttrs_list PySem.F.slot_list_append PySem.F.type_list_append mt_append (pe_fldK (K := K) rfl (pv 0) rfl) (pa_cons (by_fn O_all_term fun _ _ hm kp hb F => pe_call F (hr.mono (by decide)) rfl hm kp hb .nil pass0 (pa_cons (pe_fldK (K := K) rfl (pv 0) rfl) (pa_cons (pv 1) (pa_cons (pv 2) pa_nil)))) pa_nil))) (pss_one (ps_ret (pe_lst (pa_cons (pe_op op_sub (pe_callB (cr_lenK (K := K) rfl) (by rfl) T.n_len PySem.boot_len (pa_cons (pe_fldK (K := K) rfl (pv 0) rfl) pa_nil)) pe_int) pa_nil))))))), ?_⟩
    refine q_when (b := !isW x || !canL (2 ^ d.s.m) l) (et_or (et_not (et_B (ev_fn (ea_cons (ev_var rfl) ea_nil) fun H3 e3 Q q E => ⟨x, rfl, q⟩))) fun _ => et_not (et_B (ev_fn (ea_cons (ev_fld (ev_var rfl) hoL0 Z.cls (Z.no _ (by simp [FIELDS_Line])) (lF_coins _ _ _)) (ea_cons (ev_var rfl) ea_nil)) fun H3 e3 Q q E => ⟨pc, b, d.s, l, rfl, hC0.mono e3, e3 _ _ hb0, q⟩))) ?_ ?_
    · intro hb2 H1 e1
      rw [step_none (fun _ _ _ h => by cases h) (all_no hb2)] at q
      exact s_retL (xs := intsV [-22]) (el_lst (ea_cons ev_c ea_nil) (by decide)) fun p H2 hp e2 h2 => ret_up (stay hL eL eC hkp q) e1 p H2 hp e2 h2
    · intro hb2 H1 e1
      rw [Bool.or_eq_false_iff] at hb2
      have w1 := not_true hb2.1
      have w2 := not_true hb2.2
      have hok := all_ok (d := d) w1 w2
      refine q_when (b := decide (d.terms.length = 12)) (et_B (ev_meth (ev_var rfl) (e1 _ _ hoL0) (lF_is_full _ _ _) ea_nil fun H3 e3 Q q E => ⟨L, d, rfl, hLH.mono (e1.trans e3), q⟩)) ?_ ?_
      · intro hf H2 e2
        rw [if_pos (by have := of_decide_eq_true hf; show 12 ≤ _; omega)] at hok
        rw [step_none (fun _ _ _ h => by cases h) hok] at q
        exact s_retL (xs := intsV [-28]) (el_lst (ea_cons ev_c ea_nil) (by decide)) fun p H3 hp e3 h3 => ret_up (stay hL eL eC hkp q) (e1.trans e2) p H3 hp e3 h3
      · intro hf H2 e2
        have hf := of_decide_eq_false hf
        rw [if_neg (by show ¬ 12 ≤ _; omega)] at hok
        rw [step_some hok] at q
        obtain ⟨l1, l20, lx⟩ := canL_of w2
        obtain ⟨v1, v2, v3⟩ := nats_eq (n := 2 * 2 ^ d.s.m) (l := l) (fun y hy => ⟨(lx y hy).1, by have := (lx y hy).2; omega⟩)
        have e12 := e1.trans e2
        refine q_appP (xs := qs.map V.ref) (Pr := fun y G => TermAt CT G y d.s ⟨x, .all (Sr59.nats l)⟩) (e12 _ _ hpt0) (ev_fld (ev_var rfl) (e12 _ _ hoL0) Z.cls (Z.no _ (by simp [FIELDS_Line])) (lF_terms _ _ _)) (ep_fn (ea_cons (ev_fld (ev_var rfl) (e12 _ _ hoL0) Z.cls (Z.no _ (by simp [FIELDS_Line])) (lF_coins _ _ _)) (ea_cons (ev_var rfl) (ea_cons (ev_var rfl) ea_nil))) (fun _ _ _ e h => h.mono e) fun H3 e3 Q q => ⟨pc, b, d.s, x, Sr59.nats l, rfl, hC0.mono (e12.trans e3), by rw [← v1]; exact e3 _ _ (e12 _ _ hb0), by omega, v3, q⟩) (fun _ _ _ e h => h.mono e) (by rw [List.length_map, hT.1]; omega) fun y H3 hy e3 hty => ?_
        have hLk : (upd H3 pt (.lst (qs.map V.ref ++ [.ref y]))) L = some (.ins CL dx (lF (.ref pc) pt (Sr58.bit d.much))) := by
          rw [upd_ne nLp]
          exact e3 _ _ (e12 _ _ hoL0)
        refine s_retL (xs := intsV [((d.terms.length : Nat) : Int)]) (el_lst (ea_cons (ev_is (ev_op (ev_len (ev_fld (ev_var rfl) hLk Z.cls (Z.no _ (by simp [FIELDS_Line])) (lF_terms _ _ _)) (sq_of upd_same)) ev_c rv_I0) ?_) ea_nil) (by show 1 ≤ 100000; decide)) fun p H4 hp e4 h4 => ?_
        · rw [List.length_append, List.length_map, hT.1]
          congr 1
          show ((d.terms.length + 1 : Nat) : Int) - 1 = _
          omega
        obtain ⟨c0, c1, c2, c3⟩ := add_end (t := ⟨x, .all (Sr59.nats l)⟩) nLp hoL hpt hC hT hG eL eC dis hkp (by omega) ⟨(isW_of w1).1, (isW_of w1).2, by show (Sr59.nats l).length ≤ 20; omega, v3⟩ e12 e3 hty e4 hp
        exact q H4 p c0 c1 c2 c3 h4
def sp_Line_many (CL CC CF CT : Addr) : Sp := fun vs H Q E => ∃ (x t : Int) (b : Addr) (l : List Int) (d : Sr59.Desk), sp_meth CL CC CF CT [.int x, .int t, .ref b] (fun G => G b = some (.lst (intsV l))) (some d) (.many x t l) vs H Q E
theorem ok_Line_answer_many (F : Fun K "answer_many" "Line.answer_many" s_Line_answer_many f fd) (T : Txt K mg a_DIVISORS a_SHAPES) (Z : Clz K CL FIELDS_Line) (O_is_weight : Ok P w K mg base 1 "is_weight" ["w"] sp_is_weight) (O_can_choose : Ok P w K mg base 3 "can_choose" ["coins", "t", "chosen"] (sp_can_choose CC CF))
    (O_Line_is_full : OkM P w K mg base 1 CL "is_full" ["self"] (sp_Line_is_full CL CC CF CT)) (O_many_term : Ok P w K mg base 3 "many_term" ["coins", "weight", "t", "chosen"] (sp_many_term CC CF CT)) :
    FnOk P w K mg base CX0 4 f fd ["self", "w", "t", "chosen"] (sp_Line_many CL CC CF CT) := by
  refine F.ok sc_Line_answer_many (fun vs H Q E h => ?_) (fun cdv A outer s0 H vs Q E hr h => ?_)
  · obtain ⟨x, t, b, l, d, L, kp, GL, GC, rfl, _⟩ := h
    rfl
  · obtain ⟨x, t, b, l, d, L, kp, GL, GC, rfl, hb, hL, eL, eC, dis, hkp, q⟩ := h
    have c_Line := Z.cls
    have hLH : LI CL CC CF CT H L (some d) := hL.mono fun b o hb => off_ex _ _ (eL _ _ hb)
    obtain ⟨dx, pt, pc, qs, nLp, hoL, hpt, hC, hT, hz, hG⟩ := hL.has
    have hoL0 := off_ex _ _ (eL _ _ hoL)
    have hpt0 := off_ex _ _ (eL _ _ hpt)
    have hb0 := off_ex _ _ (eC _ _ hb)
    have hC0 : CoinsAt CC CF H pc d.s := hC.mono fun b o hb => off_ex _ _ (eL _ _ (off_ex _ _ hb))
    refine ⟨_, (pss_cons (ps_if (PW.pt (pw_or (pt_not (pt_val (by_fn O_is_weight fun _ _ hm kp hb F => pe_call F (hr.mono (by decide)) rfl hm kp hb .nil pass0 (pa_cons (pv 1) pa_nil)))) (pw_or1 (pt_not (pt_val (by_fn O_can_choose fun _ _ hm kp hb F => pe_call F (hr.mono (by decide)) rfl hm kp hb .nil pass0 (pa_cons (pe_fldK (K := K) rfl (pv 0) rfl) (pa_cons (pv 2) (pa_cons (pv 3) pa_nil))))))))) (pss_one (ps_ret (pe_lst (pa_cons (pe_gint rfl T.g_WRONG) pa_nil)))) pss_nil) (pss_cons (ps_if (pt_val (by_mth O_Line_is_full fun _ _ hm hb F => pe_meth0 (pv 0) c_Line hm F (hr.mono (by decide)) hb .nil pass0)) (pss_one (ps_ret (pe_lst (pa_cons (pe_gint rfl T.g_FULL) pa_nil)))) pss_nil) (pss_cons (ps_expr (pe_bm PySem.F.plainAttrs_list PySem.F.slot_list_append PySem.F.type_list_append mt_append (pe_fldK (K := K) rfl (pv 0) rfl) (pa_cons (by_fn O_many_term fun _ _ hm kp hb F => pe_call F (hr.mono (by decide)) rfl hm kp hb .nil pass0 (pa_cons (pe_fldK (K := K) rfl (pv 0) rfl) (pa_cons (pv 1) (pa_cons (pv 2) (pa_cons (pv 3) pa_nil))))) pa_nil))) (pss_one (ps_ret (pe_lst (pa_cons (pe_op op_sub (pe_callB (cr_lenK (K := K) rfl) (by rfl) T.n_len PySem.boot_len (pa_cons (pe_fldK (K := K) rfl (pv 0) rfl) pa_nil)) pe_int) pa_nil))))))), ?_⟩
    refine q_when (b := !isW x || !canC (2 ^ d.s.m) t l) (et_or (et_not (et_B (ev_fn (ea_cons (ev_var rfl) ea_nil) fun H3 e3 Q q E => ⟨x, rfl, q⟩))) fun _ => et_not (et_B (ev_fn (ea_cons (ev_fld (ev_var rfl) hoL0 Z.cls (Z.no _ (by simp [FIELDS_Line])) (lF_coins _ _ _)) (ea_cons (ev_var rfl) (ea_cons (ev_var rfl) ea_nil))) fun H3 e3 Q q E => ⟨pc, b, d.s, t, l, rfl, hC0.mono e3, e3 _ _ hb0, q⟩))) ?_ ?_
    · intro hb2 H1 e1
      rw [step_none (fun _ _ _ h => by cases h) (many_no hb2)] at q
      exact s_retL (xs := intsV [-22]) (el_lst (ea_cons ev_c ea_nil) (by decide)) fun p H2 hp e2 h2 => ret_up (stay hL eL eC hkp q) e1 p H2 hp e2 h2
    · intro hb2 H1 e1
      rw [Bool.or_eq_false_iff] at hb2
      have w1 := not_true hb2.1
      have w2 := not_true hb2.2
      have hok := many_ok (d := d) w1 w2
      refine q_when (b := decide (d.terms.length = 12)) (et_B (ev_meth (ev_var rfl) (e1 _ _ hoL0) (lF_is_full _ _ _) ea_nil fun H3 e3 Q q E => ⟨L, d, rfl, hLH.mono (e1.trans e3), q⟩)) ?_ ?_
      · intro hf H2 e2
        rw [if_pos (by have := of_decide_eq_true hf; show 12 ≤ _; omega)] at hok
        rw [step_none (fun _ _ _ h => by cases h) hok] at q
        exact s_retL (xs := intsV [-28]) (el_lst (ea_cons ev_c ea_nil) (by decide)) fun p H3 hp e3 h3 => ret_up (stay hL eL eC hkp q) (e1.trans e2) p H3 hp e3 h3
      · intro hf H2 e2
        have hf := of_decide_eq_false hf
        rw [if_neg (by show ¬ 12 ≤ _; omega)] at hok
        obtain ⟨t0, t20, l1, lup⟩ := canC_of w2
        obtain ⟨n, rfl⟩ : ∃ n : Nat, t = (n : Int) := ⟨t.toNat, by omega⟩
        rw [Int.toNat_natCast] at hok
        rw [step_some hok] at q
        have hle := up_le lup
        have hall := upFrom_all lup
        obtain ⟨v1, v2, v3⟩ := nats_eq (n := 2 ^ d.s.m) (l := l) (fun y hy => by
          obtain ⟨k, rfl, hk⟩ := inR_of (hall y hy)
          omega)
        have e12 := e1.trans e2
        refine q_appP (xs := qs.map V.ref) (Pr := fun y G => TermAt CT G y d.s ⟨x, .many n (Sr59.nats l)⟩) (e12 _ _ hpt0) (ev_fld (ev_var rfl) (e12 _ _ hoL0) Z.cls (Z.no _ (by simp [FIELDS_Line])) (lF_terms _ _ _)) (ep_fn (ea_cons (ev_fld (ev_var rfl) (e12 _ _ hoL0) Z.cls (Z.no _ (by simp [FIELDS_Line])) (lF_coins _ _ _)) (ea_cons (ev_var rfl) (ea_cons (ev_var rfl) (ea_cons (ev_var rfl) ea_nil)))) (fun _ _ _ e h => h.mono e) fun H3 e3 Q q => ⟨pc, b, d.s, x, n, Sr59.nats l, rfl, hC0.mono (e12.trans e3), by rw [← v1]; exact e3 _ _ (e12 _ _ hb0), by omega, v3, q⟩) (fun _ _ _ e h => h.mono e) (by rw [List.length_map, hT.1]; omega) fun y H3 hy e3 hty => ?_
        have hLk : (upd H3 pt (.lst (qs.map V.ref ++ [.ref y]))) L = some (.ins CL dx (lF (.ref pc) pt (Sr58.bit d.much))) := by
          rw [upd_ne nLp]
          exact e3 _ _ (e12 _ _ hoL0)
        refine s_retL (xs := intsV [((d.terms.length : Nat) : Int)]) (el_lst (ea_cons (ev_is (ev_op (ev_len (ev_fld (ev_var rfl) hLk Z.cls (Z.no _ (by simp [FIELDS_Line])) (lF_terms _ _ _)) (sq_of upd_same)) ev_c rv_I0) ?_) ea_nil) (by show 1 ≤ 100000; decide)) fun p H4 hp e4 h4 => ?_
        · rw [List.length_append, List.length_map, hT.1]
          congr 1
          show ((d.terms.length + 1 : Nat) : Int) - 1 = _
          omega
        obtain ⟨c0, c1, c2, c3⟩ := add_end (t := ⟨x, .many n (Sr59.nats l)⟩) nLp hoL hpt hC hT hG eL eC dis hkp (by omega) ⟨(isW_of w1).1, (isW_of w1).2, by show n ≤ 20; omega, by omega, v3⟩ e12 e3 hty e4 hp
        exact q H4 p c0 c1 c2 c3 h4
/-! ### answer_change -/
def sp_Line_change (CK CL CC CF CT : Addr) : Sp := fun vs H Q _ => ∃ (L c : Addr) (kp : Addr → Prop) (GL GC : Hp) (d : Sr59.Desk) (kind : Int) (nums : List Int) (rows : List (List Int)) (b : Nat), vs = [.ref L, .ref c] ∧ LI CL CC CF CT GL L (some d) ∧ Ex GL (off kp H) ∧
  CallAt CK GC c kind nums rows b ∧ Ex GC (off kp H) ∧ (∀ b o, GL b = some o → GC b = none) ∧ Form kind nums rows ∧ 7 ≤ kind ∧ kind < 11 ∧ (∀ b, kp b → ∃ o, H b = some o) ∧
  ∀ (H' : Hp) (p : Addr), LI CL CC CF CT (off kp H') L (Sr59Neutral.step (some d) ((kind :: nums) :: rows)).1 → Ex GC (off kp H') → (∀ b o, kp b → H b = some o → H' b = some o) → ¬ kp p → H' p = some (.lst (intsV (Sr59Neutral.step (some d) ((kind :: nums) :: rows)).2)) → Q (.ref p) H'
theorem ok_Line_answer_change (F : Fun K "answer_change" "Line.answer_change" s_Line_answer_change f fd) (T : Txt K mg a_DIVISORS a_SHAPES) (Z : Clz K CL FIELDS_Line) (ZK : Clz K CK FIELDS_Call) (O_Line_answer_all : OkM P w K mg base 4 CL "answer_all" ["self", "w", "lie"] (sp_Line_all CL CC CF CT))
    (O_Line_answer_many : OkM P w K mg base 4 CL "answer_many" ["self", "w", "t", "chosen"] (sp_Line_many CL CC CF CT)) (O_Line_answer_drop : OkM P w K mg base 2 CL "answer_drop" ["self", "j"] (sp_Line_drop CL CC CF CT)) (O_Line_answer_want : OkM P w K mg base 1 CL "answer_want" ["self", "v"] (sp_Line_want CL CC CF CT)) :
    FnOk P w K mg base CX0 5 f fd ["self", "call"] (sp_Line_change CK CL CC CF CT) := by
  refine F.ok sc_Line_answer_change (fun vs H Q E h => ?_) (fun cdv A outer s0 H vs Q E hr h => ?_)
  · obtain ⟨L, c, kp, GL, GC, d, kind, nums, rows, b, rfl, _⟩ := h
    rfl
  · obtain ⟨L, c, kp, GL, GC, d, kind, nums, rows, b, rfl, hL, eL, hK, eC, dis, hf, k7, k11, hkp, q⟩ := h
    have c_Line := Z.cls
    have hKH := hK.mono (fun b o hb => off_ex _ _ (eC _ _ hb))
    obtain ⟨dxk, pn, pr, gk, gn, gR⟩ := hK
    have hk := off_ex _ _ (eC _ _ gk)
    have hn := off_ex _ _ (eC _ _ gn)
    obtain ⟨dx, pt, pc, qs, nLp, hoL, hpt, hC, hT, hz, hG⟩ := hL.has
    have hoL0 := off_ex _ _ (eL _ _ hoL)
    have eCH : Ex GC H := fun b o hb => off_ex _ _ (eC _ _ hb)
    have hkp' : ∀ {H2 : Hp}, Ex H H2 → ∀ b, kp b → ∃ o, H2 b = some o := fun e b c => by
      obtain ⟨o, ho⟩ := hkp b c
      exact ⟨o, e _ _ ho⟩
    refine ⟨_, (pss_cons (ps_set (i := 2) sc_Line_answer_change.nd rfl (.inl rfl) (pe_fldK (K := K) rfl (pv 1) rfl)) (pss_cons (ps_if (pt_cmpR op_eq (pe_fldK (K := K) rfl (pv 1) rfl) (pe_gint rfl T.g_ALL) (nomark _)) (pss_one (ps_ret (by_mth O_Line_answer_all fun _ _ hm hb F => pe_meth (pv 0) c_Line hm F (hr.mono (by decide)) hb .nil pass0 (pa_cons (pe_ixL (K := K) rfl (pv 2) pe_int (fun _ _ => rfl)) (pa_cons (pe_ixL (K := K) rfl (pe_fldK (K := K) rfl (pv 1) rfl) pe_int (fun _ _ => rfl)) pa_nil))))) pss_nil) (pss_cons (ps_if (pt_cmpR op_eq (pe_fldK (K := K) rfl (pv 1) rfl) (pe_gint rfl T.g_MANY) (nomark _)) (pss_one (ps_ret (by_mth O_Line_answer_many fun _ _ hm hb F => pe_meth (pv 0) c_Line hm F (hr.mono (by decide)) hb .nil pass0 (pa_cons (pe_ixL (K := K) rfl (pv 2) pe_int (fun _ _ => rfl)) (pa_cons (pe_ixL (K := K) rfl (pv 2) pe_int (fun _ _ => rfl)) (pa_cons (pe_ixL (K := K) rfl (pe_fldK (K := K) rfl (pv 1) rfl) pe_int (fun _ _ => rfl)) pa_nil)))))) pss_nil) (pss_cons (ps_if (pt_cmpR op_eq (pe_fldK (K := K) rfl (pv 1) rfl) (pe_gint rfl T.g_DROP) (nomark _)) (pss_one (ps_ret (by_mth O_Line_answer_drop fun _ _ hm hb F => pe_meth (pv 0) c_Line hm F (hr.mono (by decide)) hb .nil pass0 (pa_cons (pe_ixL (K := K) rfl (pv 2) pe_int (fun _ _ => rfl)) pa_nil)))) pss_nil) (pss_one (ps_ret (by_mth O_Line_answer_want fun _ _ hm hb F => pe_meth (pv 0) c_Line hm F (hr.mono (by decide)) hb .nil pass0 (pa_cons (pe_ixL (K := K) rfl (pv 2) pe_int (fun _ _ => rfl)) pa_nil)))))))), ?_⟩
    refine q_asg (ev_fld (ev_var rfl) hk ZK.cls (ZK.no _ (by simp [FIELDS_Call])) (kF_numbers _ _ _ _)) fun H1 e => ?_
    cases hf with
    | c7 x r =>
      (refine q_when (b := true) (et_is (et_test (ev_op (ev_fld (ev_var rfl) (e _ _ hk) ZK.cls (ZK.no _ (by simp [FIELDS_Call])) (kF_kind _ _ _ _)) ev_c (rv_eq rfl))) (dec_int.trans (by decide))) (fun _ H1 e1 => ?_) (fun h => by cases h)); have e := e.trans e1
      obtain ⟨ps, ra, g1, g2, g3⟩ := rows_at (i := 0) gR rfl
      exact s_retM (ev_var rfl) (e _ _ hoL0) (lF_answer_all _ _ _) (ea_cons (ev_op (ev_var rfl) ev_c (rv_ixL (i := ((0 : Nat) : Int)) (v := .int x) (sq_of (e _ _ hn)) (at_nat rfl))) (ea_cons (ev_op (ev_fld (ev_var rfl) (e _ _ hk) ZK.cls (ZK.no _ (by simp [FIELDS_Call])) (kF_rows _ _ _ _)) ev_c (rv_ixL (i := ((0 : Nat) : Int)) (sq_of (e _ _ (eCH _ _ g1))) (at_nat g2))) ea_nil)) fun H2 e2 => ⟨x, ra, r, d, L, kp, GL, GC, rfl, g3, hL, fun b o hb => off_mono (e.trans e2) _ _ (eL _ _ hb), fun b o hb => off_mono (e.trans e2) _ _ (eC _ _ hb), dis, hkp' (e.trans e2), fun H' p a1 a2 a3 a4 a5 => q H' p a1 a2 (fun b o hk hb => a3 b o hk ((e.trans e2) _ _ hb)) a4 a5⟩
    | c8 x t r =>
      (refine q_when (b := false) (et_is (et_test (ev_op (ev_fld (ev_var rfl) (e _ _ hk) ZK.cls (ZK.no _ (by simp [FIELDS_Call])) (kF_kind _ _ _ _)) ev_c (rv_eq rfl))) (dec_int.trans (by decide))) (fun h => by cases h) fun _ H1 e1 => ?_); have e := e.trans e1
      (refine q_when (b := true) (et_is (et_test (ev_op (ev_fld (ev_var rfl) (e _ _ hk) ZK.cls (ZK.no _ (by simp [FIELDS_Call])) (kF_kind _ _ _ _)) ev_c (rv_eq rfl))) (dec_int.trans (by decide))) (fun _ H1 e1 => ?_) (fun h => by cases h)); have e := e.trans e1
      obtain ⟨ps, ra, g1, g2, g3⟩ := rows_at (i := 0) gR rfl
      exact s_retM (ev_var rfl) (e _ _ hoL0) (lF_answer_many _ _ _) (ea_cons (ev_op (ev_var rfl) ev_c (rv_ixL (i := ((0 : Nat) : Int)) (v := .int x) (sq_of (e _ _ hn)) (at_nat rfl))) (ea_cons (ev_op (ev_var rfl) ev_c (rv_ixL (i := ((1 : Nat) : Int)) (v := .int t) (sq_of (e _ _ hn)) (at_nat rfl))) (ea_cons (ev_op (ev_fld (ev_var rfl) (e _ _ hk) ZK.cls (ZK.no _ (by simp [FIELDS_Call])) (kF_rows _ _ _ _)) ev_c (rv_ixL (i := ((0 : Nat) : Int)) (sq_of (e _ _ (eCH _ _ g1))) (at_nat g2))) ea_nil))) fun H2 e2 => ⟨x, t, ra, r, d, L, kp, GL, GC, rfl, g3, hL, fun b o hb => off_mono (e.trans e2) _ _ (eL _ _ hb), fun b o hb => off_mono (e.trans e2) _ _ (eC _ _ hb), dis, hkp' (e.trans e2), fun H' p a1 a2 a3 a4 a5 => q H' p a1 a2 (fun b o hk hb => a3 b o hk ((e.trans e2) _ _ hb)) a4 a5⟩
    | c9 x =>
      (refine q_when (b := false) (et_is (et_test (ev_op (ev_fld (ev_var rfl) (e _ _ hk) ZK.cls (ZK.no _ (by simp [FIELDS_Call])) (kF_kind _ _ _ _)) ev_c (rv_eq rfl))) (dec_int.trans (by decide))) (fun h => by cases h) fun _ H1 e1 => ?_); have e := e.trans e1
      (refine q_when (b := false) (et_is (et_test (ev_op (ev_fld (ev_var rfl) (e _ _ hk) ZK.cls (ZK.no _ (by simp [FIELDS_Call])) (kF_kind _ _ _ _)) ev_c (rv_eq rfl))) (dec_int.trans (by decide))) (fun h => by cases h) fun _ H1 e1 => ?_); have e := e.trans e1
      (refine q_when (b := true) (et_is (et_test (ev_op (ev_fld (ev_var rfl) (e _ _ hk) ZK.cls (ZK.no _ (by simp [FIELDS_Call])) (kF_kind _ _ _ _)) ev_c (rv_eq rfl))) (dec_int.trans (by decide))) (fun _ H1 e1 => ?_) (fun h => by cases h)); have e := e.trans e1
      exact s_retM (ev_var rfl) (e _ _ hoL0) (lF_answer_drop _ _ _) (ea_cons (ev_op (ev_var rfl) ev_c (rv_ixL (i := ((0 : Nat) : Int)) (v := .int x) (sq_of (e _ _ hn)) (at_nat rfl))) ea_nil) fun H2 e2 => ⟨x, d, L, kp, GL, GC, rfl, trivial, hL, fun b o hb => off_mono (e.trans e2) _ _ (eL _ _ hb), fun b o hb => off_mono (e.trans e2) _ _ (eC _ _ hb), dis, hkp' (e.trans e2), fun H' p a1 a2 a3 a4 a5 => q H' p a1 a2 (fun b o hk hb => a3 b o hk ((e.trans e2) _ _ hb)) a4 a5⟩
    | c10 x =>
      (refine q_when (b := false) (et_is (et_test (ev_op (ev_fld (ev_var rfl) (e _ _ hk) ZK.cls (ZK.no _ (by simp [FIELDS_Call])) (kF_kind _ _ _ _)) ev_c (rv_eq rfl))) (dec_int.trans (by decide))) (fun h => by cases h) fun _ H1 e1 => ?_); have e := e.trans e1
      (refine q_when (b := false) (et_is (et_test (ev_op (ev_fld (ev_var rfl) (e _ _ hk) ZK.cls (ZK.no _ (by simp [FIELDS_Call])) (kF_kind _ _ _ _)) ev_c (rv_eq rfl))) (dec_int.trans (by decide))) (fun h => by cases h) fun _ H1 e1 => ?_); have e := e.trans e1
      (refine q_when (b := false) (et_is (et_test (ev_op (ev_fld (ev_var rfl) (e _ _ hk) ZK.cls (ZK.no _ (by simp [FIELDS_Call])) (kF_kind _ _ _ _)) ev_c (rv_eq rfl))) (dec_int.trans (by decide))) (fun h => by cases h) fun _ H1 e1 => ?_); have e := e.trans e1
      exact s_retM (ev_var rfl) (e _ _ hoL0) (lF_answer_want _ _ _) (ea_cons (ev_op (ev_var rfl) ev_c (rv_ixL (i := ((0 : Nat) : Int)) (v := .int x) (sq_of (e _ _ hn)) (at_nat rfl))) ea_nil) fun H2 e2 => ⟨x, d, L, kp, GL, GC, rfl, trivial, hL, fun b o hb => off_mono (e.trans e2) _ _ (eL _ _ hb), fun b o hb => off_mono (e.trans e2) _ _ (eC _ _ hb), dis, hkp' (e.trans e2), fun H' p a1 a2 a3 a4 a5 => q H' p a1 a2 (fun b o hk hb => a3 b o hk ((e.trans e2) _ _ hb)) a4 a5⟩
    | c0 => omega
    | c1 => omega
    | c2 => omega
    | c3 => omega
    | c4 => omega
    | c5 => omega
    | c6 => omega
    | c11 => omega
    | c12 => omega
    | c13 => omega
    | c14 => omega
    | c15 => omega
end
end Few
set_option Elab.async false
set_option linter.all false
set_option maxRecDepth 100000
set_option maxHeartbeats 2000000
namespace Few
open PySem PySem.Spec PyProof.Rows L2 Evl
/-- what is there of a line that has begun, for those that only look -/
theorem LI.see {CL CC CF CT : Addr} {G : Hp} {L : Addr} {d : Sr59.Desk} (h : LI CL CC CF CT G L (some d)) : ∃ dx pt pc qs, G L = some (.ins CL dx (lF (.ref pc) pt (Sr58.bit d.much))) ∧ G pt = some (.lst (qs.map V.ref)) ∧
    CoinsAt CC CF G pc d.s ∧ TermsAt CT G qs d.s d.terms ∧ d.terms.length ≤ 12 ∧ ∀ t ∈ d.terms, GoodT d.s t := by
  obtain ⟨dx, pt, pc, qs, _, h2, h3, h4, h5, h6, h7⟩ := h.has
  exact ⟨dx, pt, pc, qs, h2, h3, h4.mono off_ex, h5.mono off_ex, h6, h7⟩
theorem frac_beq (a b : Sr58.Frac) : (a.n == b.n && ((a.d : Int) == (b.d : Int))) = (a == b) := by
  cases e : (a == b) with
  | true =>
    have e := eq_of_beq e
    subst e
    rw [beq_self_eq_true, beq_self_eq_true]
    rfl
  | false =>
    cases e2 : (a.n == b.n && ((a.d : Int) == (b.d : Int))) with
    | false => rfl
    | true =>
      rw [Bool.and_eq_true] at e2
      have h1 : a.n = b.n := eq_of_beq e2.1
      have h2 : (a.d : Int) = (b.d : Int) := eq_of_beq e2.2
      have h2 : a.d = b.d := by omega
      have : a = b := by
        cases a
        cases b
        simp only at h1 h2
        rw [h1, h2]
      subst this
      rw [beq_self_eq_true] at e
      cases e
section
variable {P : Program} {w : World} {K : PySem.W.Frag} {mg : Str → Option Value} {base : Heap} {a_DIVISORS a_SHAPES CK CL CC CF CT : Addr} {f : Addr} {fd : FuncData}
/-! ### means -/
def sp_Line_means (CL CC CF CT : Addr) : Sp := fun vs H Q _ => ∃ (L : Addr) (d : Sr59.Desk), vs = [.ref L] ∧ LI CL CC CF CT H L (some d) ∧ RetL (ansV (Sr59.doing d .means).2) H Q
theorem ok_Line_answer_means (F : Fun K "answer_means" "Line.answer_means" s_Line_answer_means f fd) (T : Txt K mg a_DIVISORS a_SHAPES) (Z : Clz K CL FIELDS_Line) (O_true_mean : Ok P w K mg base 3 "true_mean" ["coins", "terms"] (sp_true_mean CC CF CT)) (O_seeds_mean : Ok P w K mg base 3 "seeds_mean" ["coins", "terms"] (sp_seeds_mean CC CF CT)) :
    FnOk P w K mg base CX0 4 f fd ["self"] (sp_Line_means CL CC CF CT) := by
  refine F.ok sc_Line_answer_means (fun vs H Q E h => ?_) (fun cdv A outer s0 H vs Q E hr h => ?_)
  · obtain ⟨L, d, rfl, _⟩ := h
    rfl
  · obtain ⟨L, d, rfl, hL, q⟩ := h
    obtain ⟨dx, pt, pc, qs, hoL, hpt, hC, hT, hz, hG⟩ := hL.see
    have m1 : Sr59.trueMean d = Sr58.frac ((d.terms.map fun t => t.w * ((waysOf (2 ^ d.s.m) t.sort : Nat) : Int)).sum) (2 ^ 2 ^ d.s.m) := mean_ways fun t ht => (hG t ht).2.2
    have m2 := mean_seeds d
    refine ⟨_, (pss_cons (ps_set (i := 1) sc_Line_answer_means.nd rfl (.inl rfl) (by_fn O_true_mean fun _ _ hm kp hb F => pe_call F (hr.mono (by decide)) rfl hm kp hb .nil pass0 (pa_cons (pe_fldK (K := K) rfl (pv 0) rfl) (pa_cons (pe_fldK (K := K) rfl (pv 0) rfl) pa_nil)))) (pss_cons (ps_set (i := 2) sc_Line_answer_means.nd rfl (.inl rfl) (by_fn O_seeds_mean fun _ _ hm kp hb F => pe_call F (hr.mono (by decide)) rfl hm kp hb .nil pass0 (pa_cons (pe_fldK (K := K) rfl (pv 0) rfl) (pa_cons (pe_fldK (K := K) rfl (pv 0) rfl) pa_nil)))) (pss_cons (ps_set (i := 3) sc_Line_answer_means.nd rfl (.inl rfl) (pe_ifExp (pt_cmpR (op_eqD hr.units) (pv 1) (pv 2) (nomark _)) pe_int pe_int)) (pss_one (ps_ret (pe_op op_cat (pe_op op_cat (pe_lst (pa_cons (pv 3) pa_nil)) (pv 1)) (pv 2))))))), ?_⟩
    refine q_asgL (xs := intsV (fracI (Sr59.trueMean d))) (el_fn (ea_cons (ev_fld (ev_var rfl) hoL Z.cls (Z.no _ (by simp [FIELDS_Line])) (lF_coins _ _ _)) (ea_cons (ev_fld (ev_var rfl) hoL Z.cls (Z.no _ (by simp [FIELDS_Line])) (lF_terms _ _ _)) ea_nil)) fun H1 e1 Q q E => ⟨pc, pt, d.s, qs, d.terms, rfl, hC.mono e1, e1 _ _ hpt, hT.mono e1, hz, hG, by rw [← m1]; exact q⟩) fun p1 H1 hp1 e1 h1 => ?_
    refine q_asgL (xs := intsV (fracI (Sr59.seedMean d))) (el_fn (ea_cons (ev_fld (ev_var rfl) (e1 _ _ hoL) Z.cls (Z.no _ (by simp [FIELDS_Line])) (lF_coins _ _ _)) (ea_cons (ev_fld (ev_var rfl) (e1 _ _ hoL) Z.cls (Z.no _ (by simp [FIELDS_Line])) (lF_terms _ _ _)) ea_nil)) fun H2 e2 Q q E => ⟨pc, pt, d.s, qs, d.terms, rfl, hC.mono (e1.trans e2), e2 _ _ (e1 _ _ hpt), hT.mono (e1.trans e2), hz, hG, by rw [← m2]; exact q⟩) fun p2 H2 hp2 e2 h2 => ?_
    refine q_asg (v := .int (Sr58.bit (Sr59.trueMean d == Sr59.seedMean d))) (ev_if (b := (Sr59.trueMean d == Sr59.seedMean d)) (et_is (et_test (ev_op (ev_var rfl) (ev_var rfl) (rv_eqD (e2 _ _ h1) h2))) (frac_beq _ _)) (fun hb => ?_) (fun hb => ?_)) fun H3 e3 => ?_
    · rw [hb]
      exact ev_c
    · rw [hb]
      exact ev_c
    refine s_retL (xs := ([V.int (Sr58.bit (Sr59.trueMean d == Sr59.seedMean d))] ++ intsV (fracI (Sr59.trueMean d))) ++ intsV (fracI (Sr59.seedMean d))) (el_cat (el_cat (el_lst (ea_cons (ev_var rfl) ea_nil) (by show 1 ≤ 100000; decide)) (fun _ _ => ev_var rfl) (e3 _ _ (e2 _ _ h1)) (by show 3 ≤ 100000; decide)) (fun _ _ => ev_var rfl) (e3 _ _ h2) (by show 5 ≤ 100000; decide)) fun p H4 hp e4 h4 => ret_up q ((e1.trans e2).trans e3) p H4 hp e4 h4
/-! ### worth -/
def sp_Line_worth (CL CC CF CT : Addr) : Sp := fun vs H Q _ => ∃ (L : Addr) (d : Sr59.Desk) (x : Int), vs = [.ref L, .int x] ∧ LI CL CC CF CT H L (some d) ∧ RetL (ansV (Sr59.doing d (.worth x)).2) H Q
theorem ok_Line_answer_worth (F : Fun K "answer_worth" "Line.answer_worth" s_Line_answer_worth f fd) (T : Txt K mg a_DIVISORS a_SHAPES) (Z : Clz K CL FIELDS_Line) (ZC : Clz K CC FIELDS_Coins) (O_Coins_has_seed : OkM P w K mg base 1 CC "has_seed" ["self", "s"] (sp_Coins_has_seed CC CF)) (O_worth_of : Ok P w K mg base 1 "worth_of" ["terms", "s"] (sp_worth_of CT)) :
    FnOk P w K mg base CX0 2 f fd ["self", "s"] (sp_Line_worth CL CC CF CT) := by
  refine F.ok sc_Line_answer_worth (fun vs H Q E h => ?_) (fun cdv A outer s0 H vs Q E hr h => ?_)
  · obtain ⟨L, d, x, rfl, _⟩ := h
    rfl
  · obtain ⟨L, d, x, rfl, hL, q⟩ := h
    have c_Coins := ZC.cls
    obtain ⟨dx, pt, pc, qs, hoL, hpt, hC, hT, hz, hG⟩ := hL.see
    have hC0 := hC
    obtain ⟨g, dxc, pf, pr, hoc, hF, hR⟩ := hC0
    refine ⟨_, (pss_cons (ps_if (pt_not (pt_val (by_mth O_Coins_has_seed fun _ _ hm hb F => pe_meth (pe_fldK (K := K) rfl (pv 0) rfl) c_Coins hm F (hr.mono (by decide)) hb .nil pass0 (pa_cons (pv 1) pa_nil)))) (pss_one (ps_ret (pe_lst (pa_cons (pe_gint rfl T.g_NONE_SUCH) pa_nil)))) pss_nil) (pss_one (ps_ret (pe_lst (pa_cons pe_int (pa_cons (by_fn O_worth_of fun _ _ hm kp hb F => pe_call F (hr.mono (by decide)) rfl hm kp hb .nil pass0 (pa_cons (pe_fldK (K := K) rfl (pv 0) rfl) (pa_cons (pv 1) pa_nil))) pa_nil)))))), ?_⟩
    refine q_when (b := !inR (2 ^ (d.s.m * d.s.k)) x) (et_not (et_B (ev_meth (ev_fld (ev_var rfl) hoL Z.cls (Z.no _ (by simp [FIELDS_Line])) (lF_coins _ _ _)) hoc (cF_has_seed d.s pf pr) (ea_cons (ev_var rfl) ea_nil) fun H3 e3 Q q E => ⟨pc, d.s, x, rfl, hC.mono e3, q⟩))) ?_ ?_
    · intro hb H2 e2
      refine s_retL (xs := intsV [-2]) (el_lst (ea_cons ev_c ea_nil) (by decide)) fun p H3 hp e3 h3 => q p H3 (fresh_back e2 hp) (e2.trans e3) ?_
      rw [h3]
      congr 1
      show _ = HO.lst (ansV (if inR (2 ^ (d.s.m * d.s.k)) x = false then Sr59.say (-2) else _))
      rw [if_pos (by simpa using hb)]
      rfl
    · intro hb H2 e2
      obtain ⟨i, rfl, hi⟩ := inR_of (not_true hb)
      refine s_retL (xs := intsV [0, Sr59.worth d i]) (el_lst (ea_cons ev_c (ea_cons (ev_fn (ea_cons (ev_fld (ev_var rfl) (e2 _ _ hoL) Z.cls (Z.no _ (by simp [FIELDS_Line])) (lF_terms _ _ _)) (ea_cons (ev_var rfl) ea_nil)) fun H3 e3 Q q E => ⟨pt, d.s, qs, d.terms, i, rfl, e3 _ _ (e2 _ _ hpt), hT.mono (e2.trans e3), hz, hG, hi, by rw [← worth_bits]; exact q⟩) ea_nil)) (by show 2 ≤ 100000; decide)) fun p H3 hp e3 h3 => q p H3 (fresh_back e2 hp) (e2.trans e3) ?_
      rw [h3]
      congr 1
      show _ = HO.lst (ansV (if inR (2 ^ (d.s.m * d.s.k)) i = false then _ else ⟨0, [Sr59.worth d (i : Int).toNat]⟩))
      rw [not_true hb, if_neg (by simp)]
      rfl
/-! ### best -/
def sp_Line_best (CL CC CF CT : Addr) : Sp := fun vs H Q _ => ∃ (L : Addr) (d : Sr59.Desk), vs = [.ref L] ∧ LI CL CC CF CT H L (some d) ∧ RetL (ansV (Sr59.doing d .best).2) H Q
theorem worths_at {d : Sr59.Desk} {n i : Nat} (h : i < n) : ((List.range n).map (Sr59.worth d))[i]? = some (Sr59.worth d i) := by
  rw [List.getElem?_map, List.getElem?_range h]
  rfl
theorem ok_Line_answer_best (F : Fun K "answer_best" "Line.answer_best" s_Line_answer_best f fd) (T : Txt K mg a_DIVISORS a_SHAPES) (Z : Clz K CL FIELDS_Line) (ZC : Clz K CC FIELDS_Coins) (O_worth_of : Ok P w K mg base 1 "worth_of" ["terms", "s"] (sp_worth_of CT)) :
    FnOk P w K mg base CX0 2 f fd ["self"] (sp_Line_best CL CC CF CT) := by
  refine F.ok sc_Line_answer_best (fun vs H Q E h => ?_) (fun cdv A outer s0 H vs Q E hr h => ?_)
  · obtain ⟨L, d, rfl, _⟩ := h
    rfl
  · obtain ⟨L, d, rfl, hL, q⟩ := h
    obtain ⟨dx, pt, pc, qs, hoL, hpt, hC, hT, hz, hG⟩ := hL.see
    obtain ⟨g, dxc, pf, pr, hoc, hF, hR⟩ := hC
    have s1024 := g.seeds
    obtain ⟨b1, b2, b3⟩ := best_spec d
    have hs : Sr59.seeds d.s = 2 ^ (d.s.m * d.s.k) := rfl
    rw [hs] at b1 b2
    refine ⟨_, (pss_cons (ps_setLc (i := 1) (own := [("s", 3)]) (g := gName 3) (tt := tYes) rfl sc_Line_answer_best.nd rfl rfl (sw_true rfl rfl rfl (by decide +kernel)) (pi_range1 rfl T.n_range (pa_cons (pe_fldK (K := K) rfl (pe_fldK (K := K) rfl (pv 0) rfl) rfl) pa_nil)) (blkOk_by (by kernel_rfl)) (fun _ _ _ _ _ => pg_name (i := 3) sc_Line_answer_best.nd rfl (Or.inl rfl)) (fun _ _ _ _ _ => pts_nil) (fun _ _ _ _ _ => (by_fn O_worth_of fun _ _ hm kp hb F => pe_call F (hr.mono (by decide)) rfl hm kp hb .nil pass0 (pa_cons (pe_fldK (K := K) rfl (pv 0) rfl) (pa_cons (pv 3) pa_nil))))) (pss_cons (ps_set (i := 2) sc_Line_answer_best.nd rfl (.inl rfl) (pe_ifExp (pt_cmpR op_eq (pe_fldK (K := K) rfl (pv 0) rfl) pe_int (nomark _)) (pe_callB (cr_maxK (K := K) rfl rfl) (by rfl) T.n_max (by decide +kernel) (pa_cons (pv 1) pa_nil)) (pe_callB (cr_minK (K := K) rfl rfl) (by rfl) T.n_min (by decide +kernel) (pa_cons (pv 1) pa_nil)))) (pss_one (ps_ret (pe_lst (pa_cons (pe_bm PySem.F.plainAttrs_list PySem.F.slot_list_index PySem.F.type_list_index mt_index (pv 1) (pa_cons (pv 2) pa_nil)) (pa_cons (pv 2) pa_nil))))))), ?_⟩
    refine q_asgL (xs := intsV ((List.range (2 ^ (d.s.m * d.s.k))).map (Sr59.worth d))) ?_ fun pw H1 hpw e1 h1 => ?_
    · have ew : intsV ((List.range (2 ^ (d.s.m * d.s.k))).map (Sr59.worth d)) = (List.range ((2 ^ (d.s.m * d.s.k) : Nat) : Int).toNat).map fun i => V.int (Sr59.worth d i) := by
        rw [Int.toNat_natCast]
        unfold intsV
        rw [List.map_map]
        rfl
      rw [ew]
      exact el_lcR (fun i => V.int (Sr59.worth d i)) (ea_cons (ev_fld (ev_fld (ev_var rfl) hoL Z.cls (Z.no _ (by simp [FIELDS_Line])) (lF_coins _ _ _)) hoc ZC.cls (ZC.no _ (by simp [FIELDS_Coins])) (cF_seeds d.s pf pr)) ea_nil) (by omega) (fun _ => rfl) (fun i H2 e2 hi => ev_fn (ea_cons (ev_fld (ev_var rfl) (e2 _ _ hoL) Z.cls (Z.no _ (by simp [FIELDS_Line])) (lF_terms _ _ _)) (ea_cons (ev_var rfl) ea_nil)) fun H3 e3 Q q E => ⟨pt, d.s, qs, d.terms, i, rfl, e3 _ _ (e2 _ _ hpt), hT.mono (e2.trans e3), hz, hG, by omega, by rw [← worth_bits]; exact q⟩)
    have hin : Sr59.worth d (Sr59.best d) ∈ (List.range (2 ^ (d.s.m * d.s.k))).map (Sr59.worth d) := List.mem_of_getElem? (worths_at b1)
    have hall : ∀ y ∈ (List.range (2 ^ (d.s.m * d.s.k))).map (Sr59.worth d), better d.much (Sr59.worth d (Sr59.best d)) y = false := fun y hy => by
      obtain ⟨x, hx, rfl⟩ := List.mem_map.mp hy
      exact b2 x (List.mem_range.mp hx)
    refine q_asg (v := .int (Sr59.worth d (Sr59.best d))) (ev_if (b := d.much) (et_is (et_test (ev_op (ev_fld (ev_var rfl) (e1 _ _ hoL) Z.cls (Z.no _ (by simp [FIELDS_Line])) (lF_much _ _ _)) ev_c (rv_eq rfl))) ?_) (fun hb => ?_) (fun hb => ?_)) fun H2 e2 => ?_
    · rw [dec_int]
      cases d.much <;> rfl
    · refine ev_max (ev_var rfl) h1 hin fun y hy => ?_
      have := hall y hy
      rw [hb] at this
      have := of_decide_eq_false this
      omega
    · refine ev_min (ev_var rfl) h1 hin fun y hy => ?_
      have := hall y hy
      rw [hb] at this
      have := of_decide_eq_false this
      omega
    refine s_retL (xs := intsV [(Sr59.best d : Int), Sr59.worth d (Sr59.best d)]) (el_lst (ea_cons (ev_index (ev_var rfl) (e2 _ _ h1) (ev_var rfl) (worths_at b1) (fun m hm hc => ?_)) (ea_cons (ev_var rfl) ea_nil)) (by show 2 ≤ 100000; decide)) fun p H3 hp e3 h3 => ret_up q (e1.trans e2) p H3 hp e3 h3
    rw [worths_at (by omega)] at hc
    exact b3 m hm (Option.some.inj hc)
/-! ### chances -/
def sp_Line_chances (CL CC CF CT : Addr) : Sp := fun vs H Q _ => ∃ (L : Addr) (d : Sr59.Desk) (j : Int), vs = [.ref L, .int j] ∧ LI CL CC CF CT H L (some d) ∧ RetL (ansV (Sr59.doing d (.chances j)).2) H Q
theorem ok_Line_answer_chances (F : Fun K "answer_chances" "Line.answer_chances" s_Line_answer_chances f fd) (T : Txt K mg a_DIVISORS a_SHAPES) (Z : Clz K CL FIELDS_Line) (ZT : Clz K CT FIELDS_Term) (O_Line_has_term : OkM P w K mg base 1 CL "has_term" ["self", "j"] (sp_Line_has_term CL CC CF CT))
    (O_true_chance : Ok P w K mg base 3 "true_chance" ["coins", "term"] (sp_true_chance CC CF CT)) (O_seeds_chance : Ok P w K mg base 3 "seeds_chance" ["coins", "term"] (sp_seeds_chance CC CF CT)) :
    FnOk P w K mg base CX0 4 f fd ["self", "j"] (sp_Line_chances CL CC CF CT) := by
  refine F.ok sc_Line_answer_chances (fun vs H Q E h => ?_) (fun cdv A outer s0 H vs Q E hr h => ?_)
  · obtain ⟨L, d, j, rfl, _⟩ := h
    rfl
  · obtain ⟨L, d, j, rfl, hL, q⟩ := h
    have c_Line := Z.cls
    obtain ⟨dx, pt, pc, qs, hoL, hpt, hC, hT, hz, hG⟩ := hL.see
    refine ⟨_, (pss_cons (ps_if (pt_not (pt_val (by_mth O_Line_has_term fun _ _ hm hb F => pe_meth (pv 0) c_Line hm F (hr.mono (by decide)) hb .nil pass0 (pa_cons (pv 1) pa_nil)))) (pss_one (ps_ret (pe_lst (pa_cons (pe_gint rfl T.g_NONE_SUCH) pa_nil)))) pss_nil) (pss_cons (ps_set (i := 2) sc_Line_answer_chances.nd rfl (.inl rfl) (pe_ixL (K := K) rfl (pe_fldK (K := K) rfl (pv 0) rfl) (pv 1) (fun _ _ => rfl))) (pss_one (ps_ret (pe_op op_cat (pe_op op_cat (pe_lst (pa_cons (pe_fldK (K := K) rfl (pv 2) rfl) pa_nil)) (by_fn O_true_chance fun _ _ hm kp hb F => pe_call F (hr.mono (by decide)) rfl hm kp hb .nil pass0 (pa_cons (pe_fldK (K := K) rfl (pv 0) rfl) (pa_cons (pv 2) pa_nil)))) (by_fn O_seeds_chance fun _ _ hm kp hb F => pe_call F (hr.mono (by decide)) rfl hm kp hb .nil pass0 (pa_cons (pe_fldK (K := K) rfl (pv 0) rfl) (pa_cons (pv 2) pa_nil)))))))), ?_⟩
    refine q_when (b := !inR d.terms.length j) (et_not (et_B (ev_meth (ev_var rfl) hoL (lF_has_term _ _ _) (ea_cons (ev_var rfl) ea_nil) fun H3 e3 Q q E => ⟨L, d, j, rfl, hL.mono e3, q⟩))) ?_ ?_
    · intro hb H2 e2
      refine s_retL (xs := intsV [-2]) (el_lst (ea_cons ev_c ea_nil) (by decide)) fun p H3 hp e3 h3 => q p H3 (fresh_back e2 hp) (e2.trans e3) ?_
      rw [h3]
      congr 1
      show _ = HO.lst (ansV (if j < 0 ∨ (d.terms.length : Int) ≤ j then Sr59.say (-2) else _))
      rw [if_pos (inR_no (not_false' hb))]
      rfl
    · intro hb H2 e2
      obtain ⟨i, rfl, hi⟩ := inR_of (not_true hb)
      obtain ⟨t, ht⟩ : ∃ t, d.terms[i]? = some t := ⟨_, List.getElem?_eq_getElem hi⟩
      have htd : d.terms.getD i ⟨0, .all []⟩ = t := by
        rw [List.getD_eq_getElem?_getD, ht]
        rfl
      obtain ⟨qa, hq1, hq2⟩ := hT.2 i t ht
      have hgt := hG t (List.mem_of_getElem? ht)
      have hlw : Sr58.likelyTerm (Sr59.trueDesk d) t.sort = Sr58.frac (waysOf (2 ^ d.s.m) t.sort : Nat) (2 ^ 2 ^ d.s.m) := likely_ways hgt.2.2
      refine q_asg (v := .ref qa) (ev_op (ev_fld (ev_var rfl) (e2 _ _ hoL) Z.cls (Z.no _ (by simp [FIELDS_Line])) (lF_terms _ _ _)) (ev_var rfl) (rv_ixL (sq_of (e2 _ _ hpt)) (at_nat (by rw [List.getElem?_map, hq1]; rfl)))) fun H3 e3 => ?_
      have e23 := e2.trans e3
      have hqt := hq2.mono e23
      have hqt0 := hqt
      obtain ⟨dt, pso, hto, hts⟩ := hqt0
      refine s_retL (xs := ([V.int ((Sr59.looks t.sort).length : Int)] ++ intsV (fracI (Sr58.frac (waysOf (2 ^ d.s.m) t.sort : Nat) (2 ^ 2 ^ d.s.m)))) ++ intsV (fracI (Sr58.frac (hits d.s (List.range (Sr59.seeds d.s)) t.sort : Nat) (Sr59.seeds d.s)))) (el_catN (el_catN (el_lst (ea_cons (ev_fld (ev_var rfl) hto ZT.cls (ZT.no _ (by simp [FIELDS_Term])) (tF_looks _ _ _ _)) ea_nil) (by show 1 ≤ 100000; decide)) (el_fn (ea_cons (ev_fld (ev_var rfl) (e23 _ _ hoL) Z.cls (Z.no _ (by simp [FIELDS_Line])) (lF_coins _ _ _)) (ea_cons (ev_var rfl) ea_nil)) fun H4 e4 Q q E => ⟨pc, qa, d.s, t, rfl, hC.mono (e23.trans e4), hqt.mono e4, q⟩) (by show 3 ≤ 100000; decide)) (el_fn (ea_cons (ev_fld (ev_var rfl) (e23 _ _ hoL) Z.cls (Z.no _ (by simp [FIELDS_Line])) (lF_coins _ _ _)) (ea_cons (ev_var rfl) ea_nil)) fun H4 e4 Q q E => ⟨pc, qa, d.s, t, rfl, hC.mono (e23.trans e4), hqt.mono e4, q⟩) (by show 5 ≤ 100000; decide)) fun p H4 hp e4 h4 => q p H4 (fresh_back e23 hp) (e23.trans e4) ?_
      rw [h4]
      congr 1
      show _ = HO.lst (ansV (if (i : Int) < 0 ∨ (d.terms.length : Int) ≤ (i : Int) then _ else ⟨((Sr59.looks (d.terms.getD i ⟨0, .all []⟩).sort).length : Int), [(Sr58.likelyTerm (Sr59.trueDesk d) (d.terms.getD i ⟨0, .all []⟩).sort).n, ((Sr58.likelyTerm (Sr59.trueDesk d) (d.terms.getD i ⟨0, .all []⟩).sort).d : Int), (Sr58.frac (hits d.s (List.range (Sr59.seeds d.s)) (d.terms.getD i ⟨0, .all []⟩).sort : Nat) (Sr59.seeds d.s)).n, ((Sr58.frac (hits d.s (List.range (Sr59.seeds d.s)) (d.terms.getD i ⟨0, .all []⟩).sort : Nat) (Sr59.seeds d.s)).d : Int)]⟩))
      rw [if_neg (by omega), htd, hlw]
      rfl
/-! ### answer_look -/
def sp_Line_look (CK CL CC CF CT : Addr) : Sp := fun vs H Q _ => ∃ (L c : Addr) (d : Sr59.Desk) (kind : Int) (nums : List Int) (rows : List (List Int)) (b : Nat), vs = [.ref L, .ref c] ∧ LI CL CC CF CT H L (some d) ∧ CallAt CK H c kind nums rows b ∧ Form kind nums rows ∧ 11 ≤ kind ∧
  RetL (intsV (Sr59Neutral.step (some d) ((kind :: nums) :: rows)).2) H Q
theorem ok_Line_answer_look (F : Fun K "answer_look" "Line.answer_look" s_Line_answer_look f fd) (T : Txt K mg a_DIVISORS a_SHAPES) (Z : Clz K CL FIELDS_Line) (ZC : Clz K CC FIELDS_Coins) (ZK : Clz K CK FIELDS_Call) (O_Line_answer_means : OkM P w K mg base 4 CL "answer_means" ["self"] (sp_Line_means CL CC CF CT)) (O_Line_answer_worth : OkM P w K mg base 2 CL "answer_worth" ["self", "s"] (sp_Line_worth CL CC CF CT))
    (O_Line_answer_best : OkM P w K mg base 2 CL "answer_best" ["self"] (sp_Line_best CL CC CF CT)) (O_Line_answer_chances : OkM P w K mg base 4 CL "answer_chances" ["self", "j"] (sp_Line_chances CL CC CF CT)) :
    FnOk P w K mg base CX0 5 f fd ["self", "call"] (sp_Line_look CK CL CC CF CT) := by
  refine F.ok sc_Line_answer_look (fun vs H Q E h => ?_) (fun cdv A outer s0 H vs Q E hr h => ?_)
  · obtain ⟨L, c, d, kind, nums, rows, b, rfl, _⟩ := h
    rfl
  · obtain ⟨L, c, d, kind, nums, rows, b, rfl, hL, ⟨dxk, pn, pr, hk, hn, hR⟩, hf, k11, q⟩ := h
    have c_Line := Z.cls
    obtain ⟨dx, pt, pc, qs, hoL, hpt, hC, hT, hz, hG⟩ := hL.see
    have e := Ex.refl H
    refine ⟨_, (pss_cons (ps_if (pt_cmpR op_eq (pe_fldK (K := K) rfl (pv 1) rfl) (pe_gint rfl T.g_MEANS) (nomark _)) (pss_one (ps_ret (by_mth O_Line_answer_means fun _ _ hm hb F => pe_meth0 (pv 0) c_Line hm F (hr.mono (by decide)) hb .nil pass0))) pss_nil) (pss_cons (ps_if (pt_cmpR op_eq (pe_fldK (K := K) rfl (pv 1) rfl) (pe_gint rfl T.g_WORTH) (nomark _)) (pss_one (ps_ret (by_mth O_Line_answer_worth fun _ _ hm hb F => pe_meth (pv 0) c_Line hm F (hr.mono (by decide)) hb .nil pass0 (pa_cons (pe_ixL (K := K) rfl (pe_fldK (K := K) rfl (pv 1) rfl) pe_int (fun _ _ => rfl)) pa_nil)))) pss_nil) (pss_cons (ps_if (pt_cmpR op_eq (pe_fldK (K := K) rfl (pv 1) rfl) (pe_gint rfl T.g_BEST) (nomark _)) (pss_one (ps_ret (by_mth O_Line_answer_best fun _ _ hm hb F => pe_meth0 (pv 0) c_Line hm F (hr.mono (by decide)) hb .nil pass0))) pss_nil) (pss_cons (ps_if (pt_cmpR op_eq (pe_fldK (K := K) rfl (pv 1) rfl) (pe_gint rfl T.g_CHANCES) (nomark _)) (pss_one (ps_ret (by_mth O_Line_answer_chances fun _ _ hm hb F => pe_meth (pv 0) c_Line hm F (hr.mono (by decide)) hb .nil pass0 (pa_cons (pe_ixL (K := K) rfl (pe_fldK (K := K) rfl (pv 1) rfl) pe_int (fun _ _ => rfl)) pa_nil)))) pss_nil) (pss_one (ps_ret (pe_lst (pa_cons (pe_fldK (K := K) rfl (pe_fldK (K := K) rfl (pv 0) rfl) rfl) (pa_cons (pe_fldK (K := K) rfl (pe_fldK (K := K) rfl (pv 0) rfl) rfl) (pa_cons (pe_callB (cr_lenK (K := K) rfl) (by rfl) T.n_len PySem.boot_len (pa_cons (pe_fldK (K := K) rfl (pv 0) rfl) pa_nil)) pa_nil)))))))))), ?_⟩
    cases hf with
    | c11 =>
      (refine q_when (b := true) (et_is (et_test (ev_op (ev_fld (ev_var rfl) (e _ _ hk) ZK.cls (ZK.no _ (by simp [FIELDS_Call])) (kF_kind _ _ _ _)) ev_c (rv_eq rfl))) (dec_int.trans (by decide))) (fun _ H1 e1 => ?_) (fun h => by cases h)); have e := e.trans e1
      exact s_retM (ev_var rfl) (e _ _ hoL) (lF_answer_means _ _ _) ea_nil fun H2 e2 => ⟨L, d, rfl, hL.mono (e.trans e2), ret_up q (e.trans e2)⟩
    | c12 x =>
      (refine q_when (b := false) (et_is (et_test (ev_op (ev_fld (ev_var rfl) (e _ _ hk) ZK.cls (ZK.no _ (by simp [FIELDS_Call])) (kF_kind _ _ _ _)) ev_c (rv_eq rfl))) (dec_int.trans (by decide))) (fun h => by cases h) fun _ H1 e1 => ?_); have e := e.trans e1
      (refine q_when (b := true) (et_is (et_test (ev_op (ev_fld (ev_var rfl) (e _ _ hk) ZK.cls (ZK.no _ (by simp [FIELDS_Call])) (kF_kind _ _ _ _)) ev_c (rv_eq rfl))) (dec_int.trans (by decide))) (fun _ H1 e1 => ?_) (fun h => by cases h)); have e := e.trans e1
      exact s_retM (ev_var rfl) (e _ _ hoL) (lF_answer_worth _ _ _) (ea_cons (ev_op (ev_fld (ev_var rfl) (e _ _ hk) ZK.cls (ZK.no _ (by simp [FIELDS_Call])) (kF_numbers _ _ _ _)) ev_c (rv_ixL (i := ((0 : Nat) : Int)) (v := .int x) (sq_of (e _ _ hn)) (at_nat rfl))) ea_nil) fun H2 e2 => ⟨L, d, x, rfl, hL.mono (e.trans e2), ret_up q (e.trans e2)⟩
    | c13 =>
      (refine q_when (b := false) (et_is (et_test (ev_op (ev_fld (ev_var rfl) (e _ _ hk) ZK.cls (ZK.no _ (by simp [FIELDS_Call])) (kF_kind _ _ _ _)) ev_c (rv_eq rfl))) (dec_int.trans (by decide))) (fun h => by cases h) fun _ H1 e1 => ?_); have e := e.trans e1
      (refine q_when (b := false) (et_is (et_test (ev_op (ev_fld (ev_var rfl) (e _ _ hk) ZK.cls (ZK.no _ (by simp [FIELDS_Call])) (kF_kind _ _ _ _)) ev_c (rv_eq rfl))) (dec_int.trans (by decide))) (fun h => by cases h) fun _ H1 e1 => ?_); have e := e.trans e1
      (refine q_when (b := true) (et_is (et_test (ev_op (ev_fld (ev_var rfl) (e _ _ hk) ZK.cls (ZK.no _ (by simp [FIELDS_Call])) (kF_kind _ _ _ _)) ev_c (rv_eq rfl))) (dec_int.trans (by decide))) (fun _ H1 e1 => ?_) (fun h => by cases h)); have e := e.trans e1
      exact s_retM (ev_var rfl) (e _ _ hoL) (lF_answer_best _ _ _) ea_nil fun H2 e2 => ⟨L, d, rfl, hL.mono (e.trans e2), ret_up q (e.trans e2)⟩
    | c14 x =>
      (refine q_when (b := false) (et_is (et_test (ev_op (ev_fld (ev_var rfl) (e _ _ hk) ZK.cls (ZK.no _ (by simp [FIELDS_Call])) (kF_kind _ _ _ _)) ev_c (rv_eq rfl))) (dec_int.trans (by decide))) (fun h => by cases h) fun _ H1 e1 => ?_); have e := e.trans e1
      (refine q_when (b := false) (et_is (et_test (ev_op (ev_fld (ev_var rfl) (e _ _ hk) ZK.cls (ZK.no _ (by simp [FIELDS_Call])) (kF_kind _ _ _ _)) ev_c (rv_eq rfl))) (dec_int.trans (by decide))) (fun h => by cases h) fun _ H1 e1 => ?_); have e := e.trans e1
      (refine q_when (b := false) (et_is (et_test (ev_op (ev_fld (ev_var rfl) (e _ _ hk) ZK.cls (ZK.no _ (by simp [FIELDS_Call])) (kF_kind _ _ _ _)) ev_c (rv_eq rfl))) (dec_int.trans (by decide))) (fun h => by cases h) fun _ H1 e1 => ?_); have e := e.trans e1
      (refine q_when (b := true) (et_is (et_test (ev_op (ev_fld (ev_var rfl) (e _ _ hk) ZK.cls (ZK.no _ (by simp [FIELDS_Call])) (kF_kind _ _ _ _)) ev_c (rv_eq rfl))) (dec_int.trans (by decide))) (fun _ H1 e1 => ?_) (fun h => by cases h)); have e := e.trans e1
      exact s_retM (ev_var rfl) (e _ _ hoL) (lF_answer_chances _ _ _) (ea_cons (ev_op (ev_fld (ev_var rfl) (e _ _ hk) ZK.cls (ZK.no _ (by simp [FIELDS_Call])) (kF_numbers _ _ _ _)) ev_c (rv_ixL (i := ((0 : Nat) : Int)) (v := .int x) (sq_of (e _ _ hn)) (at_nat rfl))) ea_nil) fun H2 e2 => ⟨L, d, x, rfl, hL.mono (e.trans e2), ret_up q (e.trans e2)⟩
    | c15 =>
      (refine q_when (b := false) (et_is (et_test (ev_op (ev_fld (ev_var rfl) (e _ _ hk) ZK.cls (ZK.no _ (by simp [FIELDS_Call])) (kF_kind _ _ _ _)) ev_c (rv_eq rfl))) (dec_int.trans (by decide))) (fun h => by cases h) fun _ H1 e1 => ?_); have e := e.trans e1
      (refine q_when (b := false) (et_is (et_test (ev_op (ev_fld (ev_var rfl) (e _ _ hk) ZK.cls (ZK.no _ (by simp [FIELDS_Call])) (kF_kind _ _ _ _)) ev_c (rv_eq rfl))) (dec_int.trans (by decide))) (fun h => by cases h) fun _ H1 e1 => ?_); have e := e.trans e1
      (refine q_when (b := false) (et_is (et_test (ev_op (ev_fld (ev_var rfl) (e _ _ hk) ZK.cls (ZK.no _ (by simp [FIELDS_Call])) (kF_kind _ _ _ _)) ev_c (rv_eq rfl))) (dec_int.trans (by decide))) (fun h => by cases h) fun _ H1 e1 => ?_); have e := e.trans e1
      (refine q_when (b := false) (et_is (et_test (ev_op (ev_fld (ev_var rfl) (e _ _ hk) ZK.cls (ZK.no _ (by simp [FIELDS_Call])) (kF_kind _ _ _ _)) ev_c (rv_eq rfl))) (dec_int.trans (by decide))) (fun h => by cases h) fun _ H1 e1 => ?_); have e := e.trans e1
      obtain ⟨g, dxc, pf, pr', hoc, hF, hR'⟩ := hC.mono e
      refine s_retL (xs := intsV [((2 ^ d.s.m : Nat) : Int), ((2 ^ (d.s.m * d.s.k) : Nat) : Int), ((d.terms.length : Nat) : Int)]) (el_lst (ea_cons (ev_fld (ev_fld (ev_var rfl) (e _ _ hoL) Z.cls (Z.no _ (by simp [FIELDS_Line])) (lF_coins _ _ _)) hoc ZC.cls (ZC.no _ (by simp [FIELDS_Coins])) (cF_how_many d.s pf pr')) (ea_cons (ev_fld (ev_fld (ev_var rfl) (e _ _ hoL) Z.cls (Z.no _ (by simp [FIELDS_Line])) (lF_coins _ _ _)) hoc ZC.cls (ZC.no _ (by simp [FIELDS_Coins])) (cF_seeds d.s pf pr')) (ea_cons (ev_is (ev_len (ev_fld (ev_var rfl) (e _ _ hoL) Z.cls (Z.no _ (by simp [FIELDS_Line])) (lF_terms _ _ _)) (sq_of (e _ _ hpt))) ?_) ea_nil))) (by show 3 ≤ 100000; decide)) fun p H2 hp e2 h2 => ret_up q e p H2 hp e2 h2
      rw [List.length_map, hT.1]
    | c0 => omega
    | c1 => omega
    | c2 => omega
    | c3 => omega
    | c4 => omega
    | c5 => omega
    | c6 => omega
    | c7 => omega
    | c8 => omega
    | c9 => omega
    | c10 => omega
end
end Few
set_option Elab.async false
set_option linter.all false
set_option maxRecDepth 100000
set_option maxHeartbeats 2000000
namespace Few
open PySem PySem.Spec PyProof.Rows L2 Evl
/-! ### the forms of a call, and what the specification does at each -/
theorem form_begin {kind : Int} {nums : List Int} {rows : List (List Int)} (h : Form kind nums rows) : (∃ m k g, kind = 0 ∧ nums = [m, k, g] ∧ rows = []) ∨ 1 ≤ kind := by
  cases h <;> first | exact .inl ⟨_, _, _, rfl, rfl, rfl⟩ | exact .inr (by decide)
theorem none_step {kind : Int} {nums : List Int} {rows : List (List Int)} (h : Form kind nums rows) (k1 : 1 ≤ kind) : Sr59Neutral.step none ((kind :: nums) :: rows) = (none, [-11]) := by
  cases h <;> first | rfl | omega
theorem look_step {d : Sr59.Desk} {kind : Int} {nums : List Int} {rows : List (List Int)} (h : Form kind nums rows) (k1 : 1 ≤ kind) (hk : kind < 7 ∨ 11 ≤ kind) : (Sr59Neutral.step (some d) ((kind :: nums) :: rows)).1 = some d := by
  cases h <;> first | rfl | omega
section
variable {P : Program} {w : World} {K : PySem.W.Frag} {mg : Str → Option Value} {base : Heap} {a_DIVISORS a_SHAPES CK CL CC CF CT : Addr} {f : Addr} {fd : FuncData}
theorem ok_Line_answer (F : Fun K "answer" "Line.answer" s_Line_answer f fd) (T : Txt K mg a_DIVISORS a_SHAPES) (Z : Clz K CL FIELDS_Line) (ZK : Clz K CK FIELDS_Call) (O_Line_answer_begin : OkM P w K mg base 8 CL "answer_begin" ["self", "m", "k", "f"] (fun vs H Q E => ∃ (m k g : Int) (st : Sr59.State), sp_meth CL CC CF CT [.int m, .int k, .int g] (fun _ => True) st (.begin_ m k g) vs H Q E))
    (O_answer_of_coins : Ok P w K mg base 4 "answer_of_coins" ["coins", "call"] (sp_answer_of_coins CK CC CF)) (O_Line_answer_change : OkM P w K mg base 5 CL "answer_change" ["self", "call"] (sp_Line_change CK CL CC CF CT)) (O_Line_answer_look : OkM P w K mg base 5 CL "answer_look" ["self", "call"] (sp_Line_look CK CL CC CF CT)) :
    FnOk P w K mg base CX0 9 f fd ["self", "call"] (sp_Line_answer CK (LI CL CC CF CT)) := by
  refine F.ok sc_Line_answer (fun vs H Q E h => ?_) (fun cdv A outer s0 H vs Q E hr h => ?_)
  · obtain ⟨L, c, kp, GL, GC, st, kind, nums, rows, b, rfl, _⟩ := h
    rfl
  · obtain ⟨L, c, kp, GL, GC, st, kind, nums, rows, b, rfl, hL, eL, hK, eC, dis, hask, hkp, q⟩ := h
    have hf := form_of hask
    have c_Line := Z.cls
    have hKH : CallAt CK H c kind nums rows b := hK.mono fun b o hb => off_ex _ _ (eC _ _ hb)
    have hLH : LI CL CC CF CT H L st := hL.mono fun b o hb => off_ex _ _ (eL _ _ hb)
    have hKH0 := hKH
    obtain ⟨dxk, pn, pr, hk, hn, hR⟩ := hKH0
    have hLH0 := hLH
    obtain ⟨dx, pt, vc, u, qs, nLp, hoL, hpt, hnone, hsome⟩ := hLH0
    have hkp' : ∀ {H2 : Hp}, Ex H H2 → ∀ b, kp b → ∃ o, H2 b = some o := fun e b c => by
      obtain ⟨o, ho⟩ := hkp b c
      exact ⟨o, e _ _ ho⟩
    have e := Ex.refl H
    refine ⟨_, (pss_cons (ps_if (pt_cmpR op_eq (pe_fldK (K := K) rfl (pv 1) rfl) (pe_gint rfl T.g_BEGIN) (nomark _)) (pss_one (ps_ret (by_mth O_Line_answer_begin fun _ _ hm hb F => pe_meth (pv 0) c_Line hm F (hr.mono (by decide)) hb .nil pass0 (pa_cons (pe_ixL (K := K) rfl (pe_fldK (K := K) rfl (pv 1) rfl) pe_int (fun _ _ => rfl)) (pa_cons (pe_ixL (K := K) rfl (pe_fldK (K := K) rfl (pv 1) rfl) pe_int (fun _ _ => rfl)) (pa_cons (pe_ixL (K := K) rfl (pe_fldK (K := K) rfl (pv 1) rfl) pe_int (fun _ _ => rfl)) pa_nil)))))) pss_nil) (pss_cons (ps_if (pt_cmpR op_isN (pe_fldK (K := K) rfl (pv 0) rfl) pe_non (nomark _)) (pss_one (ps_ret (pe_lst (pa_cons (pe_gint rfl T.g_NOT_BEGUN) pa_nil)))) pss_nil) (pss_cons (ps_if (pt_cmpR op_lt (pe_fldK (K := K) rfl (pv 1) rfl) (pe_gint rfl T.g_ALL) (nomark _)) (pss_one (ps_ret (by_fn O_answer_of_coins fun _ _ hm kp hb F => pe_call F (hr.mono (by decide)) rfl hm kp hb .nil pass0 (pa_cons (pe_fldK (K := K) rfl (pv 0) rfl) (pa_cons (pv 1) pa_nil))))) pss_nil) (pss_cons (ps_if (pt_cmpR op_lt (pe_fldK (K := K) rfl (pv 1) rfl) (pe_gint rfl T.g_MEANS) (nomark _)) (pss_one (ps_ret (by_mth O_Line_answer_change fun _ _ hm hb F => pe_meth (pv 0) c_Line hm F (hr.mono (by decide)) hb .nil pass0 (pa_cons (pv 1) pa_nil)))) pss_nil) (pss_one (ps_ret (by_mth O_Line_answer_look fun _ _ hm hb F => pe_meth (pv 0) c_Line hm F (hr.mono (by decide)) hb .nil pass0 (pa_cons (pv 1) pa_nil)))))))), ?_⟩
    rcases form_begin hf with ⟨m, k, g, rfl, rfl, rfl⟩ | k1
    · (refine q_when (b := true) (et_is (et_test (ev_op (ev_fld (ev_var rfl) (e _ _ hk) ZK.cls (ZK.no _ (by simp [FIELDS_Call])) (kF_kind _ _ _ _)) ev_c (rv_eq rfl))) (dec_int.trans (by decide))) (fun _ H1 e1 => ?_) (fun h => by cases h)); have e := e.trans e1
      exact s_retM (ev_var rfl) (e _ _ hoL) (lF_answer_begin _ _ _) (ea_cons (ev_op (ev_fld (ev_var rfl) (e _ _ hk) ZK.cls (ZK.no _ (by simp [FIELDS_Call])) (kF_numbers _ _ _ _)) ev_c (rv_ixL (i := ((0 : Nat) : Int)) (v := .int m) (sq_of (e _ _ hn)) (at_nat rfl))) (ea_cons (ev_op (ev_fld (ev_var rfl) (e _ _ hk) ZK.cls (ZK.no _ (by simp [FIELDS_Call])) (kF_numbers _ _ _ _)) ev_c (rv_ixL (i := ((1 : Nat) : Int)) (v := .int k) (sq_of (e _ _ hn)) (at_nat rfl))) (ea_cons (ev_op (ev_fld (ev_var rfl) (e _ _ hk) ZK.cls (ZK.no _ (by simp [FIELDS_Call])) (kF_numbers _ _ _ _)) ev_c (rv_ixL (i := ((2 : Nat) : Int)) (v := .int g) (sq_of (e _ _ hn)) (at_nat rfl))) ea_nil))) fun H2 e2 => ⟨m, k, g, st, L, kp, GL, GC, rfl, trivial, hL, fun b o hb => off_mono (e.trans e2) _ _ (eL _ _ hb), fun b o hb => off_mono (e.trans e2) _ _ (eC _ _ hb), dis, hkp' (e.trans e2), fun H' p a1 a2 a3 a4 a5 => q H' p a1 (hK.mono a2) (fun b o hk hb => a3 b o hk ((e.trans e2) _ _ hb)) a4 a5⟩
    refine q_when (b := false) (et_is (et_test (ev_op (ev_fld (ev_var rfl) (e _ _ hk) ZK.cls (ZK.no _ (by simp [FIELDS_Call])) (kF_kind _ _ _ _)) ev_c (rv_eq rfl))) (dec_int.trans (decide_eq_false (by omega)))) (fun h => by cases h) fun _ H1 e1 => ?_
    have e := e.trans e1
    cases st with
    | none =>
      obtain rfl := hnone rfl
      rw [none_step hf k1] at q
      refine q_when (b := true) (et_is (et_test (ev_op (ev_fld (ev_var rfl) (e _ _ hoL) Z.cls (Z.no _ (by simp [FIELDS_Line])) (lF_coins _ _ _)) ev_c (rv_val fun H1 e Q q => ⟨rfl, q⟩))) (decide_eq_true rfl)) (fun _ H2 e2 => ?_) (fun h => by cases h)
      exact s_retL (xs := intsV [-11]) (el_lst (ea_cons ev_c ea_nil) (by decide)) fun p H3 hp e3 h3 => ret_up (stay hL eL eC hkp fun H' p a1 a2 a3 a4 a5 => q H' p a1 (hK.mono a2) a3 a4 a5) (e.trans e2) p H3 hp e3 h3
    | some d =>
      obtain ⟨pc, rfl, rfl, hC, hT, hz, hG⟩ := hsome d rfl
      have hC0 : CoinsAt CC CF H pc d.s := hC.mono off_ex
      refine q_when (b := false) (et_is (et_test (ev_op (ev_fld (ev_var rfl) (e _ _ hoL) Z.cls (Z.no _ (by simp [FIELDS_Line])) (lF_coins _ _ _)) ev_c (rv_val fun H1 e Q q => ⟨rfl, q⟩))) (decide_eq_false (fun h => by cases h))) (fun h => by cases h) fun _ H2 e2 => ?_
      have e := e.trans e2
      refine q_when (b := decide (kind < 7)) (et_test (ev_op (ev_fld (ev_var rfl) (e _ _ hk) ZK.cls (ZK.no _ (by simp [FIELDS_Call])) (kF_kind _ _ _ _)) ev_c rv_I0)) ?_ ?_
      · intro k7 H3 e3
        have k7 := of_decide_eq_true k7
        have e := e.trans e3
        rw [look_step hf k1 (.inl k7)] at q
        exact s_retC (ea_cons (ev_fld (ev_var rfl) (e _ _ hoL) Z.cls (Z.no _ (by simp [FIELDS_Line])) (lF_coins _ _ _)) (ea_cons (ev_var rfl) ea_nil)) fun H4 e4 => ⟨pc, c, d, kind, nums, rows, b, rfl, hC0.mono (e.trans e4), hKH.mono (e.trans e4), hf, k1, k7, ret_up (stay hL eL eC hkp fun H' p a1 a2 a3 a4 a5 => q H' p a1 (hK.mono a2) a3 a4 a5) (e.trans e4)⟩
      intro k7 H3 e3
      have k7 := of_decide_eq_false k7
      have e := e.trans e3
      refine q_when (b := decide (kind < 11)) (et_test (ev_op (ev_fld (ev_var rfl) (e _ _ hk) ZK.cls (ZK.no _ (by simp [FIELDS_Call])) (kF_kind _ _ _ _)) ev_c rv_I0)) ?_ ?_
      · intro k11 H4 e4
        have k11 := of_decide_eq_true k11
        have e := e.trans e4
        exact s_retM (ev_var rfl) (e _ _ hoL) (lF_answer_change _ _ _) (ea_cons (ev_var rfl) ea_nil) fun H5 e5 => ⟨L, c, kp, GL, GC, d, kind, nums, rows, b, rfl, hL, fun b o hb => off_mono (e.trans e5) _ _ (eL _ _ hb), hK, fun b o hb => off_mono (e.trans e5) _ _ (eC _ _ hb), dis, hf, by omega, k11, hkp' (e.trans e5), fun H' p a1 a2 a3 a4 a5 => q H' p a1 (hK.mono a2) (fun b o hk hb => a3 b o hk ((e.trans e5) _ _ hb)) a4 a5⟩
      · intro k11 H4 e4
        have k11 := of_decide_eq_false k11
        have e := e.trans e4
        rw [look_step hf k1 (.inr (by omega))] at q
        exact s_retM (ev_var rfl) (e _ _ hoL) (lF_answer_look _ _ _) (ea_cons (ev_var rfl) ea_nil) fun H5 e5 => ⟨L, c, d, kind, nums, rows, b, rfl, hLH.mono (e.trans e5), hKH.mono (e.trans e5), hf, by omega, ret_up (stay hL eL eC hkp fun H' p a1 a2 a3 a4 a5 => q H' p a1 (hK.mono a2) a3 a4 a5) (e.trans e5)⟩
end
end Few
set_option Elab.async false
set_option linter.all false
set_option maxRecDepth 100000
set_option maxHeartbeats 2000000
namespace Few
open PySem PySem.Spec PyProof.Rows L2 Evl
/-! ### what the top has left: defs, methods, classes -/
def DefAt (K : PySem.W.Frag) (mg : Str → Option Value) (x : Str) (st : Stmt) (ps : List Str) : Prop := ∃ f fd, mg x = some (.ref f) ∧ PySem.W.keepIn K (.ref f) = true ∧ Fun K x x st f fd ∧ Binds K fd ps []
def MethAt (K : PySem.W.Frag) (C : Addr) (m q : Str) (st : Stmt) (ps : List Str) : Prop := ∃ f fd, Meth K C m f ∧ Fun K m q st f fd ∧ Binds K fd ps []
def InitAt (K : PySem.W.Frag) (mg : Str → Option Value) (x : Str) (C : Addr) (q : Str) (st : Stmt) (ps : List Str) : Prop := ∃ f fd, mg x = some (.ref C) ∧ Mk K C f ∧ Fun K "__init__" q st f fd ∧ Binds K fd ps []
section
variable {P : Program} {w : World} {K : PySem.W.Frag} {h : Heap} {mg : Str → Option Value} {base : Heap} {k : Nat} {x q m : Str} {C f : Addr} {st : Stmt} {ps : List Str} {sp : Sp} {oc kV dc pm cd ct : Value} {od an : Option Addr} {sl : Array (Option Value)}
theorem def_mk (X : K.In h) (G : h.Ns mainGlobals mg) (a : PySem.W.nsIn K mainGlobals x = some (some (.ref f))) (l : K.lookup f = some ⟨oc, od, .func (PySem.W.fnOf x x (defArgs st) (defBody st) (defScope st) .none kV dc pm an cd ct), sl⟩) (c : PySem.W.codeIn K cd x = true) (k : PySem.W.keepIn K (.ref f) = true)
    (hb : ∀ (kV doc pm : Value) (an : Option Addr) (cdv ct : Value) (us : List Value), us.length = ps.length → bindArgs (PySem.W.fnOf x x (defArgs st) (defBody st) (defScope st) .none kV doc pm an cdv ct) ⟨us, []⟩ = pure (ps.zip us)) : DefAt K mg x st ps :=
  ⟨f, _, PySem.W.mg_of X G a, k, fun_mk l c k, (fun_mk l c k).binds hb⟩
theorem meth_mk (a : PySem.W.findIn K (.ref C) m = some (some (.ref f))) (i : PySem.W.isFn K (.ref f) = true) (l : K.lookup f = some ⟨oc, od, .func (PySem.W.fnOf m q (defArgs st) (defBody st) (defScope st) .none kV dc pm an cd ct), sl⟩) (c : PySem.W.codeIn K cd q = true) (k : PySem.W.keepIn K (.ref f) = true)
    (hb : ∀ (kV doc pm : Value) (an : Option Addr) (cdv ct : Value) (us : List Value), us.length = ps.length → bindArgs (PySem.W.fnOf m q (defArgs st) (defBody st) (defScope st) .none kV doc pm an cdv ct) ⟨us, []⟩ = pure (ps.zip us)) : MethAt K C m q st ps :=
  ⟨f, _, ⟨a, i, k⟩, fun_mk l c k, (fun_mk l c k).binds hb⟩
theorem init_mk (X : K.In h) (G : h.Ns mainGlobals mg) (aC : PySem.W.nsIn K mainGlobals x = some (some (.ref C))) (mk : PySem.W.makesIn K C = true) (kc : PySem.W.keepIn K (.ref C) = true) (a : PySem.W.findIn K (.ref C) "__init__" = some (some (.ref f))) (i : PySem.W.isFn K (.ref f) = true)
    (l : K.lookup f = some ⟨oc, od, .func (PySem.W.fnOf "__init__" q (defArgs st) (defBody st) (defScope st) .none kV dc pm an cd ct), sl⟩) (c : PySem.W.codeIn K cd q = true) (k : PySem.W.keepIn K (.ref f) = true)
    (hb : ∀ (kV doc pm : Value) (an : Option Addr) (cdv ct : Value) (us : List Value), us.length = ps.length → bindArgs (PySem.W.fnOf "__init__" q (defArgs st) (defBody st) (defScope st) .none kV doc pm an cdv ct) ⟨us, []⟩ = pure (ps.zip us)) : InitAt K mg x C q st ps :=
  ⟨f, _, PySem.W.mg_of X G aC, ⟨mk, a, i, kc⟩, fun_mk l c k, (fun_mk l c k).binds hb⟩
theorem clz_nil (pg : PySem.W.plainGet K C Str.empty = true) (hd : PySem.W.hasDictIn K C = true) (po : PySem.W.plainOver K C = true) (sa : PySem.W.findIn K (.ref C) "__setattr__" = some (some (.builtin "object.__setattr__"))) : Clz K C [] := ⟨⟨pg, hd, po, sa⟩, fun f hf => by cases hf⟩
theorem clz_cons {f : Str} {fs : List Str} (n : PySem.W.findIn K (.ref C) f = some none) (Z : Clz K C fs) : Clz K C (f :: fs) := ⟨Z.cls, fun g hg => by
  rcases List.mem_cons.mp hg with rfl | h
  · exact n
  · exact Z.no g h⟩
theorem tup_mk {a : Addr} {its : Array Value} {n : Nat} {xs : List V} (l : K.lookup a = some ⟨.type "tuple", od, .seq its n, sl⟩) (hz : its.size ≤ sizeLine) (hv : Vals xs its.toList) : TupK K a xs := fun H => .inr ⟨_, its, n, l, rfl, rfl, hz, hv⟩
def AllT (K : PySem.W.Frag) : List Addr → List (List V) → Prop
  | [], [] => True
  | q :: qs, r :: rs => TupK K q r ∧ AllT K qs rs
  | _, _ => False
theorem allT_at : ∀ {qs : List Addr} {rs : List (List V)}, AllT K qs rs → qs.length = rs.length ∧ ∀ (i : Nat) (row : List V), rs[i]? = some row → ∃ q, qs[i]? = some q ∧ TupK K q row
  | [], [], _ => ⟨rfl, fun i row h => by simp at h⟩
  | q :: qs, r :: rs, h => by
    obtain ⟨h1, h2⟩ := allT_at h.2
    refine ⟨by rw [List.length_cons, List.length_cons, h1], fun i row hi => ?_⟩
    cases i with
    | zero =>
      obtain rfl := Option.some.inj hi
      exact ⟨q, rfl, h.1⟩
    | succ i => exact h2 i row hi
  | [], _ :: _, h => h.elim
  | _ :: _, [], h => h.elim
theorem tup2_mk {a : Addr} {rows : List (List V)} {qs : List Addr} (h : TupK K a (qs.map V.ref)) (hr : AllT K qs rows) : TupK2 K a rows := ⟨qs, h, (allT_at hr).1, (allT_at hr).2⟩
theorem ok_of (d : DefAt K mg x st ps) (hf : ∀ f fd, Fun K x x st f fd → FnOk P w K mg base CX0 k f fd ps sp) : Ok P w K mg base k x ps sp := by
  obtain ⟨f, fd, h1, h2, h3, h4⟩ := d
  exact ⟨f, fd, h1, h2, h4, hf f fd h3⟩
theorem okM_of (d : MethAt K C m q st ps) (hf : ∀ f fd, Fun K m q st f fd → FnOk P w K mg base CX0 k f fd ps sp) : OkM P w K mg base k C m ps sp := by
  obtain ⟨f, fd, h1, h3, h4⟩ := d
  exact ⟨f, fd, h1, h4, hf f fd h3⟩
theorem okC_of (d : InitAt K mg x C q st ps) (hf : ∀ f fd, Fun K "__init__" q st f fd → FnOk P w K mg base CX0 k f fd ps sp) : OkC P w K mg base k x C ps sp := by
  obtain ⟨f, fd, h1, h2, h3, h4⟩ := d
  exact ⟨f, fd, h1, h2, h4, hf f fd h3⟩
end
end Few
set_option Elab.async false
set_option linter.all false
set_option maxRecDepth 100000
set_option maxHeartbeats 2000000
namespace Few
open PySem PySem.Spec PyProof.Rows L2 Evl
theorem all_mk {P : Program} {w : World} {K : PySem.W.Frag} {h : Heap} {mg : Str → Option Value} {fa a_DIVISORS a_SHAPES C_Field C_Coins C_Term C_Line C_Call : Addr} (X : K.In h) (G : h.Ns mainGlobals mg) (hfa : mg "answers" = some (.ref fa))
    (T : Txt K mg a_DIVISORS a_SHAPES)
    (Z_Field : Clz K C_Field ["size", "products"])
    (Z_Coins : Clz K C_Coins ["field", "how_many", "seeds", "rows"])
    (Z_Term : Clz K C_Term ["weight", "looks_at", "ways", "so"])
    (Z_Line : Clz K C_Line ["coins", "terms", "much"])
    (Z_Call : Clz K C_Call ["kind", "numbers", "rows", "behind"])
    (D_polynomial_product : DefAt K mg "polynomial_product" s_polynomial_product ["x", "y", "m"])
    (D_brought_down : DefAt K mg "brought_down" s_brought_down ["number", "m"])
    (D_products_with : DefAt K mg "products_with" s_products_with ["x", "m"])
    (D_Field_init : InitAt K mg "Field" C_Field "Field.__init__" s_Field_init ["self", "m"])
    (D_Field_holds : MethAt K C_Field "holds" "Field.holds" s_Field_holds ["self", "x"])
    (D_Field_product : MethAt K C_Field "product" "Field.product" s_Field_product ["self", "x", "y"])
    (D_Field_power : MethAt K C_Field "power" "Field.power" s_Field_power ["self", "x", "e"])
    (D_seed_numbers : DefAt K mg "seed_numbers" s_seed_numbers ["field", "k", "seed"])
    (D_odd_ones : DefAt K mg "odd_ones" s_odd_ones ["number"])
    (D_first_powers : DefAt K mg "first_powers" s_first_powers ["field", "x", "k"])
    (D_plain_coin : DefAt K mg "plain_coin" s_plain_coin ["field", "numbers", "powers"])
    (D_plain_rows : DefAt K mg "plain_rows" s_plain_rows ["field", "k", "seeds"])
    (D_faint_row : DefAt K mg "faint_row" s_faint_row ["field", "numbers"])
    (D_faint_rows : DefAt K mg "faint_rows" s_faint_rows ["field", "k", "seeds"])
    (D_lies_so : DefAt K mg "lies_so" s_lies_so ["row", "coins", "lie"])
    (D_Coins_init : InitAt K mg "Coins" C_Coins "Coins.__init__" s_Coins_init ["self", "m", "k", "faint"])
    (D_Coins_has_seed : MethAt K C_Coins "has_seed" "Coins.has_seed" s_Coins_has_seed ["self", "s"])
    (D_Coins_has_coin : MethAt K C_Coins "has_coin" "Coins.has_coin" s_Coins_has_coin ["self", "i"])
    (D_Coins_are_rising : MethAt K C_Coins "are_rising" "Coins.are_rising" s_Coins_are_rising ["self", "coins"])
    (D_Coins_seeds_lying_so : MethAt K C_Coins "seeds_lying_so" "Coins.seeds_lying_so" s_Coins_seeds_lying_so ["self", "coins", "lie"])
    (D_Coins_seeds_with_odd : MethAt K C_Coins "seeds_with_odd" "Coins.seeds_with_odd" s_Coins_seeds_with_odd ["self", "coins"])
    (D_greatest_common : DefAt K mg "greatest_common" s_greatest_common ["x", "y"])
    (D_as_fraction : DefAt K mg "as_fraction" s_as_fraction ["upper", "lower"])
    (D_Term_init : InitAt K mg "Term" C_Term "Term.__init__" s_Term_init ["self", "weight", "looks_at", "ways", "so"])
    (D_is_all : DefAt K mg "is_all" s_is_all ["row", "lie"])
    (D_is_many : DefAt K mg "is_many" s_is_many ["row", "chosen", "t"])
    (D_ways_by_ones : DefAt K mg "ways_by_ones" s_ways_by_ones ["how_many"])
    (D_all_term : DefAt K mg "all_term" s_all_term ["coins", "weight", "lie"])
    (D_many_term : DefAt K mg "many_term" s_many_term ["coins", "weight", "t", "chosen"])
    (D_true_chance : DefAt K mg "true_chance" s_true_chance ["coins", "term"])
    (D_seeds_chance : DefAt K mg "seeds_chance" s_seeds_chance ["coins", "term"])
    (D_true_mean : DefAt K mg "true_mean" s_true_mean ["coins", "terms"])
    (D_seeds_mean : DefAt K mg "seeds_mean" s_seeds_mean ["coins", "terms"])
    (D_worth_of : DefAt K mg "worth_of" s_worth_of ["terms", "s"])
    (D_can_begin : DefAt K mg "can_begin" s_can_begin ["m", "k", "f"])
    (D_is_weight : DefAt K mg "is_weight" s_is_weight ["w"])
    (D_answer_mul : DefAt K mg "answer_mul" s_answer_mul ["coins", "x", "y"])
    (D_answer_pow : DefAt K mg "answer_pow" s_answer_pow ["coins", "x", "e"])
    (D_answer_coin : DefAt K mg "answer_coin" s_answer_coin ["coins", "s", "i"])
    (D_answer_row : DefAt K mg "answer_row" s_answer_row ["coins", "s"])
    (D_answer_count : DefAt K mg "answer_count" s_answer_count ["coins", "row", "lie"])
    (D_answer_odds : DefAt K mg "answer_odds" s_answer_odds ["coins", "row"])
    (D_can_lie : DefAt K mg "can_lie" s_can_lie ["coins", "lie"])
    (D_can_choose : DefAt K mg "can_choose" s_can_choose ["coins", "t", "chosen"])
    (D_answer_of_coins : DefAt K mg "answer_of_coins" s_answer_of_coins ["coins", "call"])
    (D_Line_init : InitAt K mg "Line" C_Line "Line.__init__" s_Line_init ["self"])
    (D_Line_answer : MethAt K C_Line "answer" "Line.answer" s_Line_answer ["self", "call"])
    (D_Line_answer_change : MethAt K C_Line "answer_change" "Line.answer_change" s_Line_answer_change ["self", "call"])
    (D_Line_answer_look : MethAt K C_Line "answer_look" "Line.answer_look" s_Line_answer_look ["self", "call"])
    (D_Line_answer_begin : MethAt K C_Line "answer_begin" "Line.answer_begin" s_Line_answer_begin ["self", "m", "k", "f"])
    (D_Line_is_full : MethAt K C_Line "is_full" "Line.is_full" s_Line_is_full ["self"])
    (D_Line_has_term : MethAt K C_Line "has_term" "Line.has_term" s_Line_has_term ["self", "j"])
    (D_Line_answer_all : MethAt K C_Line "answer_all" "Line.answer_all" s_Line_answer_all ["self", "w", "lie"])
    (D_Line_answer_many : MethAt K C_Line "answer_many" "Line.answer_many" s_Line_answer_many ["self", "w", "t", "chosen"])
    (D_Line_answer_drop : MethAt K C_Line "answer_drop" "Line.answer_drop" s_Line_answer_drop ["self", "j"])
    (D_Line_answer_want : MethAt K C_Line "answer_want" "Line.answer_want" s_Line_answer_want ["self", "v"])
    (D_Line_answer_means : MethAt K C_Line "answer_means" "Line.answer_means" s_Line_answer_means ["self"])
    (D_Line_answer_worth : MethAt K C_Line "answer_worth" "Line.answer_worth" s_Line_answer_worth ["self", "s"])
    (D_Line_answer_best : MethAt K C_Line "answer_best" "Line.answer_best" s_Line_answer_best ["self"])
    (D_Line_answer_chances : MethAt K C_Line "answer_chances" "Line.answer_chances" s_Line_answer_chances ["self", "j"])
    (D_Call_init : InitAt K mg "Call" C_Call "Call.__init__" s_Call_init ["self", "kind", "numbers", "rows", "behind"])
    (D_read_call : DefAt K mg "read_call" s_read_call ["calls", "place"])
    (D_answers : DefAt K mg "answers" s_answers ["calls"]) :
    ∃ fd : FuncData, (∀ (s : Shared) (us : List Value), us.length = (["calls"] : List Str).length → BindsTo s fd ⟨us, []⟩ ((["calls"] : List Str).zip us)) ∧ ∀ base : Heap, K.In base → base.Ns mainGlobals mg → FnOk P w K mg base CX0 10 fa fd ["calls"] (sp_answers K) := by
  obtain ⟨f, fd, a1, _, F, b⟩ := D_answers
  rw [hfa] at a1
  obtain rfl : fa = f := Value.ref.inj (Option.some.inj a1)
  refine ⟨fd, ?_, fun base _ _ => ?_⟩
  · intro s us hu
    obtain ⟨oc, od, kV, doc, pm, an, cdv, ct, osl, rfl, lk, hcd⟩ := F.ex
    exact match us, hu with | [_], _ => .of_eq rfl
  have O_polynomial_product : Ok P w K mg base _ _ _ _ := ok_of D_polynomial_product fun _ _ F => ok_polynomial_product F T
  have O_brought_down : Ok P w K mg base _ _ _ _ := ok_of D_brought_down fun _ _ F => ok_brought_down F T
  have O_products_with : Ok P w K mg base _ _ _ _ := ok_of D_products_with fun _ _ F => ok_products_with F T O_polynomial_product O_brought_down
  have O_Field : OkC P w K mg base _ _ C_Field _ _ := okC_of D_Field_init fun _ _ F => ok_Field_init F T Z_Field O_products_with
  have O_Field_holds : OkM P w K mg base _ C_Field _ _ _ := okM_of D_Field_holds fun _ _ F => ok_Field_holds F Z_Field
  have O_Field_product : OkM P w K mg base _ C_Field _ _ _ := okM_of D_Field_product fun _ _ F => ok_Field_product F Z_Field
  have O_Field_power : OkM P w K mg base _ C_Field _ _ _ := okM_of D_Field_power fun _ _ F => ok_Field_power F T Z_Field O_Field_product
  have O_seed_numbers : Ok P w K mg base _ _ _ _ := ok_of D_seed_numbers fun _ _ F => ok_seed_numbers F T Z_Field
  have O_odd_ones : Ok P w K mg base _ _ _ _ := ok_of D_odd_ones fun _ _ F => ok_odd_ones F
  have O_first_powers : Ok P w K mg base _ _ _ _ := ok_of D_first_powers fun _ _ F => ok_first_powers F T Z_Field O_Field_power
  have O_plain_coin : Ok P w K mg base _ _ _ _ := ok_of D_plain_coin fun _ _ F => ok_plain_coin F T Z_Field O_Field_product
  have O_plain_rows : Ok P w K mg base _ _ _ _ := ok_of D_plain_rows fun _ _ F => ok_plain_rows F T Z_Field O_first_powers O_seed_numbers O_plain_coin
  have O_faint_row : Ok P w K mg base _ _ _ _ := ok_of D_faint_row fun _ _ F => ok_faint_row F T Z_Field O_first_powers O_odd_ones
  have O_faint_rows : Ok P w K mg base _ _ _ _ := ok_of D_faint_rows fun _ _ F => ok_faint_rows F T Z_Field O_faint_row O_seed_numbers
  have O_lies_so : Ok P w K mg base _ _ _ _ := ok_of D_lies_so fun _ _ F => ok_lies_so F T
  have O_Coins : OkC P w K mg base _ _ C_Coins _ _ := okC_of D_Coins_init fun _ _ F => ok_Coins_init F T Z_Field Z_Coins O_Field O_plain_rows O_faint_rows
  have O_Coins_has_seed : OkM P w K mg base _ C_Coins _ _ _ := okM_of D_Coins_has_seed fun _ _ F => ok_Coins_has_seed (CF := C_Field) F Z_Coins
  have O_Coins_has_coin : OkM P w K mg base _ C_Coins _ _ _ := okM_of D_Coins_has_coin fun _ _ F => ok_Coins_has_coin (CF := C_Field) F Z_Coins
  have O_Coins_are_rising : OkM P w K mg base _ C_Coins _ _ _ := okM_of D_Coins_are_rising fun _ _ F => ok_Coins_are_rising F Z_Coins O_Coins_has_coin
  have O_Coins_seeds_lying_so : OkM P w K mg base _ C_Coins _ _ _ := okM_of D_Coins_seeds_lying_so fun _ _ F => ok_Coins_seeds_lying_so (CF := C_Field) F T Z_Coins O_lies_so
  have O_Coins_seeds_with_odd : OkM P w K mg base _ C_Coins _ _ _ := okM_of D_Coins_seeds_with_odd fun _ _ F => ok_Coins_seeds_with_odd (CF := C_Field) F T Z_Coins
  have O_can_begin : Ok P w K mg base _ _ _ _ := ok_of D_can_begin fun _ _ F => ok_can_begin F T
  have O_is_weight : Ok P w K mg base _ _ _ _ := ok_of D_is_weight fun _ _ F => ok_is_weight F T
  have O_answer_mul : Ok P w K mg base _ _ _ _ := ok_of D_answer_mul fun _ _ F => ok_answer_mul F T Z_Coins Z_Field O_Field_holds O_Field_product
  have O_answer_pow : Ok P w K mg base _ _ _ _ := ok_of D_answer_pow fun _ _ F => ok_answer_pow F T Z_Coins Z_Field O_Field_holds O_Field_power
  have O_answer_coin : Ok P w K mg base _ _ _ _ := ok_of D_answer_coin fun _ _ F => ok_answer_coin F T Z_Coins O_Coins_has_seed O_Coins_has_coin
  have O_answer_row : Ok P w K mg base _ _ _ _ := ok_of D_answer_row fun _ _ F => ok_answer_row F T Z_Coins O_Coins_has_seed
  have O_answer_count : Ok P w K mg base _ _ _ _ := ok_of D_answer_count fun _ _ F => ok_answer_count F T Z_Coins O_Coins_are_rising O_Coins_seeds_lying_so
  have O_answer_odds : Ok P w K mg base _ _ _ _ := ok_of D_answer_odds fun _ _ F => ok_answer_odds F T Z_Coins O_Coins_are_rising O_Coins_seeds_with_odd
  have O_can_lie : Ok P w K mg base _ _ _ _ := ok_of D_can_lie fun _ _ F => ok_can_lie (CF := C_Field) F T Z_Coins
  have O_Call : OkC P w K mg base _ _ C_Call _ _ := okC_of D_Call_init fun _ _ F => ok_Call_init F Z_Call
  have O_read_call : Ok P w K mg base _ _ _ _ := ok_of D_read_call fun _ _ F => ok_read_call F T O_Call
  have O_greatest_common : Ok P w K mg base _ _ _ _ := ok_of D_greatest_common fun _ _ F => ok_greatest_common F
  have O_as_fraction : Ok P w K mg base _ _ _ _ := ok_of D_as_fraction fun _ _ F => ok_as_fraction F T O_greatest_common
  have O_Term : OkC P w K mg base _ _ C_Term _ _ := okC_of D_Term_init fun _ _ F => ok_Term_init F Z_Term
  have O_is_all : Ok P w K mg base _ _ _ _ := ok_of D_is_all fun _ _ F => ok_is_all F T
  have O_is_many : Ok P w K mg base _ _ _ _ := ok_of D_is_many fun _ _ F => ok_is_many F T
  have O_ways_by_ones : Ok P w K mg base _ _ _ _ := ok_of D_ways_by_ones fun _ _ F => ok_ways_by_ones F T
  have O_all_term : Ok P w K mg base _ _ _ _ := ok_of D_all_term fun _ _ F => ok_all_term (CF := C_Field) F T Z_Coins O_is_all O_Term
  have O_many_term : Ok P w K mg base _ _ _ _ := ok_of D_many_term fun _ _ F => ok_many_term (CF := C_Field) F T Z_Coins O_is_many O_ways_by_ones O_Term
  have O_true_chance : Ok P w K mg base _ _ _ _ := ok_of D_true_chance fun _ _ F => ok_true_chance (CF := C_Field) F Z_Coins Z_Term O_as_fraction
  have O_seeds_chance : Ok P w K mg base _ _ _ _ := ok_of D_seeds_chance fun _ _ F => ok_seeds_chance (CF := C_Field) F T Z_Coins Z_Term O_as_fraction
  have O_true_mean : Ok P w K mg base _ _ _ _ := ok_of D_true_mean fun _ _ F => ok_true_mean (CF := C_Field) F T Z_Coins Z_Term O_as_fraction
  have O_seeds_mean : Ok P w K mg base _ _ _ _ := ok_of D_seeds_mean fun _ _ F => ok_seeds_mean (CF := C_Field) F T Z_Coins Z_Term O_as_fraction
  have O_worth_of : Ok P w K mg base _ _ _ _ := ok_of D_worth_of fun _ _ F => ok_worth_of F T Z_Term
  have O_can_choose : Ok P w K mg base _ _ _ _ := ok_of D_can_choose fun _ _ F => ok_can_choose F T Z_Coins O_Coins_are_rising
  have O_answer_of_coins : Ok P w K mg base _ _ _ _ := ok_of D_answer_of_coins fun _ _ F => ok_answer_of_coins F T Z_Call O_answer_mul O_answer_pow O_answer_coin O_answer_row O_answer_count O_answer_odds
  have O_Line : OkC P w K mg base _ _ C_Line _ _ := okC_of D_Line_init fun _ _ F => ok_Line_init (CC := C_Coins) (CF := C_Field) (CT := C_Term) F Z_Line
  have O_Line_answer_begin : OkM P w K mg base _ C_Line _ _ _ := okM_of D_Line_answer_begin fun _ _ F => ok_Line_answer_begin (CT := C_Term) F T Z_Line Z_Coins O_can_begin O_Coins
  have O_Line_is_full : OkM P w K mg base _ C_Line _ _ _ := okM_of D_Line_is_full fun _ _ F => ok_Line_is_full (CC := C_Coins) (CF := C_Field) (CT := C_Term) F T Z_Line
  have O_Line_has_term : OkM P w K mg base _ C_Line _ _ _ := okM_of D_Line_has_term fun _ _ F => ok_Line_has_term (CC := C_Coins) (CF := C_Field) (CT := C_Term) F T Z_Line
  have O_Line_answer_want : OkM P w K mg base _ C_Line _ _ _ := okM_of D_Line_answer_want fun _ _ F => ok_Line_answer_want (CC := C_Coins) (CF := C_Field) (CT := C_Term) F T Z_Line
  have O_Line_answer_drop : OkM P w K mg base _ C_Line _ _ _ := okM_of D_Line_answer_drop fun _ _ F => ok_Line_answer_drop F T Z_Line O_Line_has_term
  have O_Line_answer_all : OkM P w K mg base _ C_Line _ _ _ := okM_of D_Line_answer_all fun _ _ F => ok_Line_answer_all F T Z_Line O_is_weight O_can_lie O_Line_is_full O_all_term
  have O_Line_answer_many : OkM P w K mg base _ C_Line _ _ _ := okM_of D_Line_answer_many fun _ _ F => ok_Line_answer_many F T Z_Line O_is_weight O_can_choose O_Line_is_full O_many_term
  have O_Line_answer_change : OkM P w K mg base _ C_Line _ _ _ := okM_of D_Line_answer_change fun _ _ F => ok_Line_answer_change F T Z_Line Z_Call O_Line_answer_all O_Line_answer_many O_Line_answer_drop O_Line_answer_want
  have O_Line_answer_means : OkM P w K mg base _ C_Line _ _ _ := okM_of D_Line_answer_means fun _ _ F => ok_Line_answer_means F T Z_Line O_true_mean O_seeds_mean
  have O_Line_answer_worth : OkM P w K mg base _ C_Line _ _ _ := okM_of D_Line_answer_worth fun _ _ F => ok_Line_answer_worth F T Z_Line Z_Coins O_Coins_has_seed O_worth_of
  have O_Line_answer_best : OkM P w K mg base _ C_Line _ _ _ := okM_of D_Line_answer_best fun _ _ F => ok_Line_answer_best (CC := C_Coins) (CF := C_Field) F T Z_Line Z_Coins O_worth_of
  have O_Line_answer_chances : OkM P w K mg base _ C_Line _ _ _ := okM_of D_Line_answer_chances fun _ _ F => ok_Line_answer_chances F T Z_Line Z_Term O_Line_has_term O_true_chance O_seeds_chance
  have O_Line_answer_look : OkM P w K mg base _ C_Line _ _ _ := okM_of D_Line_answer_look fun _ _ F => ok_Line_answer_look F T Z_Line Z_Coins Z_Call O_Line_answer_means O_Line_answer_worth O_Line_answer_best O_Line_answer_chances
  have O_Line_answer : OkM P w K mg base _ C_Line _ _ _ := okM_of D_Line_answer fun _ _ F => ok_Line_answer F T Z_Line Z_Call O_Line_answer_begin O_answer_of_coins O_Line_answer_change O_Line_answer_look
  exact ok_answers (LI := LI C_Line C_Coins C_Field C_Term) F T Z_Line.cls Z_Call (fun _ _ _ _ e h => LI.mono e h) (fun G L st h => by
    obtain ⟨dx, pt, vc, u, qs, _, h2, _⟩ := h
    exact ⟨dx, _, h2, lF_answer vc pt u⟩) O_read_call O_Line O_Line_answer
end Few
set_option Elab.async false
set_option linter.all false
set_option maxRecDepth 100000
set_option maxHeartbeats 2000000
open PySem PySem.W PyProof.Rows
set_option maxRecDepth 100000 in
set_option maxHeartbeats 80000000 in
theorem PySem.Challenge.cw_fewcoins_s01_answers_holds : PySem.Challenge.rw_fewcoins_s01_answers.Holds := by
  w_on; k_headS; (case hw => exact ⟨[.list [.int 15]], by decide +kernel, by decide +kernel⟩)
  k_fillS
  refine L2.walk_specK (r := PySem.Challenge.rw_fewcoins_s01_answers) (k := 10) (CX := L2.CX0) (ps := ["calls"]) (sp := Few.sp_answers) (by decide +kernel) rfl rfl ⟨rfl, by decide, by decide⟩ (fun w h Y => PySem.W.kIn_of Y) ?F ?S (fun _ _ _ _ z => z)
  case F =>
    intro w mg fa h Y KX G hmg
    refine' Few.all_mk (h := h) KX G hmg ?T ?Z_Field ?Z_Coins ?Z_Term ?Z_Line ?Z_Call ?D_polynomial_product ?D_brought_down ?D_products_with ?D_Field_init ?D_Field_holds ?D_Field_product ?D_Field_power ?D_seed_numbers ?D_odd_ones ?D_first_powers ?D_plain_coin ?D_plain_rows ?D_faint_row ?D_faint_rows ?D_lies_so ?D_Coins_init ?D_Coins_has_seed ?D_Coins_has_coin ?D_Coins_are_rising ?D_Coins_seeds_lying_so ?D_Coins_seeds_with_odd ?D_greatest_common ?D_as_fraction ?D_Term_init ?D_is_all ?D_is_many ?D_ways_by_ones ?D_all_term ?D_many_term ?D_true_chance ?D_seeds_chance ?D_true_mean ?D_seeds_mean ?D_worth_of ?D_can_begin ?D_is_weight ?D_answer_mul ?D_answer_pow ?D_answer_coin ?D_answer_row ?D_answer_count ?D_answer_odds ?D_can_lie ?D_can_choose ?D_answer_of_coins ?D_Line_init ?D_Line_answer ?D_Line_answer_change ?D_Line_answer_look ?D_Line_answer_begin ?D_Line_is_full ?D_Line_has_term ?D_Line_answer_all ?D_Line_answer_many ?D_Line_answer_drop ?D_Line_answer_want ?D_Line_answer_means ?D_Line_answer_worth ?D_Line_answer_best ?D_Line_answer_chances ?D_Call_init ?D_read_call ?D_answers
    (case D_Field_init => (refine' Few.init_mk KX G ?i1 ?i2 ?i3 ?i4 ?i5 ?i6 ?i7 ?i8 (fun _ _ _ _ _ _ us hl => match us, hl with | [_, _], _ => rfl); (case i1 => k_is); (case i2 => k_is); (case i3 => k_is); (case i4 => k_is); (case i5 => k_is); (case i6 => k_is); (case i7 => k_is); (case i8 => k_is)))
    (case D_Coins_init => (refine' Few.init_mk KX G ?i1 ?i2 ?i3 ?i4 ?i5 ?i6 ?i7 ?i8 (fun _ _ _ _ _ _ us hl => match us, hl with | [_, _, _, _], _ => rfl); (case i1 => k_is); (case i2 => k_is); (case i3 => k_is); (case i4 => k_is); (case i5 => k_is); (case i6 => k_is); (case i7 => k_is); (case i8 => k_is)))
    (case D_Term_init => (refine' Few.init_mk KX G ?i1 ?i2 ?i3 ?i4 ?i5 ?i6 ?i7 ?i8 (fun _ _ _ _ _ _ us hl => match us, hl with | [_, _, _, _, _], _ => rfl); (case i1 => k_is); (case i2 => k_is); (case i3 => k_is); (case i4 => k_is); (case i5 => k_is); (case i6 => k_is); (case i7 => k_is); (case i8 => k_is)))
    (case D_Line_init => (refine' Few.init_mk KX G ?i1 ?i2 ?i3 ?i4 ?i5 ?i6 ?i7 ?i8 (fun _ _ _ _ _ _ us hl => match us, hl with | [_], _ => rfl); (case i1 => k_is); (case i2 => k_is); (case i3 => k_is); (case i4 => k_is); (case i5 => k_is); (case i6 => k_is); (case i7 => k_is); (case i8 => k_is)))
    (case D_Call_init => (refine' Few.init_mk KX G ?i1 ?i2 ?i3 ?i4 ?i5 ?i6 ?i7 ?i8 (fun _ _ _ _ _ _ us hl => match us, hl with | [_, _, _, _, _], _ => rfl); (case i1 => k_is); (case i2 => k_is); (case i3 => k_is); (case i4 => k_is); (case i5 => k_is); (case i6 => k_is); (case i7 => k_is); (case i8 => k_is)))
    (case Z_Field => (refine' (Few.clz_cons ?f0 (Few.clz_cons ?f1 (Few.clz_nil ?z1 ?z2 ?z3 ?z4))); (case f0 => k_is); (case f1 => k_is); (case z1 => k_is); (case z2 => k_is); (case z3 => k_is); (case z4 => k_is)))
    (case Z_Coins => (refine' (Few.clz_cons ?f0 (Few.clz_cons ?f1 (Few.clz_cons ?f2 (Few.clz_cons ?f3 (Few.clz_nil ?z1 ?z2 ?z3 ?z4))))); (case f0 => k_is); (case f1 => k_is); (case f2 => k_is); (case f3 => k_is); (case z1 => k_is); (case z2 => k_is); (case z3 => k_is); (case z4 => k_is)))
    (case Z_Term => (refine' (Few.clz_cons ?f0 (Few.clz_cons ?f1 (Few.clz_cons ?f2 (Few.clz_cons ?f3 (Few.clz_nil ?z1 ?z2 ?z3 ?z4))))); (case f0 => k_is); (case f1 => k_is); (case f2 => k_is); (case f3 => k_is); (case z1 => k_is); (case z2 => k_is); (case z3 => k_is); (case z4 => k_is)))
    (case Z_Line => (refine' (Few.clz_cons ?f0 (Few.clz_cons ?f1 (Few.clz_cons ?f2 (Few.clz_nil ?z1 ?z2 ?z3 ?z4)))); (case f0 => k_is); (case f1 => k_is); (case f2 => k_is); (case z1 => k_is); (case z2 => k_is); (case z3 => k_is); (case z4 => k_is)))
    (case Z_Call => (refine' (Few.clz_cons ?f0 (Few.clz_cons ?f1 (Few.clz_cons ?f2 (Few.clz_cons ?f3 (Few.clz_nil ?z1 ?z2 ?z3 ?z4))))); (case f0 => k_is); (case f1 => k_is); (case f2 => k_is); (case f3 => k_is); (case z1 => k_is); (case z2 => k_is); (case z3 => k_is); (case z4 => k_is)))
    (case D_polynomial_product => (refine' Few.def_mk KX G ?i1 ?i2 ?i3 ?i4 (fun _ _ _ _ _ _ us hl => match us, hl with | [_, _, _], _ => rfl); (case i1 => k_is); (case i2 => k_is); (case i3 => k_is); (case i4 => k_is)))
    (case D_brought_down => (refine' Few.def_mk KX G ?i1 ?i2 ?i3 ?i4 (fun _ _ _ _ _ _ us hl => match us, hl with | [_, _], _ => rfl); (case i1 => k_is); (case i2 => k_is); (case i3 => k_is); (case i4 => k_is)))
    (case D_products_with => (refine' Few.def_mk KX G ?i1 ?i2 ?i3 ?i4 (fun _ _ _ _ _ _ us hl => match us, hl with | [_, _], _ => rfl); (case i1 => k_is); (case i2 => k_is); (case i3 => k_is); (case i4 => k_is)))
    (case D_Field_holds => (refine' Few.meth_mk ?i1 ?i2 ?i3 ?i4 ?i5 (fun _ _ _ _ _ _ us hl => match us, hl with | [_, _], _ => rfl); (case i1 => k_is); (case i2 => k_is); (case i3 => k_is); (case i4 => k_is); (case i5 => k_is)))
    (case D_Field_product => (refine' Few.meth_mk ?i1 ?i2 ?i3 ?i4 ?i5 (fun _ _ _ _ _ _ us hl => match us, hl with | [_, _, _], _ => rfl); (case i1 => k_is); (case i2 => k_is); (case i3 => k_is); (case i4 => k_is); (case i5 => k_is)))
    (case D_Field_power => (refine' Few.meth_mk ?i1 ?i2 ?i3 ?i4 ?i5 (fun _ _ _ _ _ _ us hl => match us, hl with | [_, _, _], _ => rfl); (case i1 => k_is); (case i2 => k_is); (case i3 => k_is); (case i4 => k_is); (case i5 => k_is)))
    (case D_seed_numbers => (refine' Few.def_mk KX G ?i1 ?i2 ?i3 ?i4 (fun _ _ _ _ _ _ us hl => match us, hl with | [_, _, _], _ => rfl); (case i1 => k_is); (case i2 => k_is); (case i3 => k_is); (case i4 => k_is)))
    (case D_odd_ones => (refine' Few.def_mk KX G ?i1 ?i2 ?i3 ?i4 (fun _ _ _ _ _ _ us hl => match us, hl with | [_], _ => rfl); (case i1 => k_is); (case i2 => k_is); (case i3 => k_is); (case i4 => k_is)))
    (case D_first_powers => (refine' Few.def_mk KX G ?i1 ?i2 ?i3 ?i4 (fun _ _ _ _ _ _ us hl => match us, hl with | [_, _, _], _ => rfl); (case i1 => k_is); (case i2 => k_is); (case i3 => k_is); (case i4 => k_is)))
    (case D_plain_coin => (refine' Few.def_mk KX G ?i1 ?i2 ?i3 ?i4 (fun _ _ _ _ _ _ us hl => match us, hl with | [_, _, _], _ => rfl); (case i1 => k_is); (case i2 => k_is); (case i3 => k_is); (case i4 => k_is)))
    (case D_plain_rows => (refine' Few.def_mk KX G ?i1 ?i2 ?i3 ?i4 (fun _ _ _ _ _ _ us hl => match us, hl with | [_, _, _], _ => rfl); (case i1 => k_is); (case i2 => k_is); (case i3 => k_is); (case i4 => k_is)))
    (case D_faint_row => (refine' Few.def_mk KX G ?i1 ?i2 ?i3 ?i4 (fun _ _ _ _ _ _ us hl => match us, hl with | [_, _], _ => rfl); (case i1 => k_is); (case i2 => k_is); (case i3 => k_is); (case i4 => k_is)))
    (case D_faint_rows => (refine' Few.def_mk KX G ?i1 ?i2 ?i3 ?i4 (fun _ _ _ _ _ _ us hl => match us, hl with | [_, _, _], _ => rfl); (case i1 => k_is); (case i2 => k_is); (case i3 => k_is); (case i4 => k_is)))
    (case D_lies_so => (refine' Few.def_mk KX G ?i1 ?i2 ?i3 ?i4 (fun _ _ _ _ _ _ us hl => match us, hl with | [_, _, _], _ => rfl); (case i1 => k_is); (case i2 => k_is); (case i3 => k_is); (case i4 => k_is)))
    (case D_Coins_has_seed => (refine' Few.meth_mk ?i1 ?i2 ?i3 ?i4 ?i5 (fun _ _ _ _ _ _ us hl => match us, hl with | [_, _], _ => rfl); (case i1 => k_is); (case i2 => k_is); (case i3 => k_is); (case i4 => k_is); (case i5 => k_is)))
    (case D_Coins_has_coin => (refine' Few.meth_mk ?i1 ?i2 ?i3 ?i4 ?i5 (fun _ _ _ _ _ _ us hl => match us, hl with | [_, _], _ => rfl); (case i1 => k_is); (case i2 => k_is); (case i3 => k_is); (case i4 => k_is); (case i5 => k_is)))
    (case D_Coins_are_rising => (refine' Few.meth_mk ?i1 ?i2 ?i3 ?i4 ?i5 (fun _ _ _ _ _ _ us hl => match us, hl with | [_, _], _ => rfl); (case i1 => k_is); (case i2 => k_is); (case i3 => k_is); (case i4 => k_is); (case i5 => k_is)))
    (case D_Coins_seeds_lying_so => (refine' Few.meth_mk ?i1 ?i2 ?i3 ?i4 ?i5 (fun _ _ _ _ _ _ us hl => match us, hl with | [_, _, _], _ => rfl); (case i1 => k_is); (case i2 => k_is); (case i3 => k_is); (case i4 => k_is); (case i5 => k_is)))
    (case D_Coins_seeds_with_odd => (refine' Few.meth_mk ?i1 ?i2 ?i3 ?i4 ?i5 (fun _ _ _ _ _ _ us hl => match us, hl with | [_, _], _ => rfl); (case i1 => k_is); (case i2 => k_is); (case i3 => k_is); (case i4 => k_is); (case i5 => k_is)))
    (case D_greatest_common => (refine' Few.def_mk KX G ?i1 ?i2 ?i3 ?i4 (fun _ _ _ _ _ _ us hl => match us, hl with | [_, _], _ => rfl); (case i1 => k_is); (case i2 => k_is); (case i3 => k_is); (case i4 => k_is)))
    (case D_as_fraction => (refine' Few.def_mk KX G ?i1 ?i2 ?i3 ?i4 (fun _ _ _ _ _ _ us hl => match us, hl with | [_, _], _ => rfl); (case i1 => k_is); (case i2 => k_is); (case i3 => k_is); (case i4 => k_is)))
    (case D_is_all => (refine' Few.def_mk KX G ?i1 ?i2 ?i3 ?i4 (fun _ _ _ _ _ _ us hl => match us, hl with | [_, _], _ => rfl); (case i1 => k_is); (case i2 => k_is); (case i3 => k_is); (case i4 => k_is)))
    (case D_is_many => (refine' Few.def_mk KX G ?i1 ?i2 ?i3 ?i4 (fun _ _ _ _ _ _ us hl => match us, hl with | [_, _, _], _ => rfl); (case i1 => k_is); (case i2 => k_is); (case i3 => k_is); (case i4 => k_is)))
    (case D_ways_by_ones => (refine' Few.def_mk KX G ?i1 ?i2 ?i3 ?i4 (fun _ _ _ _ _ _ us hl => match us, hl with | [_], _ => rfl); (case i1 => k_is); (case i2 => k_is); (case i3 => k_is); (case i4 => k_is)))
    (case D_all_term => (refine' Few.def_mk KX G ?i1 ?i2 ?i3 ?i4 (fun _ _ _ _ _ _ us hl => match us, hl with | [_, _, _], _ => rfl); (case i1 => k_is); (case i2 => k_is); (case i3 => k_is); (case i4 => k_is)))
    (case D_many_term => (refine' Few.def_mk KX G ?i1 ?i2 ?i3 ?i4 (fun _ _ _ _ _ _ us hl => match us, hl with | [_, _, _, _], _ => rfl); (case i1 => k_is); (case i2 => k_is); (case i3 => k_is); (case i4 => k_is)))
    (case D_true_chance => (refine' Few.def_mk KX G ?i1 ?i2 ?i3 ?i4 (fun _ _ _ _ _ _ us hl => match us, hl with | [_, _], _ => rfl); (case i1 => k_is); (case i2 => k_is); (case i3 => k_is); (case i4 => k_is)))
    (case D_seeds_chance => (refine' Few.def_mk KX G ?i1 ?i2 ?i3 ?i4 (fun _ _ _ _ _ _ us hl => match us, hl with | [_, _], _ => rfl); (case i1 => k_is); (case i2 => k_is); (case i3 => k_is); (case i4 => k_is)))
    (case D_true_mean => (refine' Few.def_mk KX G ?i1 ?i2 ?i3 ?i4 (fun _ _ _ _ _ _ us hl => match us, hl with | [_, _], _ => rfl); (case i1 => k_is); (case i2 => k_is); (case i3 => k_is); (case i4 => k_is)))
    (case D_seeds_mean => (refine' Few.def_mk KX G ?i1 ?i2 ?i3 ?i4 (fun _ _ _ _ _ _ us hl => match us, hl with | [_, _], _ => rfl); (case i1 => k_is); (case i2 => k_is); (case i3 => k_is); (case i4 => k_is)))
    (case D_worth_of => (refine' Few.def_mk KX G ?i1 ?i2 ?i3 ?i4 (fun _ _ _ _ _ _ us hl => match us, hl with | [_, _], _ => rfl); (case i1 => k_is); (case i2 => k_is); (case i3 => k_is); (case i4 => k_is)))
    (case D_can_begin => (refine' Few.def_mk KX G ?i1 ?i2 ?i3 ?i4 (fun _ _ _ _ _ _ us hl => match us, hl with | [_, _, _], _ => rfl); (case i1 => k_is); (case i2 => k_is); (case i3 => k_is); (case i4 => k_is)))
    (case D_is_weight => (refine' Few.def_mk KX G ?i1 ?i2 ?i3 ?i4 (fun _ _ _ _ _ _ us hl => match us, hl with | [_], _ => rfl); (case i1 => k_is); (case i2 => k_is); (case i3 => k_is); (case i4 => k_is)))
    (case D_answer_mul => (refine' Few.def_mk KX G ?i1 ?i2 ?i3 ?i4 (fun _ _ _ _ _ _ us hl => match us, hl with | [_, _, _], _ => rfl); (case i1 => k_is); (case i2 => k_is); (case i3 => k_is); (case i4 => k_is)))
    (case D_answer_pow => (refine' Few.def_mk KX G ?i1 ?i2 ?i3 ?i4 (fun _ _ _ _ _ _ us hl => match us, hl with | [_, _, _], _ => rfl); (case i1 => k_is); (case i2 => k_is); (case i3 => k_is); (case i4 => k_is)))
    (case D_answer_coin => (refine' Few.def_mk KX G ?i1 ?i2 ?i3 ?i4 (fun _ _ _ _ _ _ us hl => match us, hl with | [_, _, _], _ => rfl); (case i1 => k_is); (case i2 => k_is); (case i3 => k_is); (case i4 => k_is)))
    (case D_answer_row => (refine' Few.def_mk KX G ?i1 ?i2 ?i3 ?i4 (fun _ _ _ _ _ _ us hl => match us, hl with | [_, _], _ => rfl); (case i1 => k_is); (case i2 => k_is); (case i3 => k_is); (case i4 => k_is)))
    (case D_answer_count => (refine' Few.def_mk KX G ?i1 ?i2 ?i3 ?i4 (fun _ _ _ _ _ _ us hl => match us, hl with | [_, _, _], _ => rfl); (case i1 => k_is); (case i2 => k_is); (case i3 => k_is); (case i4 => k_is)))
    (case D_answer_odds => (refine' Few.def_mk KX G ?i1 ?i2 ?i3 ?i4 (fun _ _ _ _ _ _ us hl => match us, hl with | [_, _], _ => rfl); (case i1 => k_is); (case i2 => k_is); (case i3 => k_is); (case i4 => k_is)))
    (case D_can_lie => (refine' Few.def_mk KX G ?i1 ?i2 ?i3 ?i4 (fun _ _ _ _ _ _ us hl => match us, hl with | [_, _], _ => rfl); (case i1 => k_is); (case i2 => k_is); (case i3 => k_is); (case i4 => k_is)))
    (case D_can_choose => (refine' Few.def_mk KX G ?i1 ?i2 ?i3 ?i4 (fun _ _ _ _ _ _ us hl => match us, hl with | [_, _, _], _ => rfl); (case i1 => k_is); (case i2 => k_is); (case i3 => k_is); (case i4 => k_is)))
    (case D_answer_of_coins => (refine' Few.def_mk KX G ?i1 ?i2 ?i3 ?i4 (fun _ _ _ _ _ _ us hl => match us, hl with | [_, _], _ => rfl); (case i1 => k_is); (case i2 => k_is); (case i3 => k_is); (case i4 => k_is)))
    (case D_Line_answer => (refine' Few.meth_mk ?i1 ?i2 ?i3 ?i4 ?i5 (fun _ _ _ _ _ _ us hl => match us, hl with | [_, _], _ => rfl); (case i1 => k_is); (case i2 => k_is); (case i3 => k_is); (case i4 => k_is); (case i5 => k_is)))
    (case D_Line_answer_change => (refine' Few.meth_mk ?i1 ?i2 ?i3 ?i4 ?i5 (fun _ _ _ _ _ _ us hl => match us, hl with | [_, _], _ => rfl); (case i1 => k_is); (case i2 => k_is); (case i3 => k_is); (case i4 => k_is); (case i5 => k_is)))
    (case D_Line_answer_look => (refine' Few.meth_mk ?i1 ?i2 ?i3 ?i4 ?i5 (fun _ _ _ _ _ _ us hl => match us, hl with | [_, _], _ => rfl); (case i1 => k_is); (case i2 => k_is); (case i3 => k_is); (case i4 => k_is); (case i5 => k_is)))
    (case D_Line_answer_begin => (refine' Few.meth_mk ?i1 ?i2 ?i3 ?i4 ?i5 (fun _ _ _ _ _ _ us hl => match us, hl with | [_, _, _, _], _ => rfl); (case i1 => k_is); (case i2 => k_is); (case i3 => k_is); (case i4 => k_is); (case i5 => k_is)))
    (case D_Line_is_full => (refine' Few.meth_mk ?i1 ?i2 ?i3 ?i4 ?i5 (fun _ _ _ _ _ _ us hl => match us, hl with | [_], _ => rfl); (case i1 => k_is); (case i2 => k_is); (case i3 => k_is); (case i4 => k_is); (case i5 => k_is)))
    (case D_Line_has_term => (refine' Few.meth_mk ?i1 ?i2 ?i3 ?i4 ?i5 (fun _ _ _ _ _ _ us hl => match us, hl with | [_, _], _ => rfl); (case i1 => k_is); (case i2 => k_is); (case i3 => k_is); (case i4 => k_is); (case i5 => k_is)))
    (case D_Line_answer_all => (refine' Few.meth_mk ?i1 ?i2 ?i3 ?i4 ?i5 (fun _ _ _ _ _ _ us hl => match us, hl with | [_, _, _], _ => rfl); (case i1 => k_is); (case i2 => k_is); (case i3 => k_is); (case i4 => k_is); (case i5 => k_is)))
    (case D_Line_answer_many => (refine' Few.meth_mk ?i1 ?i2 ?i3 ?i4 ?i5 (fun _ _ _ _ _ _ us hl => match us, hl with | [_, _, _, _], _ => rfl); (case i1 => k_is); (case i2 => k_is); (case i3 => k_is); (case i4 => k_is); (case i5 => k_is)))
    (case D_Line_answer_drop => (refine' Few.meth_mk ?i1 ?i2 ?i3 ?i4 ?i5 (fun _ _ _ _ _ _ us hl => match us, hl with | [_, _], _ => rfl); (case i1 => k_is); (case i2 => k_is); (case i3 => k_is); (case i4 => k_is); (case i5 => k_is)))
    (case D_Line_answer_want => (refine' Few.meth_mk ?i1 ?i2 ?i3 ?i4 ?i5 (fun _ _ _ _ _ _ us hl => match us, hl with | [_, _], _ => rfl); (case i1 => k_is); (case i2 => k_is); (case i3 => k_is); (case i4 => k_is); (case i5 => k_is)))
    (case D_Line_answer_means => (refine' Few.meth_mk ?i1 ?i2 ?i3 ?i4 ?i5 (fun _ _ _ _ _ _ us hl => match us, hl with | [_], _ => rfl); (case i1 => k_is); (case i2 => k_is); (case i3 => k_is); (case i4 => k_is); (case i5 => k_is)))
    (case D_Line_answer_worth => (refine' Few.meth_mk ?i1 ?i2 ?i3 ?i4 ?i5 (fun _ _ _ _ _ _ us hl => match us, hl with | [_, _], _ => rfl); (case i1 => k_is); (case i2 => k_is); (case i3 => k_is); (case i4 => k_is); (case i5 => k_is)))
    (case D_Line_answer_best => (refine' Few.meth_mk ?i1 ?i2 ?i3 ?i4 ?i5 (fun _ _ _ _ _ _ us hl => match us, hl with | [_], _ => rfl); (case i1 => k_is); (case i2 => k_is); (case i3 => k_is); (case i4 => k_is); (case i5 => k_is)))
    (case D_Line_answer_chances => (refine' Few.meth_mk ?i1 ?i2 ?i3 ?i4 ?i5 (fun _ _ _ _ _ _ us hl => match us, hl with | [_, _], _ => rfl); (case i1 => k_is); (case i2 => k_is); (case i3 => k_is); (case i4 => k_is); (case i5 => k_is)))
    (case D_read_call => (refine' Few.def_mk KX G ?i1 ?i2 ?i3 ?i4 (fun _ _ _ _ _ _ us hl => match us, hl with | [_, _], _ => rfl); (case i1 => k_is); (case i2 => k_is); (case i3 => k_is); (case i4 => k_is)))
    (case D_answers => (refine' Few.def_mk KX G ?i1 ?i2 ?i3 ?i4 (fun _ _ _ _ _ _ us hl => match us, hl with | [_], _ => rfl); (case i1 => k_is); (case i2 => k_is); (case i3 => k_is); (case i4 => k_is)))
    case T =>
      refine' ⟨PySem.W.mg_none_of KX G ?n_abs, PySem.W.mg_none_of KX G ?n_enumerate, PySem.W.mg_none_of KX G ?n_len, PySem.W.mg_none_of KX G ?n_max, PySem.W.mg_none_of KX G ?n_min, PySem.W.mg_none_of KX G ?n_range, PySem.W.mg_none_of KX G ?n_set, PySem.W.mg_none_of KX G ?n_sum, PySem.W.mg_none_of KX G ?n_zip, PySem.W.mg_of KX G ?g_DIVISORS, ?d_DIVISORS, ⟨_, PySem.W.mg_of KX G ?g_BEGIN, ?r_BEGIN⟩, ⟨_, PySem.W.mg_of KX G ?g_MUL, ?r_MUL⟩, ⟨_, PySem.W.mg_of KX G ?g_POW, ?r_POW⟩, ⟨_, PySem.W.mg_of KX G ?g_COIN, ?r_COIN⟩, ⟨_, PySem.W.mg_of KX G ?g_ROW, ?r_ROW⟩, ⟨_, PySem.W.mg_of KX G ?g_COUNT, ?r_COUNT⟩, ⟨_, PySem.W.mg_of KX G ?g_ALL, ?r_ALL⟩, ⟨_, PySem.W.mg_of KX G ?g_MANY, ?r_MANY⟩, ⟨_, PySem.W.mg_of KX G ?g_DROP, ?r_DROP⟩, ⟨_, PySem.W.mg_of KX G ?g_MEANS, ?r_MEANS⟩, ⟨_, PySem.W.mg_of KX G ?g_WORTH, ?r_WORTH⟩, ⟨_, PySem.W.mg_of KX G ?g_BEST, ?r_BEST⟩, ⟨_, PySem.W.mg_of KX G ?g_CHANCES, ?r_CHANCES⟩, ⟨_, PySem.W.mg_of KX G ?g_NONE_SUCH, ?r_NONE_SUCH⟩, ⟨_, PySem.W.mg_of KX G ?g_NOT_BEGUN, ?r_NOT_BEGUN⟩, ⟨_, PySem.W.mg_of KX G ?g_WRONG, ?r_WRONG⟩, ⟨_, PySem.W.mg_of KX G ?g_FULL, ?r_FULL⟩, ⟨_, PySem.W.mg_of KX G ?g_MOST_DIGITS, ?r_MOST_DIGITS⟩, ⟨_, PySem.W.mg_of KX G ?g_MOST_FAINT_DIGITS, ?r_MOST_FAINT_DIGITS⟩, ⟨_, PySem.W.mg_of KX G ?g_MOST_SEED_DIGITS, ?r_MOST_SEED_DIGITS⟩, ⟨_, PySem.W.mg_of KX G ?g_MOST_POWER, ?r_MOST_POWER⟩, ⟨_, PySem.W.mg_of KX G ?g_MOST_WEIGHT, ?r_MOST_WEIGHT⟩, ⟨_, PySem.W.mg_of KX G ?g_MOST_TERMS, ?r_MOST_TERMS⟩, ⟨_, PySem.W.mg_of KX G ?g_MOST_LIE, ?r_MOST_LIE⟩, ⟨_, PySem.W.mg_of KX G ?g_MOST_ONES, ?r_MOST_ONES⟩, PySem.W.mg_of KX G ?g_SHAPES, ?d_SHAPES⟩
      (case n_abs => k_is)
      (case n_enumerate => k_is)
      (case n_len => k_is)
      (case n_max => k_is)
      (case n_min => k_is)
      (case n_range => k_is)
      (case n_set => k_is)
      (case n_sum => k_is)
      (case n_zip => k_is)
      (case g_DIVISORS => k_is)
      (case d_DIVISORS => (refine' Few.tup_mk ?l ?z ?v; (case l => k_is); (case z => decide); (case v => (repeat (first | exact .nil | refine' .cons ⟨_, rfl⟩ ?_)))))
      (case g_BEGIN => k_is); (case r_BEGIN => exact ⟨_, rfl⟩)
      (case g_MUL => k_is); (case r_MUL => exact ⟨_, rfl⟩)
      (case g_POW => k_is); (case r_POW => exact ⟨_, rfl⟩)
      (case g_COIN => k_is); (case r_COIN => exact ⟨_, rfl⟩)
      (case g_ROW => k_is); (case r_ROW => exact ⟨_, rfl⟩)
      (case g_COUNT => k_is); (case r_COUNT => exact ⟨_, rfl⟩)
      (case g_ALL => k_is); (case r_ALL => exact ⟨_, rfl⟩)
      (case g_MANY => k_is); (case r_MANY => exact ⟨_, rfl⟩)
      (case g_DROP => k_is); (case r_DROP => exact ⟨_, rfl⟩)
      (case g_MEANS => k_is); (case r_MEANS => exact ⟨_, rfl⟩)
      (case g_WORTH => k_is); (case r_WORTH => exact ⟨_, rfl⟩)
      (case g_BEST => k_is); (case r_BEST => exact ⟨_, rfl⟩)
      (case g_CHANCES => k_is); (case r_CHANCES => exact ⟨_, rfl⟩)
      (case g_NONE_SUCH => k_is); (case r_NONE_SUCH => exact ⟨_, rfl⟩)
      (case g_NOT_BEGUN => k_is); (case r_NOT_BEGUN => exact ⟨_, rfl⟩)
      (case g_WRONG => k_is); (case r_WRONG => exact ⟨_, rfl⟩)
      (case g_FULL => k_is); (case r_FULL => exact ⟨_, rfl⟩)
      (case g_MOST_DIGITS => k_is); (case r_MOST_DIGITS => exact ⟨_, rfl⟩)
      (case g_MOST_FAINT_DIGITS => k_is); (case r_MOST_FAINT_DIGITS => exact ⟨_, rfl⟩)
      (case g_MOST_SEED_DIGITS => k_is); (case r_MOST_SEED_DIGITS => exact ⟨_, rfl⟩)
      (case g_MOST_POWER => k_is); (case r_MOST_POWER => exact ⟨_, rfl⟩)
      (case g_MOST_WEIGHT => k_is); (case r_MOST_WEIGHT => exact ⟨_, rfl⟩)
      (case g_MOST_TERMS => k_is); (case r_MOST_TERMS => exact ⟨_, rfl⟩)
      (case g_MOST_LIE => k_is); (case r_MOST_LIE => exact ⟨_, rfl⟩)
      (case g_MOST_ONES => k_is); (case r_MOST_ONES => exact ⟨_, rfl⟩)
      (case g_SHAPES => k_is)
      (case d_SHAPES => (refine' Few.tup2_mk (qs := [?_, ?_, ?_, ?_, ?_, ?_, ?_, ?_, ?_, ?_, ?_, ?_, ?_, ?_, ?_, ?_]) ?t ?r; (case t => (refine' Few.tup_mk ?l ?z ?v; (case l => k_is); (case z => decide); (case v => (repeat (first | exact .nil | refine' .cons rfl ?_))))); (case r => (refine' ⟨?r0, ?r1, ?r2, ?r3, ?r4, ?r5, ?r6, ?r7, ?r8, ?r9, ?r10, ?r11, ?r12, ?r13, ?r14, ?r15, trivial⟩; (case r0 => (refine' Few.tup_mk ?l ?z ?v; (case l => k_is); (case z => decide); (case v => (repeat (first | exact .nil | refine' .cons ⟨_, rfl⟩ ?_))))); (case r1 => (refine' Few.tup_mk ?l ?z ?v; (case l => k_is); (case z => decide); (case v => (repeat (first | exact .nil | refine' .cons ⟨_, rfl⟩ ?_))))); (case r2 => (refine' Few.tup_mk ?l ?z ?v; (case l => k_is); (case z => decide); (case v => (repeat (first | exact .nil | refine' .cons ⟨_, rfl⟩ ?_))))); (case r3 => (refine' Few.tup_mk ?l ?z ?v; (case l => k_is); (case z => decide); (case v => (repeat (first | exact .nil | refine' .cons ⟨_, rfl⟩ ?_))))); (case r4 => (refine' Few.tup_mk ?l ?z ?v; (case l => k_is); (case z => decide); (case v => (repeat (first | exact .nil | refine' .cons ⟨_, rfl⟩ ?_))))); (case r5 => (refine' Few.tup_mk ?l ?z ?v; (case l => k_is); (case z => decide); (case v => (repeat (first | exact .nil | refine' .cons ⟨_, rfl⟩ ?_))))); (case r6 => (refine' Few.tup_mk ?l ?z ?v; (case l => k_is); (case z => decide); (case v => (repeat (first | exact .nil | refine' .cons ⟨_, rfl⟩ ?_))))); (case r7 => (refine' Few.tup_mk ?l ?z ?v; (case l => k_is); (case z => decide); (case v => (repeat (first | exact .nil | refine' .cons ⟨_, rfl⟩ ?_))))); (case r8 => (refine' Few.tup_mk ?l ?z ?v; (case l => k_is); (case z => decide); (case v => (repeat (first | exact .nil | refine' .cons ⟨_, rfl⟩ ?_))))); (case r9 => (refine' Few.tup_mk ?l ?z ?v; (case l => k_is); (case z => decide); (case v => (repeat (first | exact .nil | refine' .cons ⟨_, rfl⟩ ?_))))); (case r10 => (refine' Few.tup_mk ?l ?z ?v; (case l => k_is); (case z => decide); (case v => (repeat (first | exact .nil | refine' .cons ⟨_, rfl⟩ ?_))))); (case r11 => (refine' Few.tup_mk ?l ?z ?v; (case l => k_is); (case z => decide); (case v => (repeat (first | exact .nil | refine' .cons ⟨_, rfl⟩ ?_))))); (case r12 => (refine' Few.tup_mk ?l ?z ?v; (case l => k_is); (case z => decide); (case v => (repeat (first | exact .nil | refine' .cons ⟨_, rfl⟩ ?_))))); (case r13 => (refine' Few.tup_mk ?l ?z ?v; (case l => k_is); (case z => decide); (case v => (repeat (first | exact .nil | refine' .cons ⟨_, rfl⟩ ?_))))); (case r14 => (refine' Few.tup_mk ?l ?z ?v; (case l => k_is); (case z => decide); (case v => (repeat (first | exact .nil | refine' .cons ⟨_, rfl⟩ ?_))))); (case r15 => (refine' Few.tup_mk ?l ?z ?v; (case l => k_is); (case z => decide); (case v => (repeat (first | exact .nil | refine' .cons ⟨_, rfl⟩ ?_)))))))))
  case S =>
    intro K H xs a hO hwi hask hx
    cases hx with
    | cons h1 h2 =>
      cases h2
      cases h1 with
      | lst hs ha =>
        have e := L2.ints_dw a.1 _ ha
        subst e
        have q : ((Codec.inLen 0 8600 a.1 && a.1.all (Codec.inInt (-2147483648) 2147483647)) && true) = true := hwi
        rw [Bool.and_eq_true, Bool.and_eq_true] at q
        exact ⟨_, a.1, rfl, hs, (Codec.inNat_iff.mp q.1.1).2, hask, fun H' p hp => .lst (L2.SqL.of hp) (L2.dw_ints _)⟩
#print axioms PySem.Challenge.cw_fewcoins_s01_answers_holds
