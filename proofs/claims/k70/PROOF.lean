import PyProof.Rows.All
import Wide.All
import OpenK.AllK
import Wide.FinOn
import HandS.ForMost
import HandS.Exc
import HandS.ExcValue
import HandS.ExcField
import HandS.ExcIs
import HandS.IsInst
import HandS.Lambda
import HandS.EndTab
import HandS.Wide
import HandS.WideBits
import HandS.RaiseMore
import HandS.WordsList
import HandS.WordsExc
import HandS.ExcInit
import PyProof.Rows.SetFrom
import HandS.SetFor
import HandS.Zip
import HandS.SortInts
import PyProof.ReprRoads
import HandS.FStrTup
import HandS.EndBits
import HandS.OwnEq
import PyProof.FactsAll.object_2
import HandS.ClsMeth
import HandS.MakeKwOnly
import HandS.Defaults
import KE.KFmtOwn
import HandS.ExcOwn
import PyProof.StrLawsRepr
import PyProof.CallFns
import HandS.Text
import HandS.StrMore
import HandS.Set
import HandS.Strs
import PyProof.Rows.RegReprOcc
import HandS.Conv
import HandS.Codes
import HandS.ForDict
import HandS.Style
import HandS.List
import PyProof.EnumMake
import PyProof.Draws
import HandS.Walk
import KE.KRevIter
import KE.KNestM
import PySem.Challenge.RW_oneflip_k70_tables_in_gray_order
set_option linter.all false
/-! Ones of a number, pairs of neighbours below it. -/
set_option exponentiation.threshold 100000
namespace M04
theorem two_pos (k : Nat) : 0 < 2 ^ k := Nat.pow_pos (by decide)
def cnt (n : Nat) : Nat → Nat
  | 0 => 0
  | k + 1 => cnt n k + n / 2 ^ k % 2
theorem cnt_low (n k : Nat) : cnt n (k + 1) = n % 2 + cnt (n / 2) k := by
  induction k with
  | zero =>
    show 0 + n / 2 ^ 0 % 2 = n % 2 + 0
    rw [Nat.pow_zero, Nat.div_one]
    omega
  | succ k ih =>
    show cnt n (k + 1) + n / 2 ^ (k + 1) % 2 = n % 2 + (cnt (n / 2) k + n / 2 / 2 ^ k % 2)
    rw [ih, Nat.div_div_eq_div_mul, Nat.pow_succ, Nat.mul_comm 2]
    omega
def pc (n : Nat) : Nat := cnt n n
theorem cnt_zero (k : Nat) : cnt 0 k = 0 := by
  induction k with
  | zero => rfl
  | succ k ih =>
    show cnt 0 k + 0 / 2 ^ k % 2 = 0
    rw [ih, Nat.zero_div]
theorem cnt_more {n k : Nat} (h : n < 2 ^ k) : cnt n (k + 1) = cnt n k := by
  show cnt n k + n / 2 ^ k % 2 = cnt n k
  rw [Nat.div_eq_of_lt h]
  rfl
theorem cnt_up {n k : Nat} (h : n < 2 ^ k) (m : Nat) : cnt n (k + m) = cnt n k := by
  induction m with
  | zero => rfl
  | succ m ih =>
    have h2 : n < 2 ^ (k + m) := Nat.lt_of_lt_of_le h (Nat.pow_le_pow_right (by decide) (Nat.le_add_right k m))
    exact (cnt_more h2).trans ih
theorem cnt_pc {n k : Nat} (h : n < 2 ^ k) : cnt n k = pc n := by
  unfold pc
  have h2 : n < 2 ^ n := Nat.lt_two_pow_self
  by_cases c : k ≤ n
  · have e := cnt_up h (n - k)
    rw [show k + (n - k) = n by omega] at e
    exact e.symm
  · have e := cnt_up h2 (k - n)
    rw [show n + (k - n) = k by omega] at e
    exact e
theorem pc_half (n : Nat) : pc n = n % 2 + pc (n / 2) := by
  have h : n < 2 ^ (n + 1) := Nat.lt_trans Nat.lt_two_pow_self (Nat.pow_lt_pow_right (by decide) (Nat.lt_succ_self n))
  have h2 : n / 2 < 2 ^ n := by
    rw [Nat.pow_succ] at h
    omega
  rw [← cnt_pc h, cnt_low, cnt_pc h2]
theorem pc_two (n : Nat) : pc (2 * n) = pc n := by
  rw [pc_half, show 2 * n % 2 = 0 by omega, show 2 * n / 2 = n by omega, Nat.zero_add]
theorem pc_odd (n : Nat) : pc (2 * n + 1) = pc n + 1 := by
  rw [pc_half, show (2 * n + 1) % 2 = 1 by omega, show (2 * n + 1) / 2 = n by omega, Nat.add_comm]
theorem pc_zero : pc 0 = 0 := rfl
/-- the ones of all words below n -/
def E : Nat → Nat
  | 0 => 0
  | n + 1 => E n + pc n
theorem E_two (m : Nat) : E (2 * m) = 2 * E m + m := by
  induction m with
  | zero => rfl
  | succ m ih =>
    show E (2 * m) + pc (2 * m) + pc (2 * m + 1) = 2 * (E m + pc m) + (m + 1)
    rw [ih, pc_two, pc_odd]
    omega
theorem E_odd (m : Nat) : E (2 * m + 1) = E m + E (m + 1) + m := by
  show E (2 * m) + pc (2 * m) = E m + (E m + pc m) + m
  rw [E_two, pc_two]
  omega
theorem E_even (m : Nat) : E (2 * m + 2) = 2 * E (m + 1) + m + 1 := E_two (m + 1)
def T (b : Nat) : Nat := b * 2 ^ b / 2
theorem T_succ (b : Nat) : T (b + 1) = (b + 1) * 2 ^ b := by
  unfold T
  rw [Nat.pow_succ, ← Nat.mul_assoc, Nat.mul_div_cancel _ (by decide)]
theorem T_two (b : Nat) : 2 * T b = b * 2 ^ b := by
  cases b with
  | zero => rfl
  | succ b => rw [T_succ, Nat.pow_succ, Nat.mul_comm 2, Nat.mul_assoc]
theorem pc_pow (q b : Nat) : pc (q * 2 ^ b) = pc q := by
  induction b with
  | zero => rw [Nat.pow_zero, Nat.mul_one]
  | succ b ih => rw [Nat.pow_succ, ← Nat.mul_assoc, Nat.mul_comm, pc_two, ih]
theorem E_pow (q b : Nat) : E (q * 2 ^ b + 2 ^ b) = E (q * 2 ^ b) + pc q * 2 ^ b + T b := by
  induction b with
  | zero =>
    show E (q * 1 + 1) = E (q * 1) + pc q * 1 + 0
    rw [Nat.mul_one, Nat.mul_one]
    rfl
  | succ b ih =>
    have e1 : q * 2 ^ (b + 1) = 2 * (q * 2 ^ b) := by rw [Nat.pow_succ, ← Nat.mul_assoc, Nat.mul_comm]
    have e2 : 2 ^ (b + 1) = 2 * 2 ^ b := by rw [Nat.pow_succ, Nat.mul_comm]
    rw [e1, e2, ← Nat.mul_add, E_two, E_two, ih, T_succ, Nat.mul_add, Nat.mul_add, T_two, Nat.add_mul]
    have e3 : pc q * (2 * 2 ^ b) = 2 * (pc q * 2 ^ b) := by rw [← Nat.mul_assoc, Nat.mul_comm (pc q), Nat.mul_assoc]
    rw [e3]
    omega
/-- the bits of n below c, descending -/
def D (n : Nat) : Nat → List Nat
  | 0 => []
  | c + 1 => if n / 2 ^ c % 2 = 1 then c :: D n c else D n c
def S : List Nat → Nat → Nat → Nat
  | [], _, acc => acc
  | b :: r, a, acc => S r (a + 1) (acc + a * 2 ^ b + T b)
theorem S_is (n c : Nat) : S (D n c) (pc (n / 2 ^ c)) (E (n / 2 ^ c * 2 ^ c)) = E n := by
  induction c with
  | zero =>
    show E (n / 2 ^ 0 * 2 ^ 0) = E n
    rw [Nat.pow_zero, Nat.div_one, Nat.mul_one]
  | succ c ih =>
    have e : n / 2 ^ (c + 1) = n / 2 ^ c / 2 := by rw [Nat.pow_succ, Nat.div_div_eq_div_mul]
    have e2 : n / 2 ^ (c + 1) * 2 ^ (c + 1) = 2 * (n / 2 ^ c / 2) * 2 ^ c := by
      rw [e, Nat.pow_succ, Nat.mul_comm (2 ^ c), ← Nat.mul_assoc, Nat.mul_comm _ 2]
    unfold D
    by_cases h : n / 2 ^ c % 2 = 1
    · rw [if_pos h, e2, e]
      show S (D n c) (pc (n / 2 ^ c / 2) + 1) (E (2 * (n / 2 ^ c / 2) * 2 ^ c) + pc (n / 2 ^ c / 2) * 2 ^ c + T c) = E n
      have p1 : pc (n / 2 ^ c / 2) + 1 = pc (n / 2 ^ c) := by rw [pc_half (n / 2 ^ c), h, Nat.add_comm]
      have p2 : pc (n / 2 ^ c / 2) = pc (2 * (n / 2 ^ c / 2)) := (pc_two _).symm
      have p3 : 2 * (n / 2 ^ c / 2) * 2 ^ c + 2 ^ c = n / 2 ^ c * 2 ^ c := by
        have z : n / 2 ^ c = 2 * (n / 2 ^ c / 2) + 1 := by omega
        conv => rhs; rw [z]
        rw [Nat.add_mul, Nat.one_mul]
      rw [p1, p2, ← E_pow, p3]
      exact ih
    · rw [if_neg h, e2, e]
      have z : 2 * (n / 2 ^ c / 2) = n / 2 ^ c := by omega
      have p1 : pc (n / 2 ^ c / 2) = pc (n / 2 ^ c) := by
        have q := pc_two (n / 2 ^ c / 2)
        rw [z] at q
        exact q.symm
      rw [z, p1]
      exact ih
theorem S_all {n c : Nat} (h : n < 2 ^ c) : S (D n c) 0 0 = E n := by
  have e := S_is n c
  rw [Nat.div_eq_of_lt h, Nat.zero_mul] at e
  exact e
theorem E_two_pow (p : Nat) : E (2 * 2 ^ p) = (p + 1) * 2 ^ p := by
  have e := E_pow 0 (p + 1)
  rw [Nat.zero_mul, Nat.zero_add, T_succ] at e
  have e2 : 2 ^ (p + 1) = 2 * 2 ^ p := by rw [Nat.pow_succ, Nat.mul_comm]
  rw [e2] at e
  rw [e]
  show 0 + 0 * _ + _ = _
  rw [Nat.zero_mul]
  omega
/-- the bits of n below c, ascending -/
theorem D_rev (n c : Nat) : (D n c).reverse = (List.range c).filter fun i => decide (n / 2 ^ i % 2 = 1) := by
  induction c with
  | zero => rfl
  | succ c ih =>
    rw [List.range_succ, List.filter_append, ← ih]
    show (if n / 2 ^ c % 2 = 1 then c :: D n c else D n c).reverse = _
    by_cases h : n / 2 ^ c % 2 = 1
    · rw [if_pos h, List.reverse_cons]
      simp [h]
    · rw [if_neg h]
      simp [h]
theorem D_lt {n c b : Nat} (h : b ∈ D n c) : b < c := by
  have e : b ∈ (D n c).reverse := List.mem_reverse.mpr h
  rw [D_rev] at e
  exact List.mem_range.mp (List.mem_filter.mp e).1
theorem D_len (n c : Nat) : (D n c).length ≤ c := by
  rw [← List.length_reverse, D_rev]
  exact Nat.le_trans (List.length_filter_le _ _) (by rw [List.length_range]; exact Nat.le_refl _)
/-! ### signs -/
/-- the signs of n to the base 2, the lowest first -/
def R (n : Nat) : List Nat := ((Nat.toDigits 2 n).map fun c => c.toNat).reverse
theorem R_small {n : Nat} (h : n < 2) : R n = [48 + n] := by
  unfold R
  rw [Nat.toDigits_of_lt_base h]
  have e : n = 0 ∨ n = 1 := by omega
  rcases e with rfl | rfl <;> rfl
theorem R_big {n : Nat} (h : 2 ≤ n) : R n = (48 + n % 2) :: R (n / 2) := by
  unfold R
  rw [Nat.toDigits_of_base_le (by decide) h, List.map_append, List.reverse_append]
  have e : n % 2 = 0 ∨ n % 2 = 1 := by omega
  rcases e with z | z <;> rw [z] <;> rfl
theorem R_facts : ∀ n : Nat, n < 2 ^ (R n).length ∧ (∀ i, i < (R n).length → (R n)[i]? = some (48 + n / 2 ^ i % 2)) := by
  intro n
  induction n using Nat.strongRecOn with
  | ind n ih =>
    by_cases h : n < 2
    · rw [R_small h]
      refine ⟨by show n < 2 ^ 1; omega, fun i hi => ?_⟩
      have hi : i < 1 := hi
      have e : i = 0 := by omega
      subst e
      show some (48 + n) = some (48 + n / 2 ^ 0 % 2)
      rw [Nat.pow_zero, Nat.div_one, Nat.mod_eq_of_lt h]
    · have h2 : 2 ≤ n := by omega
      obtain ⟨a, b⟩ := ih (n / 2) (by omega)
      rw [R_big h2]
      refine ⟨?_, fun i hi => ?_⟩
      · show n < 2 ^ ((R (n / 2)).length + 1)
        rw [Nat.pow_succ]
        omega
      · cases i with
        | zero =>
          show some (48 + n % 2) = some (48 + n / 2 ^ 0 % 2)
          rw [Nat.pow_zero, Nat.div_one]
        | succ i =>
          show (R (n / 2))[i]? = _
          rw [b i (by have hi : i + 1 < (R (n / 2)).length + 1 := hi; omega), Nat.div_div_eq_div_mul, Nat.pow_succ, Nat.mul_comm 2]
theorem R_len {n k : Nat} (hk : 0 < k) (h : n < 2 ^ k) : (R n).length ≤ k := by
  induction k generalizing n with
  | zero => exact absurd hk (by decide)
  | succ k ih =>
    by_cases c : n < 2
    · rw [R_small c]
      exact Nat.succ_le_succ (Nat.zero_le _)
    · rw [R_big (by omega)]
      rw [Nat.pow_succ] at h
      have hk2 : 0 < k := by
        cases k with
        | zero =>
          rw [Nat.pow_zero] at h
          omega
        | succ k => exact Nat.succ_pos k
      exact Nat.succ_le_succ (ih hk2 (by omega))
theorem R_count (n : Nat) : (R n).countP (fun c => decide (c = 49)) = pc n := by
  induction n using Nat.strongRecOn with
  | ind n ih =>
    by_cases h : n < 2
    · rw [R_small h]
      have e : n = 0 ∨ n = 1 := by omega
      rcases e with rfl | rfl <;> rfl
    · rw [R_big (by omega), List.countP_cons, ih (n / 2) (by omega), pc_half n]
      have e : n % 2 = 0 ∨ n % 2 = 1 := by omega
      rcases e with z | z <;> rw [z] <;> simp <;> omega
theorem cnt_le (n k : Nat) : cnt n k ≤ k := by
  induction k with
  | zero => exact Nat.le_refl _
  | succ k ih =>
    show cnt n k + n / 2 ^ k % 2 ≤ k + 1
    omega
theorem pc_le {n k : Nat} (h : n < 2 ^ k) : pc n ≤ k := by
  rw [← cnt_pc h]
  exact cnt_le n k
theorem E_le {n k : Nat} (h : n ≤ 2 ^ k) : E n ≤ n * k := by
  induction n with
  | zero => exact Nat.zero_le _
  | succ n ih =>
    have a := ih (Nat.le_of_succ_le h)
    have b := pc_le (n := n) (k := k) (Nat.lt_of_succ_le h)
    show E n + pc n ≤ (n + 1) * k
    rw [Nat.add_mul, Nat.one_mul]
    omega
theorem E_lt {n : Nat} (h : n < 2 ^ 402) : E n < 2 ^ 500 := by
  refine Nat.lt_of_le_of_lt (E_le (Nat.le_of_lt h)) ?_
  have a : n * 402 ≤ 2 ^ 402 * 402 := Nat.mul_le_mul_right _ (Nat.le_of_lt h)
  exact Nat.lt_of_le_of_lt a (by decide)
end M04
set_option maxHeartbeats 1000000
namespace M07
def gray (n : Nat) : Nat := n ^^^ (n >>> 1)
theorem gray_bit (n i : Nat) : (gray n).testBit i = (n.testBit i ^^ n.testBit (i + 1)) := by
  unfold gray
  rw [Nat.testBit_xor, Nat.testBit_shiftRight, Nat.add_comm 1 i]
theorem tele (p s : Nat) : (p ^^^ (p >>> s)) ^^^ ((p ^^^ (p >>> s)) >>> s) = p ^^^ (p >>> (2 * s)) := by
  apply Nat.eq_of_testBit_eq
  intro i
  simp only [Nat.testBit_xor, Nat.testBit_shiftRight]
  rw [show 2 * s + i = s + (s + i) by omega]
  cases p.testBit i <;> cases p.testBit (s + i) <;> cases p.testBit (s + (s + i)) <;> rfl
theorem xor_zero_eq {a b : Nat} (h : a ^^^ b = 0) : a = b := by
  apply Nat.eq_of_testBit_eq
  intro i
  have z : (a ^^^ b).testBit i = (0 : Nat).testBit i := by rw [h]
  rw [Nat.testBit_xor, Nat.zero_testBit] at z
  cases e1 : a.testBit i <;> cases e2 : b.testBit i <;> rw [e1, e2] at z <;> first | rfl | cases z
theorem half_zero {q : Nat} (h : q = q >>> 1) : q = 0 := by
  rw [Nat.shiftRight_eq_div_pow] at h
  omega
theorem gray_end {p s : Nat} (h : gray p < 2 ^ s) : p ^^^ (p >>> s) = p := by
  have e : (p >>> s) ^^^ ((p >>> s) >>> 1) = 0 := by
    have z : gray p >>> s = 0 := by
      rw [Nat.shiftRight_eq_div_pow]
      exact Nat.div_eq_of_lt h
    rw [← z]
    unfold gray
    apply Nat.eq_of_testBit_eq
    intro i
    simp only [Nat.testBit_xor, Nat.testBit_shiftRight]
    rw [show s + (1 + i) = 1 + (s + i) by omega]
  have e3 : p >>> s = 0 := half_zero (xor_zero_eq e)
  rw [e3, Nat.xor_zero]
theorem one_bit (x i : Nat) : decide (x / 2 ^ i % 2 = 1) = x.testBit i := (Nat.testBit_eq_decide_div_mod_eq).symm
theorem next_mod (x i : Nat) : x % 2 ^ (i + 1) = x % 2 ^ i + (if x.testBit i = true then 2 ^ i else 0) := by
  rw [Nat.pow_succ, Nat.mod_mul, ← one_bit]
  have h := Nat.mod_two_eq_zero_or_one (x / 2 ^ i)
  rcases h with h | h <;> simp [h]
/-- the lowest bit that is 0 -/
def Low (p low : Nat) : Prop := (∀ j, j < low → p.testBit j = true) ∧ p.testBit low = false
theorem low_mod {p low : Nat} (h : Low p low) : p % 2 ^ (low + 1) = 2 ^ low - 1 := by
  apply Nat.eq_of_testBit_eq
  intro i
  rw [Nat.testBit_mod_two_pow, Nat.testBit_two_pow_sub_one]
  by_cases h1 : i < low
  · rw [h.1 i h1, decide_eq_true h1, decide_eq_true (show i < low + 1 by omega)]
    rfl
  · by_cases h2 : i = low
    · subst h2
      rw [h.2]
      simp
    · rw [decide_eq_false (show ¬ i < low + 1 by omega), decide_eq_false h1]
      rfl
theorem two_pos (k : Nat) : 0 < 2 ^ k := Nat.two_pow_pos k
theorem low_p {p low : Nat} (h : Low p low) (i : Nat) : p.testBit i = if i < low + 1 then decide (i < low) else (p / 2 ^ (low + 1)).testBit (i - (low + 1)) := by
  have e := Nat.div_add_mod p (2 ^ (low + 1))
  rw [low_mod h] at e
  have l : 2 ^ low - 1 < 2 ^ (low + 1) := by
    have a := two_pos low
    rw [Nat.pow_succ]
    omega
  conv => lhs; rw [← e]
  rw [Nat.testBit_two_pow_mul_add _ l, Nat.testBit_two_pow_sub_one]
theorem low_s {p low : Nat} (h : Low p low) (i : Nat) : (p + 1).testBit i = if i < low + 1 then decide (low = i) else (p / 2 ^ (low + 1)).testBit (i - (low + 1)) := by
  have e := Nat.div_add_mod p (2 ^ (low + 1))
  rw [low_mod h] at e
  have a := two_pos low
  have l : 2 ^ low < 2 ^ (low + 1) := by
    rw [Nat.pow_succ]
    omega
  have e2 : p + 1 = 2 ^ (low + 1) * (p / 2 ^ (low + 1)) + 2 ^ low := by omega
  conv => lhs; rw [e2]
  rw [Nat.testBit_two_pow_mul_add _ l, Nat.testBit_two_pow]
theorem gray_next {p low : Nat} (h : Low p low) : gray (p + 1) = gray p ^^^ 2 ^ low := by
  apply Nat.eq_of_testBit_eq
  intro i
  rw [Nat.testBit_xor, gray_bit, gray_bit, low_p h, low_p h, low_s h, low_s h, Nat.testBit_two_pow]
  by_cases h1 : i < low
  · simp only [show i < low + 1 by omega, show i + 1 < low + 1 by omega, if_true]
    by_cases h2 : i + 1 < low
    · simp [h1, h2, show ¬ low = i by omega, show ¬ low = i + 1 by omega]
    · have h3 : low = i + 1 := by omega
      simp [h3]
  · by_cases h2 : i = low
    · subst h2
      simp
    · simp [show ¬ i < low + 1 by omega, show ¬ i + 1 < low + 1 by omega, show ¬ low = i by omega]
theorem xor_pow {x k : Nat} : x ^^^ 2 ^ k = if x.testBit k = true then x - 2 ^ k else x + 2 ^ k := by
  have split : x = 2 ^ (k + 1) * (x / 2 ^ (k + 1)) + ((if x.testBit k = true then 2 ^ k else 0) + x % 2 ^ k) := by
    have e := Nat.div_add_mod x (2 ^ (k + 1))
    rw [next_mod] at e
    omega
  have m := Nat.mod_lt x (two_pos k)
  have l1 : 2 ^ k + x % 2 ^ k < 2 ^ (k + 1) := by
    rw [Nat.pow_succ]
    omega
  have bits : ∀ (q r : Nat) (i : Nat), r < 2 ^ k → (2 ^ (k + 1) * q + (2 ^ k + r)).testBit i = ((2 ^ (k + 1) * q + r) ^^^ 2 ^ k).testBit i := by
    intro q r i hr
    have l2 : 2 ^ k + r < 2 ^ (k + 1) := by
      rw [Nat.pow_succ]
      omega
    have l3 : r < 2 ^ (k + 1) := by
      rw [Nat.pow_succ]
      omega
    rw [Nat.testBit_xor, Nat.testBit_two_pow_mul_add _ l2, Nat.testBit_two_pow_mul_add _ l3, Nat.testBit_two_pow]
    have er : 2 ^ k + r = 2 ^ k * 1 + r := by omega
    rw [er, Nat.testBit_two_pow_mul_add _ hr]
    by_cases h1 : i < k + 1
    · simp only [h1, if_true]
      by_cases h2 : i < k
      · simp [h2, show ¬ k = i by omega]
      · have h3 : i = k := by omega
        subst h3
        simp [Nat.testBit_lt_two_pow hr]
    · simp [h1, show ¬ k = i by omega]
  cases hb : x.testBit k with
  | true =>
    rw [hb] at split
    simp only [if_true] at split
    have e : 2 ^ (k + 1) * (x / 2 ^ (k + 1)) + x % 2 ^ k = x - 2 ^ k := by omega
    simp only [if_true]
    rw [← e]
    apply Nat.eq_of_testBit_eq
    intro i
    have b := bits (x / 2 ^ (k + 1)) (x % 2 ^ k) i m
    rw [← split] at b
    rw [Nat.testBit_xor, b, Nat.testBit_xor]
    cases (2 ^ (k + 1) * (x / 2 ^ (k + 1)) + x % 2 ^ k).testBit i <;> cases (2 ^ k).testBit i <;> rfl
  | false =>
    rw [hb] at split
    simp only [Bool.false_eq_true, if_false, Nat.zero_add] at split
    simp only [Bool.false_eq_true, if_false]
    have e : 2 ^ (k + 1) * (x / 2 ^ (k + 1)) + (2 ^ k + x % 2 ^ k) = x + 2 ^ k := by omega
    rw [← e]
    apply Nat.eq_of_testBit_eq
    intro i
    rw [bits (x / 2 ^ (k + 1)) (x % 2 ^ k) i m, ← split]
theorem gray_lt {n k : Nat} (h : n < 2 ^ k) : gray n < 2 ^ k := by
  unfold gray
  refine Nat.xor_lt_two_pow h ?_
  rw [Nat.shiftRight_eq_div_pow]
  exact Nat.lt_of_le_of_lt (Nat.div_le_self _ _) h
theorem gray_mod {n k : Nat} (h : n < 2 ^ k) : gray n % 2 ^ k = gray n := Nat.mod_eq_of_lt (gray_lt h)
end M07
set_option Elab.async false
set_option maxRecDepth 100000
set_option maxHeartbeats 2000000
/-! Errors that are caught and kept: an exception object behind its suite. -/
namespace OB
open PySem PySem.Spec PyProof.Rows L2

section kit
open PySem.W PySem.Calls
variable {prog : Program} {w : World} {A : Around} {E : Value → Shared → Prop} {s : Shared} {K : Frag} {x D : Addr} {ox : Obj} {od : Option Obj}
theorem cls_data (hc : (clsIn K D).isSome = true) {nm : Str} {a g : Value} (ha : findIn K (.ref D) nm = some (some a)) (hg : specialIn K a "__get__" = some (some g)) (ht : takesIn K a = some true) :
    findObj K D od nm = some (.bind g a) := by
  cases e : clsIn K D with
  | none => rw [e] at hc; cases hc
  | some cd =>
    unfold findObj
    simp [e, ha, hg, ht]
/-- the class of an exception with or without a dict of its own -/
theorem exc_class {Q : Option Value → Shared → Prop} (C : ExcC K D) (X : K.In s.heap) (I : InstAt s.heap x ox D od) (k : Q (some (.ref D)) { s with toks := s.toks + 1 }) :
    wpAny (model prog w) A (getAttr? (.ref x) "__class__") Q E s := by
  have found : findObj K D od "__class__" = some (.bind (.builtin "getset_descriptor.__get__") (.builtin "object.__class__")) :=
    cls_data (by obtain ⟨cd, e, _⟩ := any_some C.hd; simp [e]) C.ha C.hn C.ht
  obtain ⟨h0, g0, d0, t0, o0⟩ := s
  have ty0 := I.type (M := model prog w)
  have own := looks_findIn (M := model prog w) X C.hg
  have gat := looks_findIn (M := model prog w) X C.hk
  have fnd := looks_find (M := model prog w) X I found
  have isE : Looks (model prog w) h0 (isInstance (.ref x) (.type "BaseException")) true := ty0.andThen (looks_subIn X C.hs)
  have q2 : (Value.builtin "BaseException.__getattribute__" == Value.builtin "object.__getattribute__") = false := by decide +kernel
  have q1 : (onTheHeap (Value.ref D) && Value.builtin "BaseException.__getattribute__" == Value.builtin "object.__getattribute__") = false := by
    rw [q2, Bool.and_false]
  unfold getAttr? getAttrBy? getAttrBy
  refine wpAny_bind (wpAny_mkText (wpAny_bind (wpAny_attempt (wpAny_holding (wpAny_bind (ty0.at (wpAny_bind (own.at ?_))))))))
  dsimp only
  rw [q1]
  unfold getAttrByItsOwn hookBefore
  simp only [Bool.false_eq_true, if_false]
  refine wpAny_bind ?_
  rw [if_pos (show onTheHeap (Value.ref D) = true from rfl)]
  refine gat.at ?_
  refine wpAny_bind (wpAny_attempt (wpAny_holding ?_))
  unfold callGetattribute
  rw [if_neg (by decide)]
  unfold boundAndCalled
  rw [PySem.F.excAttr_ValueError.ga.bind (.ref x)]
  refine wpAny_bind (wpAny_pure ?_)
  refine wpAny_call (codeAny_call_builtin PySem.F.excAttr_ValueError.ga.plain PySem.F.entry_bexc_ga ?_)
  refine @check_slot (model prog w) _ _ ⟨h0, g0, d0, t0 + 1, o0⟩ "BaseException.__getattribute__" "BaseException" "__getattribute__" (.ref x) [.str "__class__" t0] [] _ (by decide +kernel) (by decide +kernel) isE
    (PySem.F.args_bexc_ga (.ref x) (.str "__class__" t0)) ?_
  unfold Builtin.«object.__getattribute__»
  refine wpAny_bind (wpAny_of_eq (a := ((Value.ref x : Value), [Value.str "__class__" t0])) (by first | rfl | (simp only [slotArgs]; rfl)) ?_)
  refine wpAny_bind (wpAny_pure (wpAny_bind (ty0.at (wpAny_bind (fnd.at ?_)))))
  dsimp only
  refine wpAny_bind (wpAny_holding (wpAny_call (class_get (s := ⟨h0, g0, d0, t0 + 1, o0⟩) (ox := ox) (od := od) X I C.hm ?_)))
  refine wpAny_pure ?_
  show wpAny _ _ (handedOut (.ref D)) _ _ _
  rw [handedOut_of (v := .ref D) rfl]
  first
    | exact wpAny_pure (wpAny_pure k)
    | exact wpAny_pure k
    | exact wpAny_pure (wpAny_bind (wpAny_pure (wpAny_pure k)))
theorem exc_kit (C : ExcC K D) : KitX K (.ref x) (.ref D) (fun h => InstAt h x ox D od) := by
  obtain ⟨cd, hcd, _⟩ := any_some C.hd
  unfold clsIn at hcd
  split at hcd
  · rename_i c1 d1 cd1 sl1 look
    refine ⟨fun _ _ _ I => I.type, fun M h X _ A' Q' E' s' keep q => ?_, fun h tp dd its n sl X htp => ?_, fun X I k => exc_class C X I k⟩
    · unfold isType loadHead
      exact wpAny_bind (wpAny_loadPart (keep _ _ (X _ _ look)) (wpAny_pure q))
    · cases e : (Value.ref D == Value.ref tp) with
      | false => rfl
      | true =>
        have e2 : D = tp := Value.ref.inj (beq_iff_eq.mp e)
        rw [← e2] at htp
        have z := (X _ _ look).symm.trans htp
        cases z
  · cases hcd
end kit

/-- an exception object that is kept: its class, its own dict -/
def ExA (cls : Value) (d : Option Addr) (a : Addr) : HO := .ext fun h => ∃ (oe : Obj) (vs : Array Value), h.get? a = some oe ∧ Zc cls d oe ∧ oe.data = .fields vs
theorem exA_ok {P : Program} {w : World} {H : Hp} {h : Heap} {a : Addr} {cls : Value} {d : Option Addr} {oe : Obj} {vs : Array Value} (e : h.get? a = some oe) (z : Zc cls d oe) (f : oe.data = .fields vs) : ObjOk P w H h a (ExA cls d a) :=
  ⟨⟨oe, vs, e, z, f⟩, ⟨oe, e⟩, fun _ _ ⟨o, v, q, r⟩ k => ⟨o, v, k o q, r⟩⟩
theorem exA_at {P : Program} {w : World} {H : Hp} {h : Heap} {a : Addr} {cls : Value} {d : Option Addr} (ok : HOk P w H h) (e : H a = some (ExA cls d a)) : ∃ (oe : Obj) (vs : Array Value), h.get? a = some oe ∧ Zc cls d oe ∧ oe.data = .fields vs := by
  have z : ObjOk P w H h a (ExA cls d a) := ok a _ e
  exact z.1

section
variable {X : Cx} {pins : List (Addr × Obj)} {σ : L2.St} {H : Hp} {s : Shared}
/-- an object that came behind the entry is tracked from now on -/
theorem track {a : Addr} {o : HO} (I : Inv X pins σ H s) (hn : H a = none) (h0 : X.s_0.heap.get? a = none) (nL : a ≠ X.env.locals) (nC : ∀ x c, X.env.cells.lookup x = some c → c ≠ a)
    (nP : ∀ p ∈ X.pn ++ pins, p.1 ≠ a) (new : ObjOk X.prog X.w (upd H a o) s.heap a o) : Inv X pins σ (upd H a o) s := by
  have ne : ∀ {b u}, X.s_0.heap.get? b = some u → b ≠ a := fun {b u} e z => by
    rw [z, h0] at e
    cases e
  refine ⟨I.ok, I.os, I.bare, ⟨I.base.keep, I.base.slot, fun b u e n hx => ?_, I.base.there, fun b xs e => ?_, fun b u v e => ?_, fun b ps e => ?_⟩, I.loc, I.cell, ?_, fun x c e => ?_, fun p hp => ?_, ?_, I.len⟩
  · rw [upd_ne (ne e)]
    exact I.base.free b u e n hx
  · have q := I.base.tups b xs e
    rw [upd_ne (ne_of_none q hn)]
    exact q
  · have q := I.base.frzs b u v e
    rw [upd_ne (ne_of_none q hn)]
    exact q
  · obtain ⟨m, q⟩ := I.base.tbls b ps e
    exact ⟨m, by rw [upd_ne (ne_of_none q hn)]; exact q⟩
  · rw [upd_ne (Ne.symm nL)]
    exact I.free
  · rw [upd_ne (nC x c e)]
    exact I.freeC x c e
  · obtain ⟨e, n, r1, r2, r3⟩ := I.pin p hp
    exact ⟨e, by rw [upd_ne (nP p hp)]; exact n, r1, r2, r3⟩
  · exact I.hok.laidN (fun _ _ e => e) hn new
end

/-- what 'except x as n: kept = n' wishes: behind it slot j holds the exception, which is tracked -/
def wKeep (K : PySem.W.Frag) (c : Value) (i j : Nat) (Wout : WX) (D : Ends) : WX := fun cls d σ H =>
  ∃ b, PySem.W.exmOne K cls c = some b ∧
    (b = true → ∀ a, H a = none → D.nx (((σ.set i (some (.ref a))).set j (some (.ref a))).set i none) (upd H a (ExA cls d a))) ∧ (b = false → Wout cls d σ H)

section
variable {X : Cx} {x n m : Str} {c : Value} {i j : Nat} {body : List Stmt} {np pos pos' p1 p2 p3 : Pos} {tb : WX → TS} {Wout : WX}
theorem ps_try_keep (hs : X.stack = X.env :: X.outer) (hf : X.env.frame = some X.env.locals) (hx : X.ex = []) (hN : X.N.Nodup) (hi : X.N[i]? = some n) (hln : X.env.kindOf n = some .local)
    (hj : X.N[j]? = some m) (hlm : X.env.scope.names.lookup m = some .local) (hc : Names X x c) (tk : Takes X Wout)
    (hb : ∀ (W : WX) (pn : List (Addr × Obj)) (xe : Value → Shared → Prop), Takes (X.tr pn xe) W → PassesOwn (model X.prog X.w) X.A X.env xe → PSs (X.tr pn xe) body (tb W))
    (hdn : (n == ("__debug__" : Str)) = false := by decide) (hcn : (n == ("__classdict__" : Str)) = false := by decide)
    (hsw : ∀ env : Env, swapsWith (.Name n p2) (some (.Name m p1)) p3.line env = pure false := by intro _; rfl) :
    PS X (.Try body [.ExceptHandler (some (.Name x np)) (some n) [.Assign [.Name m p1] (.Name n p2) p3] pos'] [] [] pos) (fun D σ H => tb (wKeep X.K c i j Wout D) D σ H) := by
  refine ⟨fun pins s σ H D I h => ?_⟩
  have okX := I.ok
  have frames : X.A.frames = some (X.env :: X.outer) := by rw [okX.frames, hs]
  have lj : Loc X.env.scope m := .inl hlm
  refine wpAny_Try_except ?_
  have run := (hb (wKeep X.K c i j Wout D) (X.pn ++ pins) (fun e s₁ => wpAny (model X.prog X.w) X.A (noteFrame e X.env)
    (fun _ s₂ => wpAny (model X.prog X.w) X.A (setFlight e none)
      (fun _ s₃ => wpAny (model X.prog X.w) X.A (handleBy e X.env [.ExceptHandler (some (.Name x np)) (some n) [.Assign [.Name m p1] (.Name n p2) p3] pos']) (SP X pins D) X.xe s₃) X.xe s₂) X.xe s₁)
    (fun u s' air => ?_) PassesOwn.looking).run [] s σ H D (I.toTry _) h
  · refine wpAny_mono run (fun f s1 end1 => ?_) (fun _ _ z => z)
    cases f with
    | next =>
      obtain ⟨σ1, H1, J1, q⟩ := end1
      exact wpAny_execs_nil ⟨σ1, H1, J1.ofTry okX, q⟩
    | ret u =>
      obtain ⟨v, σ1, H1, J1, r, q⟩ := end1
      exact ⟨v, σ1, H1, J1.ofTry okX, r, q⟩
    | brk =>
      obtain ⟨σ1, H1, J1, q⟩ := end1
      exact ⟨σ1, H1, J1.ofTry okX, q⟩
    | cont =>
      obtain ⟨σ1, H1, J1, q⟩ := end1
      exact ⟨σ1, H1, J1.ofTry okX, q⟩
  · obtain ⟨a, B, sI, pins1, σ1, H1, cls, d, rfl, J0, ground, up0, sky, na, os1, bare1, b, hb1, yes, no⟩ := air
    have J : Inv X pins σ1 H1 sI := J0.ofTry okX
    have skyX : Sky B (X.env :: X.outer) a (Zc cls d) X.env.locals s'.heap := by
      rw [← hs]
      exact sky
    have Ba : B.get? a = none := by
      rcases skyX with ⟨_, z, _⟩ | ⟨_, z, _⟩ | ⟨_, z, _⟩ <;> exact z
    show wpAny (model X.prog X.w) X.A (noteFrame (.ref a) X.env) _ _ _
    refine Sky.land Zc.steady frames hf skyX fun h3 fl3 up3 => ?_
    have J3 : Inv X pins σ1 H1 { s' with heap := h3 } := J.landed ground fl3.1 (up0.trans up3) os1 bare1
    obtain ⟨oe3, vs3, he3, hz3, hd3⟩ := fl3.there
    have off : a ∉ frs (X.env :: X.outer) := fun hm => by
      obtain ⟨_, o', e', hnf⟩ := fl3.2.2.1.mem hm
      rw [he3] at e'
      cases e'
      exact hnf _ hd3
    have sIa : sI.heap.get? a = none := by
      cases e : sI.heap.get? a with
      | none => rfl
      | some o =>
        have z := ground a o e (by rw [hs]; exact off)
        rw [Ba] at z
        cases z
    have s0a : X.s_0.heap.get? a = none := by
      cases e : X.s_0.heap.get? a with
      | none => rfl
      | some o =>
        obtain ⟨o', z⟩ := J.base.there a o e (by rw [hx]; exact fun z => nomatch z)
        rw [sIa] at z
        cases z
    have nL : a ≠ X.env.locals := fun z => off (List.mem_filterMap.mpr ⟨X.env, List.mem_cons_self, by rw [hf, z]⟩)
    have nF : a ∉ X.fs := fun hm => by
      obtain ⟨e, he, q⟩ := List.mem_filterMap.mp hm
      exact off (List.mem_filterMap.mpr ⟨e, List.mem_cons_of_mem _ he, q⟩)
    have nC : ∀ y k, X.env.cells.lookup y = some k → k ≠ a := fun y k e z => by
      obtain ⟨v, o, ho, _⟩ := J.cell y k e
      rw [z, sIa] at ho
      cases ho
    have nP : ∀ p ∈ X.pn ++ pins, p.1 ≠ a := fun p hp z => by
      have q := (J.pin p hp).1
      rw [z, sIa] at q
      cases q
    have S3 := J3.suite he3 hd3 na nL nF
    refine wpAny_handleBy_cons (codeAny_handlers_test ?_) (by intro q; cases q)
    have LT : PySem.W.Looks (model X.prog X.w) h3 (typeOf (.ref a)) cls := fun A Q E s k q => wpAny_typeOf_ref (k _ _ he3) (by rw [hz3.1]; exact q)
    have LM := PySem.W.exm_one (M := model X.prog X.w) (J3.kIn) LT hb1
    have named : ∀ {Q : Value → Shared → Prop} {E : Value → Shared → Prop}, Q c { s' with heap := h3 } →
        wpAny (model X.prog X.w) (X.A.mark (some (.ref a))) (eval (.Name x np) X.env) Q E { s' with heap := h3 } := fun {Q E} q => by
      obtain ⟨hg, hdbg, hm | ⟨hm, hv, hnn⟩⟩ := hc
      · exact ld_glob (X := X.suite a ((a, oe3) :: (X.pn ++ pins))) S3 hg hm q hdbg
      · exact ld_blt (X := X.suite a ((a, oe3) :: (X.pn ++ pins))) S3 hg hm hv q hnn hdbg
    refine named (LM.here ?_)
    cases b with
    | true =>
      refine codeAny_handlers_suite_as ?_
      refine HandSPX.lands_againZ fl3 fun h4 fl4 up4 => ?_
      have J4 : Inv X pins σ1 H1 { s' with heap := h4 } := J.landed ground fl4.1 ((up0.trans up3).trans up4) os1 bare1
      obtain ⟨oe4, vs4, he4, hz4, hd4⟩ := fl4.there
      have S4 := J4.suite he4 hd4 na nL nF
      refine store_ok (X := X.suite a ((a, oe4) :: (X.pn ++ pins))) (v := .ref a) S4 hN hi (.inl hln) rfl (fun s5 S5 => ?_) (.inr hln)
      have hiσ : i < σ1.length := by
        rw [J.len]
        exact (List.getElem?_eq_some_iff.mp hi).1
      have kept := pss_one (ps_set (X := X.suite a ((a, oe4) :: (X.pn ++ pins))) (pos := p3) (pos' := p1) hN hj lj (pe_var (X := X.suite a ((a, oe4) :: (X.pn ++ pins))) (pos := p2) hi (.inl hln) hdn hcn) (hsw _) (.inr hlm))
      refine wpAny_mono (kept.run [] s5 _ H1 { nx := fun σ' H' => H' = H1 ∧ σ' = (σ1.set i (some (.ref a))).set j (some (.ref a)), rt := fun _ _ => False, bk := fun _ _ => False, ct := fun _ _ => False } S5
        ⟨.ref a, by rw [List.getElem?_set_self hiσ], rfl, rfl⟩) (fun f s6 end6 => ?_) (fun _ _ z => False.elim z)
      cases f with
      | next =>
        obtain ⟨σ6, H6, S6, e6, e7⟩ := end6
        subst e6 e7
        have at6 := (S6.pin (a, oe4) (List.mem_append_left _ List.mem_cons_self)).1
        have J6 : Inv X pins _ H6 s6 := S6.unsuite okX
        have J7 := track (o := ExA cls d a) J6 na s0a nL nC nP (exA_ok at6 hz4 hd4)
        exact gone_ok J7 hN hi hln fun s8 J8 => ⟨_, _, J8, yes rfl a na⟩
      | ret u =>
        obtain ⟨_, _, _, _, _, z⟩ := end6
        exact z.elim
      | brk =>
        obtain ⟨_, _, _, z⟩ := end6
        exact z.elim
      | cont =>
        obtain ⟨_, _, _, z⟩ := end6
        exact z.elim
    | false =>
      show wpAny _ X.A (handleBy (.ref a) X.env []) _ _ _
      refine wpAny_handleBy_nil ?_
      obtain ⟨k1, k2, k3, oe, vs, T, oT, ts', he, hz, hd, h1, hr⟩ := id fl3
      unfold PySem.passOn
      refine wpAny_bind (wpAny_field he hd h1 ?_)
      rw [if_neg (by simp)]
      have out : wpAny (model X.prog X.w) X.A (setFlight (.ref a) X.env.frame) (fun _ s4 => wpAny (model X.prog X.w) X.A (throw (.ref a) : Sem Flow) (SP X pins D) X.xe s4) X.xe { s' with heap := h3 } := by
        rw [hf]
        refine HandSPX.setFlight_upZ fl3 fun h4 hh4 up4 => wpAny_throw (tk _ _ ?_)
        exact ⟨a, B, sI, pins, σ1, H1, cls, d, rfl, J, ground, (up0.trans up3).trans up4, .inr (.inr (by rw [hs]; exact hh4)), na, os1, bare1, no rfl⟩
      first
        | exact wpAny_bind (wpAny_pure (wpAny_bind out))
        | exact wpAny_bind out
end

/-- isinstance(e, c), e an exception that is kept -/
def rIsX (K : PySem.W.Frag) : List V → Hp → VK → Prop := fun xs H Q => ∃ (a D : Addr) (d : Option Addr) (c : V) (u : Value) (b : Bool), xs = [.ref a, c] ∧ ExcC K D ∧ H a = some (ExA (.ref D) d a) ∧ (∀ dd, d = some dd → ∃ fs, H dd = some (.xd fs)) ∧ ClsV c u ∧ PySem.W.kitOne K (.ref D) u = some b ∧ Q (.bl b) H
theorem inst_at {X : Cx} {pins : List (Addr × Obj)} {σ : L2.St} {H : Hp} {s : Shared} {a D : Addr} {d : Option Addr} (I : Inv X pins σ H s) (ha : H a = some (ExA (.ref D) d a)) (hd : ∀ dd, d = some dd → ∃ fs, H dd = some (.xd fs)) :
    ∃ oe od, PySem.W.InstAt s.heap a oe D od := by
  obtain ⟨oe, vs, e, ⟨z1, z2⟩, f⟩ := exA_at I.hok ha
  obtain ⟨oc, odd, oda, osl⟩ := oe
  dsimp only at z1 z2 f
  subst z1 z2 f
  cases odd with
  | none => exact ⟨_, none, e, rfl, rfl, trivial⟩
  | some dd =>
    obtain ⟨fs, hfs⟩ := hd dd rfl
    obtain ⟨mA, hns, _⟩ := (show ObjOk X.prog X.w H s.heap dd (.xd fs) from I.hok dd _ hfs)
    obtain ⟨od, ho, _⟩ := lookIn_ns hns
    exact ⟨_, some od, e, rfl, rfl, ho⟩
theorem call_isX {X : Cx} : CallR X (.builtin "isinstance") (rIsX X.K) := by
  intro pins s σ H xs us Q I r h
  obtain ⟨a, D, d, c, u, b, rfl, C, ha, hd, hc, e, q⟩ := h
  obtain ⟨u1, u2, rfl, r1, r2⟩ := vals2 r
  have e2 := hc.eq r2
  subst e2
  obtain rfl : u1 = Value.ref a := r1
  obtain ⟨oe, od, J⟩ := inst_at I ha hd
  exact PySem.W.kia_one (exc_kit C) I.kIn J e (fun z => nomatch z) fun tk => ⟨.bl b, H, I.tok tk, rfl, q⟩
theorem call_or {X : Cx} {f : Value} {r1 r2 : List V → Hp → VK → Prop} (h1 : CallR X f r1) (h2 : CallR X f r2) : CallR X f (fun xs H Q => r1 xs H Q ∨ r2 xs H Q) := by
  intro pins s σ H xs us Q I r h
  rcases h with h | h
  · exact h1 pins s σ H xs us Q I r h
  · exact h2 pins s σ H xs us Q I r h
/-- e.f of an exception that is kept -/
def tXa (K : PySem.W.Frag) (f : Str) (te : TE) : TE := fun σ H Q => te σ H fun x H1 => ∃ (a D dd : Addr) (fs : List (Str × V)) (v : V), x = .ref a ∧ XfC K D ∧ PySem.W.findIn K (.ref D) f = some none ∧ H1 a = some (ExA (.ref D) (some dd) a) ∧ H1 dd = some (.xd fs) ∧ fs.lookup f = some v ∧ Q v H1
theorem pe_xa {X : Cx} {e : Expr} {te : TE} {pos : Pos} {n : Str} (he : PE X e te) (hb : attributeBase e n X.env (eval e X.env) = eval e X.env := by rfl) : PE X (.Attribute e n pos) (tXa X.K n te) := by
  refine ⟨fun pins s σ H Q I h => ?_⟩
  refine attr_of hb (thn (he.run pins s σ H _ I h) fun u s1 got => ?_)
  obtain ⟨y, H1, I1, ry, a, D, dd, fs, v, rfl, T, hno, ha, hdd, hl, q⟩ := got
  obtain rfl : u = Value.ref a := ry
  obtain ⟨oe, vs, eo, ⟨z1, z2⟩, hd⟩ := exA_at I1.hok ha
  obtain ⟨mA, hns, hr⟩ := (show ObjOk X.prog X.w H1 s1.heap dd (.xd fs) from I1.hok dd _ hdd)
  obtain ⟨od, ho, lk⟩ := lookIn_ns hns
  obtain ⟨u, hu, ru⟩ := RelO.some_of (v := v) (o := mA n) (by rw [← hl]; exact hr n)
  have J : PySem.W.InstAt s1.heap a oe D (some od) := ⟨eo, z1, by unfold PySem.W.notCls; rw [hd] <;> rfl, by rw [z2]; exact ho⟩
  exact HandSPX.exc_get I1.kIn J T.ga T.gg T.exC (PySem.W.findObj_own T.hdC hno rfl (by rw [lk, hu])) (handed_of ru) ⟨v, H1, I1.tok _, ru, q⟩
end OB
/-! Lambdas handed to a def: with no parameter, or with one that has a written int as its default. -/
namespace OB
open PySem PySem.Spec PyProof.Rows L2 LamX

section kit
open PySem.W PySem.Calls
abbrev lFn (qual : Str) (params : Arguments) (body : Expr) (scope : Scope) (cl : List (Str × Addr)) (dV pm cdv ct : Value) : FuncData :=
  { name := "<lambda>", qualname := qual, params := params, body := .expr body, scope := scope, globals := mainGlobals, closure := cl, defaults := dV, kwdefaults := .none, doc := .none, pyModule := pm, annotations := none, code := cdv, closureTuple := ct, builtins := builtinsNs }
abbrev lObj (qual : Str) (params : Arguments) (body : Expr) (scope : Scope) (cl : List (Str × Addr)) (dV pm cdv ct : Value) : Obj :=
  { cls := .type "function", data := .func (lFn qual params body scope cl dV pm cdv ct) }
variable {M : Model} {A : Around} {E : Value → Shared → Prop} {s : Shared} {qual : Str} {params : Arguments} {body : Expr} {scope : Scope} {env : Env} {c P : Addr} {ps : Array Value} {pos : Pos} {firstLine : Nat} {mg : Str → Option Value}
  {clos : List (Str × Addr)} {Q : Value → Shared → Prop} {dV : Value}
/-- a lambda's object is made: the code object comes by hcode1 -/
theorem tail_by (hcl : closureFor scope env = pure clos) (hge0 : env.globals = mainGlobals) (hg : s.heap.Ns mainGlobals mg) (hgP : mainGlobals ≠ P) (hb : s.heap.BuiltinsAt mg P)
    {G : Value → Heap → Heap → Prop}
    (hG : ∀ cv h1 h2, G cv h1 h2 → Heap.ExtBut P h1 h2 ∧ h1.objs.size ≤ h2.objs.size)
    (code : ∀ (h1 : Heap) (tk1 : Tok) (Q1 : Value → Shared → Prop), (∀ b o, s.heap.get? b = some o → h1.get? b = some o) → s.heap.objs.size ≤ h1.objs.size →
      (∀ cv h2 tk, G cv h1 h2 → Q1 cv { s with heap := h2, toks := tk }) → wpAny M A (functionCode env pos firstLine "<lambda>" qual params scope (.expr body)) Q1 E { s with heap := h1, toks := tk1 })
    (h : ∀ cv ctv h1 h2 tk, (∀ b o, s.heap.get? b = some o → h1.get? b = some o) → s.heap.objs.size ≤ h1.objs.size → G cv h1 h2 →
      Q (.ref h2.objs.size) { s with heap := h2.push (lObj qual params body scope clos dV ((mg "__name__").getD .none) cv ctv), toks := tk }) :
    wpAny M A (makeTail "<lambda>" qual params (.expr body) scope env dV .none none pos firstLine) Q E s := by
  obtain ⟨bm, ob, hbm, hne0, _, hneP, hbo, hcls, hdict, hdata⟩ := hb
  have go : ∀ (ctv : Value) (h1 : Heap) (tk1 : Tok), (∀ b o, s.heap.get? b = some o → h1.get? b = some o) → s.heap.objs.size ≤ h1.objs.size →
      wpAny M A (functionCode env pos firstLine "<lambda>" qual params scope (.expr body) >>= fun cv => builtinsFor mainGlobals env.builtins >>= fun bi => nsGet mainGlobals "__name__" >>= fun nm => pure Value.none >>= fun doc =>
        newObj (.type "function") (.func { name := "<lambda>", qualname := qual, params := params, body := .expr body, scope := scope, globals := mainGlobals, closure := clos, closureTuple := ctv, code := cv, builtins := bi, defaults := dV, kwdefaults := .none, annotations := none, pyModule := nm.getD .none, doc := doc })) Q E { s with heap := h1, toks := tk1 } := by
    intro ctv h1 tk1 k1 z1
    refine wpAny_bind (code h1 tk1 _ k1 z1 fun cv h2 tk g => ?_)
    obtain ⟨x2, z2⟩ := hG cv h1 h2 g
    have hg2 := (hg.keeps k1).extBut x2 hgP
    refine wpAny_bind (wpAny_builtinsFor hg2 hbm hne0 (x2 _ _ hneP (k1 _ _ hbo)) hcls hdict hdata ?_)
    refine wpAny_bind (wpAny_nsGet hg2 ?_)
    exact wpAny_bind (wpAny_pure (wpAny_newObj_type (h cv ctv h1 h2 tk k1 z1 g) (by size_fits)))
  unfold makeTail
  rw [hcl, hge0]
  refine wpAny_bind (wpAny_pure ?_)
  cases clos with
  | nil => exact wpAny_bind (wpAny_pure (go .none s.heap s.toks (fun _ _ e => e) (Nat.le_refl _)))
  | cons q r =>
    refine wpAny_bind (wpAny_newTextTuple ?_)
    exact go _ _ s.toks (fun b o e => Heap.get?_push_of_some _ e) (by rw [Heap.size_push]; omega)
end kit

section
variable {X : Cx} {pins : List (Addr × Obj)} {σ : L2.St} {H : Hp} {s : Shared}
/-- what stands of a lambda's defaults: none, or a tuple of ints that nobody tracks -/
def DflAt (h : Heap) (H : Hp) (fs : List Addr) (dV : Value) : List Value → Prop
  | [] => dV = .none
  | ds => ∃ (T : Addr) (o : Obj) (n : Nat), dV = .ref T ∧ h.get? T = some o ∧ o.data = .seq ds.toArray n ∧ H T = none ∧ T ∉ fs
/-- a lambda is made from makeTail on -/
theorem lam_tail {T : List (Addr × Str)} {c P : Addr} {params : Arguments} {body : Expr} {scope : Scope} {pos : Pos} {dV : Value} {ds : List Value} {E : Value → Shared → Prop} {Q : Value → Shared → Prop} (I : Inv X pins σ H s) (TB : TabB X.base X.mg c P) (hcode : X.env.code = .ref c)
    (hm : (P, X.env.qual ++ "<lambda>") ∈ T) (hu : ∀ p ∈ T, p.1 = P → p.2 = X.env.qual ++ "<lambda>") (hT : Tabs T H) (hfree : ∀ y ∈ scope.names, y.2 = .free → ∃ c, X.env.cells.lookup y.1 = some c)
    (hd : DflAt s.heap H (X.env.locals :: X.fs) dV ds)
    (h : ∀ (f c' : Addr) (pm ctv : Value) (H1 : Hp) (s' : Shared), Inv X pins σ H1 s' → ExtN H H1 → Tabs T H1 → DflAt s'.heap H1 (X.env.locals :: X.fs) dV ds →
      s'.heap.get? f = some (lObj (X.env.qual ++ "<lambda>") params body scope (cloFrom X.env.cells scope.names []) dV pm (.ref c') ctv) → H1 f = none → f ≠ X.env.locals → f ∉ X.fs → H1 c' = some (CodeO c' (X.env.qual ++ "<lambda>")) → Q (.ref f) s') :
    wpAny (model X.prog X.w) X.A (makeTail "<lambda>" (X.env.qual ++ "<lambda>") params (.expr body) scope X.env dV .none none pos pos.line) Q E s := by
  obtain ⟨ps, hP, ht, ha⟩ := hT _ hm
  have bP : s.heap.BuiltinsAt X.mg P := TB.bm.keeps I.bk
  have hP' : s.heap.get? P = some { cls := .none, data := .fields ps } := I.hok P _ hP
  have nLoc : ∀ f, s.heap.objs.size ≤ f → f ≠ X.env.locals := fun f hf z => by
    have h1 := I.lt
    rw [← z] at h1
    exact Nat.lt_irrefl _ (Nat.lt_of_lt_of_le h1 hf)
  have CH := TB.code.keeps I.bk
  have later : ∀ {h1 : Heap} {H1 : Hp}, (∀ b o, s.heap.get? b = some o → H b = none → b ≠ P → h1.get? b = some o) → (∀ b o, s.heap.get? b = some o → H b = none → H1 b = none) → DflAt h1 H1 (X.env.locals :: X.fs) dV ds := fun {h1 H1} k1 k2 => by
    cases ds with
    | nil => exact hd
    | cons d r =>
      obtain ⟨Td, o, n, e1, e2, e3, e4, e5⟩ := hd
      refine ⟨Td, o, n, e1, k1 _ _ e2 e4 (fun z => ?_), e3, k2 _ _ e2 e4, e5⟩
      rw [z, hP] at e4
      cases e4
  cases hc : codeAmong pos ps.toList with
  | none =>
    refine tail_by (mg := X.mg) (P := P) (closure_ok hfree) I.ok.glob (I.mod.glob.keeps I.bk) TB.gP bP
      (G := fun cv h1 h2 => ∃ c', cv = .ref c' ∧ Heap.ExtBut P h1 h2 ∧ h1.objs.size ≤ c' ∧ c' < h2.objs.size ∧ h2.CodeRec (.ref c') (X.env.qual ++ "<lambda>") ∧ h2.get? P = some (PySem.W.tabObj (ps ++ #[rawInt pos.line, rawInt pos.col, .ref c'])))
      (fun cv h1 h2 ⟨c', _, x, l1, l2, _⟩ => ⟨x, Nat.le_trans l1 (Nat.le_of_lt l2)⟩) (fun h1 tk1 Q1 k1 z1 q1 => ?_) (fun cv ctv h1 h2 tk k1 z1 g => ?_)
    · exact wpAny_functionCodeX hcode ((CH.keeps k1).code (k1 _ _ hP') ht) ((CH.keeps k1).tab (k1 _ _ hP')) hc fun c' h2 tk hx hge hlt _ hrec htb _ => q1 (.ref c') h2 tk ⟨c', rfl, hx, hge, hlt, hrec, htb.2⟩
    · obtain ⟨c', rfl, hx, hge, hlt, hrec, htb⟩ := g
      obtain ⟨c2, oc, vs, t, e2, hoc, hdc, hv⟩ := hrec
      cases e2
      have hge' : s.heap.objs.size ≤ c' := Nat.le_trans z1 hge
      have hsz : s.heap.objs.size ≤ h2.objs.size := Nat.le_trans hge' (Nat.le_of_lt hlt)
      have nC : H c' = none := I.hok.fresh hge'
      have I1 := inv_table (t' := tk) (more := #[rawInt pos.line, rawInt pos.col, .ref c']) (h' := h2.push (lObj (X.env.qual ++ "<lambda>") params body scope (cloFrom X.env.cells scope.names []) dV ((X.mg "__name__").getD .none) (.ref c') ctv)) I hP
        (fun b o hb e => Heap.get?_push_of_some _ (hx b o hb (k1 _ _ e))) (Heap.get?_push_of_some _ htb) hge' ⟨oc, vs, t, Heap.get?_push_of_some _ hoc, hdc, hv⟩
      have hE : ExtN H (upd (upd H P (.tbl (ps ++ #[rawInt pos.line, rawInt pos.col, .ref c']))) c' (CodeO c' (X.env.qual ++ "<lambda>"))) := fun b o e n => by
        rw [upd_ne (ne_of_none e nC), upd_ne (fun z => n ps (Option.some.inj (e.symm.trans (by rw [z]; exact hP))))]
        exact e
      have eL : (ps ++ #[rawInt pos.line, rawInt pos.col, .ref c']).toList = ps.toList ++ [rawInt pos.line, rawInt pos.col, .ref c'] := by simp
      refine h h2.objs.size c' _ ctv _ _ I1 hE (fun p hp => ?_) (later (fun b o e n hb => Heap.get?_push_of_some _ (hx b o hb (k1 _ _ e))) fun b o e n => ?_) (Heap.get?_push_size _ rfl) ?_ (nLoc _ hsz) (I.nofs hsz) upd_same
      · by_cases hb : p.1 = P
        · rw [hu p hp hb, hb]
          refine ⟨_, by rw [upd_ne (ne_of_none hP nC), upd_same], by rw [eL]; exact PySem.TriplesOk_snoc _ _ _ _ ht, fun p' cv hcv => ?_⟩
          rw [eL] at hcv
          rcases among_app _ ht hcv with z | z
          · obtain ⟨c0, e1, e2⟩ := ha p' cv z
            exact ⟨c0, e1, hE _ _ e2 codeO_ne⟩
          · exact ⟨c', z, upd_same⟩
        · obtain ⟨ps', a1, a2, a3⟩ := hT p hp
          refine ⟨ps', by rw [upd_ne (ne_of_none a1 nC), upd_ne hb]; exact a1, a2, fun p' cv hcv => ?_⟩
          obtain ⟨c0, e1, e2⟩ := a3 p' cv hcv
          exact ⟨c0, e1, hE _ _ e2 codeO_ne⟩
      · rw [upd_ne (Nat.ne_of_lt (Nat.lt_of_lt_of_le (Heap.lt_size e) hge')), upd_ne (fun z => by rw [z, hP] at n; cases n)]
        exact n
      · rw [upd_ne (Nat.ne_of_gt hlt), upd_ne (Nat.ne_of_gt (Nat.lt_of_lt_of_le (Heap.lt_size hP') hsz))]
        exact I.hok.fresh hsz
  | some cv0 =>
    obtain ⟨c', e, hco⟩ := ha pos cv0 hc
    subst e
    refine tail_by (mg := X.mg) (P := P) (closure_ok hfree) I.ok.glob (I.mod.glob.keeps I.bk) TB.gP bP
      (G := fun cv h1 h2 => cv = .ref c' ∧ h2 = h1) (fun cv h1 h2 ⟨_, e⟩ => by rw [e]; exact ⟨fun _ _ _ e => e, Nat.le_refl _⟩) (fun h1 tk1 Q1 k1 z1 q1 => ?_) (fun cv ctv h1 h2 tk k1 z1 g => ?_)
    · exact wpAny_functionCode_hit hcode ((CH.keeps k1).code (k1 _ _ hP') ht) hc (q1 (.ref c') h1 tk1 ⟨rfl, rfl⟩)
    · obtain ⟨rfl, rfl⟩ := g
      have kk : ∀ b o, s.heap.get? b = some o → (h2.push (lObj (X.env.qual ++ "<lambda>") params body scope (cloFrom X.env.cells scope.names []) dV ((X.mg "__name__").getD .none) (.ref c') ctv)).get? b = some o := fun b o e => Heap.get?_push_of_some _ (k1 _ _ e)
      exact h h2.objs.size c' _ ctv H _ (I.kept (t' := tk) kk) (ExtN.refl H) hT (later (fun b o e _ _ => kk b o e) fun _ _ _ n => n) (Heap.get?_push_size _ rfl) (I.hok.fresh z1) (nLoc _ z1) (I.nofs z1) hco
end
end OB
namespace OB
open PySem PySem.Spec PyProof.Rows L2 LamX

/-- a lambda's names: captured ones, globals, and its parameters nm, which are no names of the def around -/
structure LamN (sc scope : Scope) (N nm : List Str) : Prop where
  kind : scope.kind = .function
  co : scope.isCoroutine = false
  gen : scope.isGenerator = false
  own : ∀ y ∈ scope.names, y.2 ≠ .cell ∧ (y.2 = .local → y.1 ∉ N)
  par : ∀ x ∈ nm, scope.names.lookup x = some .local
  free : ∀ y ∈ scope.names, y.2 = .free → sc.names.lookup y.1 = some .cell ∨ sc.names.lookup y.1 = some .free
def lamNB (sc scope : Scope) (N nm : List Str) : Bool :=
  decide (scope.kind = .function) && !scope.isCoroutine && !scope.isGenerator &&
    (scope.names.all fun y => !decide (y.2 = .cell) && (!decide (y.2 = .local) || decide (y.1 ∉ N)) && (!decide (y.2 = .free) || decide (sc.names.lookup y.1 = some .cell) || decide (sc.names.lookup y.1 = some .free))) &&
    nm.all fun x => decide (scope.names.lookup x = some .local)
theorem lamN_by {sc scope : Scope} {N nm : List Str} (h : lamNB sc scope N nm = true) : LamN sc scope N nm := by
  unfold lamNB at h
  simp only [Bool.and_eq_true, Bool.or_eq_true, Bool.not_eq_true', decide_eq_true_eq, decide_eq_false_iff_not, List.all_eq_true] at h
  obtain ⟨⟨⟨⟨h1, h2⟩, h3⟩, h4⟩, h5⟩ := h
  refine ⟨h1, h2, h3, fun y hy => ⟨(h4 y hy).1.1, fun e => ?_⟩, fun x hx => h5 x hx, fun y hy e => ?_⟩
  · rcases (h4 y hy).1.2 with z | z
    · exact absurd e z
    · exact z
  · rcases (h4 y hy).2 with (z | z) | z
    · exact absurd e z
    · exact .inl z
    · exact .inr z
theorem LamN.has {X : Cx} {scope : Scope} {N nm : List Str} (L : LamN X.env.scope scope N nm) (ok : X.Ok) : ∀ y ∈ scope.names, y.2 = .free → ∃ c, X.env.cells.lookup y.1 = some c := fun y hy e => by
  rcases L.free y hy e with k | k
  · exact ok.has _ (.inl k)
  · exact ok.has _ (.inr k)
section
variable {X : Cx} {pins : List (Addr × Obj)} {σ : L2.St} {H HZ : Hp} {s s1 : Shared}
theorem lam_start {A : Around} {outer : List Env} {E : XK} {scope : Scope} {f c' : Addr} {h₁ : Heap} {tk : Nat} {nm : List Str} {m1 : Str → Option Value} (I : Inv X pins σ H s) (L : LamN X.env.scope scope X.N nm) (e0 : Env0 X.prog X.w X.K X.mg X.base A outer s1 HZ) (hd : A.handled = none)
    (un : Un (frs X.stack) [] H HZ s.heap s1.heap) (hns : h₁.Ns s1.heap.objs.size m1) (kp : ∀ b o, s1.heap.get? b = some o → h₁.get? b = some o) :
    Inv (lamCx X A outer s1 HZ E scope f c') [] σ HZ { s1 with heap := h₁, toks := tk } := by
  have hfree := L.has I.ok
  have up : ∀ {y c}, (cloFrom X.env.cells scope.names []).lookup y = some c → X.env.cells.lookup y = some c := fun {y c} e => by
    rcases cloFrom_mem (PySem.mem_of_lookup e) with hm | ⟨h1, h2⟩
    · cases hm
    · obtain ⟨c1, hc⟩ := hfree _ h1 rfl
      have hc : X.env.cells.lookup y = some c1 := hc
      rw [hc] at h2
      have h3 : c = c1 := h2
      rw [h3]
      exact hc
  have down : ∀ {y}, scope.names.lookup y = some .free → ∃ c, (cloFrom X.env.cells scope.names []).lookup y = some c := fun {y} hl =>
    mem_lookup (cloFrom_has (cells := X.env.cells) (acc := []) (PySem.mem_of_lookup hl))
  have cellK : ∀ {c : Addr} {v : Option Value}, H c = none → s.heap.IsCell c v → h₁.IsCell c v := fun {c v} n ⟨o, ho, hd⟩ => by
    obtain ⟨sl, q⟩ := un.any ho n (by simp)
    exact ⟨_, kp _ _ q, hd⟩
  have noX : ∀ b : Addr, b ∉ (lamCx X A outer s1 HZ E scope f c').ex := fun b z => absurd (show b ∈ ([] : List Addr) from z) (by simp)
  refine ⟨⟨e0.mod, L.kind, rfl, rfl, Nat.le_refl _, fun y z c e1 e2 => I.ok.inj y z c (up e1) (up e2), fun y hy => ?_, fun y c z _ => ?_, fun _ => hd, Around.frames_deeper e0.frames, .inr ⟨rfl, rfl⟩, fun b z => absurd z (noX b), e0.bs, e0.bsz, fun b _ _ => noX b,
      fun b z => absurd z (noX b), e0.funs, e0.frf⟩,
    rfl, e0.bare, Un.kept kp, ⟨_, hns, fun i y v e1 e2 e3 => ?_⟩, fun y c e => ?_, e0.hok.fresh (Nat.le_refl _), fun y c e => ?_, fun q hq => absurd (show q ∈ ([] : List (Addr × Obj)) ++ [] from hq) (by simp), e0.hok.kept kp, I.len⟩
  · have hy : scope.names.lookup y = some .cell ∨ scope.names.lookup y = some .free := hy
    rcases hy with hy | hy
    · exact absurd rfl (L.own _ (PySem.mem_of_lookup hy)).1
    · exact down hy
  · have z : false = true := z
    cases z
  · have e3 : Vis scope y := e3
    have e1 : X.N[i]? = some y := e1
    rcases e3 with k | k | k
    · exact absurd (List.mem_of_getElem? e1) ((L.own _ (PySem.mem_of_lookup k)).2 rfl)
    · exact absurd rfl (L.own _ (PySem.mem_of_lookup k)).1
    · obtain ⟨m, hn, hl⟩ := I.loc
      have vis : Vis X.env.scope y := (L.free _ (PySem.mem_of_lookup k) rfl).elim (fun k => .inr (.inl k)) (fun k => .inr (.inr k))
      obtain ⟨w', r, q⟩ := hl i y v e1 e2 vis
      obtain ⟨c2, h2⟩ := down k
      refine ⟨w', r, .inr ⟨.inr k, c2, h2, ?_⟩⟩
      have c1 := up h2
      rcases q with ⟨k', _⟩ | ⟨_, c3, e', z⟩
      · have k' : X.env.scope.names.lookup y = some .local := k'
        rcases L.free _ (PySem.mem_of_lookup k) rfl with k2 | k2 <;> rw [show X.env.scope.names.lookup y = _ from k2] at k' <;> cases k'
      · rw [c1] at e'
        cases e'
        exact cellK (I.freeC y _ c1) z
  · obtain ⟨w', z⟩ := I.cell y c (up e)
    exact ⟨w', cellK (I.freeC y c (up e)) z⟩
  · obtain ⟨v, o, ho, hd⟩ := I.cell y c (up e)
    exact un.free c o ho (I.freeC y c (up e)) (by simp)
/-- how a lambda called with nothing binds its parameters nm to their defaults ds -/
def LamB (params : Arguments) (nm : List Str) (ds : List Value) : Prop :=
  ∀ (q : Str) (body : Expr) (scope : Scope) (cl : List (Str × Addr)) (dV pm cv ctv : Value) (M : Model) (A : Around) (E : Value → Shared → Prop) (s : Shared) (H : Hp) (fs : List Addr) (Q : List (Str × Value) → Shared → Prop),
    DflAt s.heap H fs dV ds → Q (nm.zip ds) s → wpAny M A (bindArgs (lFn q params body scope cl dV pm cv ctv) ⟨[], []⟩) Q E s
theorem lamB0 {params : Arguments} (h : ∀ (q : Str) (body : Expr) (scope : Scope) (cl : List (Str × Addr)) (pm cv ctv : Value), bindArgs (lFn q params body scope cl .none pm cv ctv) ⟨[], []⟩ = pure []) : LamB params [] [] :=
  fun q body scope cl dV pm cv ctv M A E s H fs Q hd hq => by
    have hd : dV = .none := hd
    rw [hd, h]
    exact wpAny_pure hq
theorem lamB1 {params : Arguments} {a : Str} {d : Value} (h : ∀ (q : Str) (body : Expr) (scope : Scope) (cl : List (Str × Addr)) (T : Addr) (pm cv ctv : Value), ∃ k, bindArgs (lFn q params body scope cl (.ref T) pm cv ctv) ⟨[], []⟩ = seqItems? (.ref T) >>= k ∧ k (some #[d]) = pure [(a, d)]) : LamB params [a] [d] :=
  fun q body scope cl dV pm cv ctv M A E s H fs Q hd hq => by
    obtain ⟨T, o, n, rfl, e2, e3, _⟩ := hd
    obtain ⟨k, e, ek⟩ := h q body scope cl T pm cv ctv
    rw [e]
    refine wpAny_bind (wpAny_seqItems e2 e3 ?_)
    rw [show (some [d].toArray : Option (Array Value)) = some #[d] from rfl, ek]
    exact wpAny_pure hq
/-- x(), in the def that got the lambda: Z is that def's context, entered at s -/
theorem pe_act {CXg : CXT} {Eg : XK} {Ng : List Str} {qg : Str} {sg : Scope} {g f c' : Addr} {cdg pm ctv dV : Value} {ds : List Value} {nm : List Str} {params : Arguments} {body : Expr} {scope : Scope} {k i : Nat} {a : Str} {pn : List (Addr × Obj)} {xe : Value → Shared → Prop} {W : WX} {tb : XK → TE} {p1 p2 : Pos}
    (I : Inv X pins σ H s) (L : LamN X.env.scope scope X.N nm) (hf : s.heap.get? f = some (lObj (X.env.qual ++ "<lambda>") params body scope (cloFrom X.env.cells scope.names []) dV pm (.ref c') ctv)) (hfn : H f = none) (hfr : f ∉ X.env.locals :: X.fs)
    (hbind : LamB params nm ds) (hds : DflAt s.heap H (X.env.locals :: X.fs) dV ds)
    (tk : Takes ((cxOf CXg X.prog X.w X.K X.mg X.base Ng qg sg g cdg X.A X.stack s H Eg).tr pn xe) W) (hr : Room (k + 1) (X.A.deeper (envOfC qg sg s.heap.objs.size g cdg)))
    (hbody : ∀ (A : Around) (outer : List Env) (s : Shared) (H : Hp) (E : XK), Room k (A.deeper (lamEnv X scope s.heap.objs.size f c')) → PE (lamCx X A outer s H E scope f c') body (tb E))
    (hN : Ng[i]? = some a) (hv : Vis sg a) (hd : (a == ("__debug__" : Str)) = false := by decide) (hcd : (a == ("__classdict__" : Str)) = false := by decide) :
    PE ((cxOf CXg X.prog X.w X.K X.mg X.base Ng qg sg g cdg X.A X.stack s H Eg).tr pn xe) (.Call (.Name a p1) [] [] p2)
      (fun σZ HZ Q => σZ[i]? = some (some (.ref f)) ∧ HZ c' = some (CodeO c' (X.env.qual ++ "<lambda>")) ∧ tb (fun cls d H' => W cls d σZ H') σ HZ Q) := by
  have nst : ∀ {b : Addr}, b ∉ X.env.locals :: X.fs → b ∉ frs X.stack := fun {b} h z => h (I.stkSub b z)
  refine ⟨fun pinsZ sZ σZ HZ Q IZ h => ?_⟩
  obtain ⟨hs, hc, ht⟩ := h
  refine wpAny_Call_Name_kw (thn ((pe_var (pos := p1) (i := i) hN hv hd hcd).run pinsZ sZ σZ HZ (fun v H1 => v = .ref f ∧ H1 = HZ) IZ ⟨.ref f, hs, rfl, rfl⟩) fun u s1 ⟨v, H1, I1, r1, q1⟩ => ?_)
  obtain ⟨ev, eH⟩ := q1
  subst ev
  rw [eH] at I1
  obtain rfl : u = Value.ref f := r1
  have keep1 : ∀ {b : Addr} {o : Obj}, s.heap.get? b = some o → H b = none → b ∉ X.env.locals :: X.fs → s1.heap.get? b = some o ∧ HZ b = none := fun {b o} e n nf =>
    ⟨I1.base.keep b _ e n (nst nf) (fun z => nomatch (show b ∈ ([] : List Addr) from z)), I1.base.free b _ e n (fun z => nomatch (show b ∈ ([] : List Addr) from z))⟩
  have of1 := (keep1 hf hfn hfr).1
  have ds1 : DflAt s1.heap HZ (X.env.locals :: X.fs) dV ds := by
    cases ds with
    | nil => exact hds
    | cons d r =>
      obtain ⟨T, o, n, e1, e2, e3, e4, e5⟩ := hds
      exact ⟨T, o, n, e1, (keep1 e2 e4 e5).1, e3, (keep1 e2 e4 e5).2, e5⟩
  refine PySem.W.callWith_F0 ⟨_, _, _, _, of1⟩ ?_
  have un : Un (frs X.stack) [] H HZ s.heap s1.heap := I1.base
  obtain ⟨⟨oc, vs, t, hoc, hdc, hvc⟩, _, _⟩ := I1.hok c' _ hc
  have rc : codeAny (model X.prog X.w) (X.A.deeper (envOfC qg sg s.heap.objs.size g cdg)) (.call (.ref f) ⟨[], []⟩) (CR (L2.CX X.prog X.w) (envOfC qg sg s.heap.objs.size g cdg :: X.stack) X.prog X.w HZ s1 Q fun cls d H' => W cls d σZ H') s1 := by
    refine PySem.W.kla_callFunE hr.depth of1 rfl L.co L.gen rfl ⟨c', oc, vs, t, rfl, hoc, hdc, hvc⟩ ?_
    refine hbind _ _ _ _ _ _ _ _ _ _ _ s1 HZ _ _ ds1 ?_
    refine wpAny_newFunctionEnv (fun y hy => (L.own y hy).1) (fun y hy => L.par _ (List.of_mem_zip (by simpa using hy)).1) (fun h₁ hns hsb => ⟨I1.nolimit.fresh _ hsb, ?_⟩) L.kind
    show codeAny _ _ (.expr body (lamEnv X scope s1.heap.objs.size f c')) _ _
    have kp : ∀ b o, s1.heap.get? b = some o → h₁.get? b = some o := fun b o e => hsb.extBut b o (Nat.ne_of_lt (Heap.lt_size e)) (Heap.get?_push_of_some _ e)
    have J : Inv (lamCx X (X.A.deeper (envOfC qg sg s.heap.objs.size g cdg)) (envOfC qg sg s.heap.objs.size g cdg :: X.stack) s1 HZ (fun cls d H' => W cls d σZ H') scope f c') [] σ HZ { s1 with heap := h₁, toks := s1.toks + (nm.zip ds).length } :=
      lam_start I L I1.env0 hr.hd un hns kp
    refine PySem.W.kla_codeExpr (wpAny_mono ((hbody _ _ s1 HZ _ (hr.deeper _)).run [] _ _ HZ Q J ht) (fun v s' hq => ?_) fun e s' hq => hq)
    obtain ⟨w', H', J', rv, q⟩ := hq
    exact ⟨w', H', J'.os, J'.bare, J'.base, J'.hok, rv, q⟩
  refine wpAny_call (codeAny_mono rc fun r s' hq => ?_)
  cases r with
  | error e => exact tk e s' (XE.of_call I1 (fun _ _ _ h => h) hq)
  | ok fl =>
    cases fl with
    | ret u => exact I1.after hq
    | next => exact False.elim hq
    | brk => exact False.elim hq
    | cont => exact False.elim hq
end
/-- a reading that grows with what is wanted -/
def MonoL (tl : XK → Hp → VK → Prop) : Prop := ∀ (E1 E2 : XK) (H : Hp) (Q1 Q2 : VK), (∀ c d H', E1 c d H' → E2 c d H') → (∀ v H', Q1 v H' → Q2 v H') → tl E1 H Q1 → tl E2 H Q2
/-- the def that calls what it got, beside other values vs; TT: what it makes of the lambda's reading -/
def Gives (X : Cx) (Ng : List Str) (x : Str) (sg : Scope) (g : Addr) (cdg : Value) (bg : List Stmt) (a : Str) (q : Str) (k : Nat) (TT : List V → (XK → Hp → VK → Prop) → Hp → VK → Prop) : Prop :=
  ∀ (f c' : Addr) (vs : List V) (s : Shared) (H : Hp) (Q : VK) (tl : XK → Hp → VK → Prop), Room k (X.A.deeper (envOfC x sg s.heap.objs.size g cdg)) →
    (∀ (W : WX) (pn : List (Addr × Obj)) (xe : Value → Shared → Prop) (p1 p2 : Pos), Takes ((cxOf L2.CX0 X.prog X.w X.K X.mg X.base Ng x sg g cdg X.A X.stack s H fun _ _ _ => False).tr pn xe) W →
      PE ((cxOf L2.CX0 X.prog X.w X.K X.mg X.base Ng x sg g cdg X.A X.stack s H fun _ _ _ => False).tr pn xe) (.Call (.Name a p1) [] [] p2) (fun σZ HZ Q => σZ[0]? = some (some (.ref f)) ∧ HZ c' = some (CodeO c' q) ∧ tl (fun cls d H' => W cls d σZ H') HZ Q)) →
    H c' = some (CodeO c' q) → MonoL tl → TT vs tl H Q →
    ∃ t, PSs (cxOf L2.CX0 X.prog X.w X.K X.mg X.base Ng x sg g cdg X.A X.stack s H fun _ _ _ => False).nox bg t ∧ t { nx := fun _ H' => Q .non H', rt := Q } (L2.start Ng (.ref f :: vs)) H
def tLam2 (T : List (Addr × Str)) (vs : List V) (TT : List V → (XK → Hp → VK → Prop) → Hp → VK → Prop) (t : XK → TE) : TE := fun σ H Q => Tabs T H ∧ ∀ H1, ExtN H H1 → Tabs T H1 → TT vs (fun E H' Q' => t E σ H' Q') H1 Q
section
variable {X : Cx}
/-- x(lambda: body, rest ..), rest written constants -/
theorem pe_lam {T : List (Addr × Str)} {vs : List V} {TT : List V → (XK → Hp → VK → Prop) → Hp → VK → Prop} {x a : Str} {g c P : Addr} {k : Nat} {pg : Arguments} {bg : List Stmt} {sg : Scope} {dV kV doc pm cdv ct oc : Value} {an od : Option Addr} {osl : Array (Option Value)} {Ng ps nm : List Str}
    {params : Arguments} {body : Expr} {rest : List Expr} {tr : TA} {dts : List Int} {scope : Scope} {t : XK → TE} {p lpos pos : Pos} (hg : Gl X x) (hm : X.mg x = some (.ref g)) (hk : PySem.W.keepIn X.K (.ref g) = true)
    (lk : X.K.lookup g = some ⟨oc, od, .func (PySem.W.fnOf x x pg bg sg dV kV doc pm an cdv ct), osl⟩) (hcg : PySem.W.codeIn X.K cdv x = true) (hb : L2.Binds X.K (PySem.W.fnOf x x pg bg sg dV kV doc pm an cdv ct) (a :: ps) []) (Sg : FnScope Ng (a :: ps) sg) (hNg : Ng[0]? = some a) (hva : Vis sg a)
    (hG : Gives X Ng x sg g cdv bg a (X.env.qual ++ "<lambda>") (k + 1) TT)
    (TB : TabB X.base X.mg c P) (hcode : X.env.code = .ref c) (hmT : (P, X.env.qual ++ "<lambda>") ∈ T) (hu : ∀ p ∈ T, p.1 = P → p.2 = X.env.qual ++ "<lambda>") (hr : Room (k + 2) X.A) (L : LamN X.env.scope scope X.N nm)
    (hdef : (dts = [] ∧ defaultsOf params X.env = ([], [])) ∨ ∃ n j dp, dts = [n] ∧ defaultsOf params X.env = ([eval (.Constant (.int n) j dp) X.env], []))
    (hbind : ∀ ds : List Value, Vals (dts.map V.int) ds → LamB params nm ds)
    (hmono : ∀ σ : L2.St, MonoL fun E H' Q' => t E σ H' Q') (hrest : PA X rest tr) (htr : ∀ σ H Q, tr σ H Q = Q vs H) (hvl : vs.length = ps.length)
    (hbody : ∀ (A : Around) (outer : List Env) (s : Shared) (H : Hp) (E : XK) (f c' : Addr), Room k (A.deeper (lamEnv X scope s.heap.objs.size f c')) → PE (lamCx X A outer s H E scope f c') body (t E))
    (he : starEach (.Lambda params body scope lpos :: rest) X.env = (false, eval (.Lambda params body scope lpos) X.env) :: starEach rest X.env := by rfl) (hpl : (backTo pos (starEach rest X.env)).any (·.1) = false := by rfl)
    (hdb : (x == ("__debug__" : Str)) = false := by decide) (hd : (a == ("__debug__" : Str)) = false := by decide) (hcd : (a == ("__classdict__" : Str)) = false := by decide) :
    PE X (.Call (.Name x p) (.Lambda params body scope lpos :: rest) [] pos) (tLam2 T vs TT t) := by
  refine ⟨fun pins s σ H Q I h => ?_⟩
  obtain ⟨hT, h⟩ := h
  refine wpAny_Call_Name_kw (ld_glob I hg hm ?_ hdb)
  refine PySem.W.callWith_K (h₀ := X.base) I.ok.mod.kin hk ?_ he hpl
  rw [he]
  show wpAny _ _ (spliced ((false, eval (.Lambda params body scope lpos) X.env) :: backTo pos (starEach rest X.env))) _ _ s
  -- from the making of the object on
  have go : ∀ (s0 : Shared) (dV : Value) (ds : List Value), Inv X pins σ H s0 → Vals (dts.map V.int) ds → DflAt s0.heap H (X.env.locals :: X.fs) dV ds →
      wpAny (model X.prog X.w) X.A (PySem.makeTail "<lambda>" (X.env.qual ++ "<lambda>") params (.expr body) scope X.env dV .none none lpos lpos.line)
        (fun u s1 => wpAny (model X.prog X.w) X.A (spliced (backTo pos (starEach rest X.env))) (fun us s2 => X.K.In s2.heap ∧ wpAny (model X.prog X.w) X.A (call (.ref g) ([] ++ u :: us)) (EP X pins σ Q) X.xe s2) X.xe s1) X.xe s0 := by
    intro s0 dV ds I0 rd hd0
    refine lam_tail I0 TB hcode hmT hu hT (L.has I0.ok) hd0 fun f c' pm' ctv H1 s' I1 eN T1 hd1 hf hfn hfL hfF hco => ?_
    obtain ⟨pl, hpl1, hpl2⟩ : ∃ pl : List (Addr × Obj), (∀ p ∈ pl, s'.heap.get? p.1 = some p.2 ∧ H1 p.1 = none ∧ p.1 ≠ X.env.locals ∧ p.1 ∉ X.fs ∧ ∀ v, p.2.data ≠ .cell v) ∧ (∀ h2 : Heap, (∀ p ∈ pl, h2.get? p.1 = some p.2) → DflAt h2 H1 (X.env.locals :: X.fs) dV ds) := by
      cases ds with
      | nil => exact ⟨[], (fun p hp => nomatch hp), fun _ _ => hd1⟩
      | cons d r =>
        obtain ⟨Td, o, n, e1, e2, e3, e4, e5⟩ := hd1
        refine ⟨[(Td, o)], fun p hp => ?_, fun h2 k => ⟨Td, o, n, e1, k _ List.mem_cons_self, e3, e4, e5⟩⟩
        obtain rfl : p = (Td, o) := by simpa using hp
        exact ⟨e2, e4, fun z => e5 (by rw [show Td = X.env.locals from z]; exact List.mem_cons_self), fun z => e5 (List.mem_cons_of_mem _ z), fun v z => by
          have z' : o.data = .cell v := z
          rw [e3] at z'
          cases z'⟩
    have J : Inv X (pins ++ ((f, _) :: pl)) σ H1 s' := I1.pins_of (pins' := pins ++ ((f, lObj (X.env.qual ++ "<lambda>") params body scope (cloFrom X.env.cells scope.names []) dV pm' (.ref c') ctv) :: pl)) fun p hp => by
      rcases List.mem_append.mp hp with hp | hp
      · exact I1.pin p (List.mem_append_right _ hp)
      · rcases List.mem_cons.mp hp with e | hp
        · rw [e]
          exact ⟨hf, hfn, hfL, hfF, fun v z => nomatch z⟩
        · exact hpl1 p hp
    refine thn (hrest.run pos _ s' σ H1 (fun vs' H' => vs' = vs ∧ H' = H1) J (by rw [htr]; exact ⟨rfl, rfl⟩)) fun us s2 ⟨vs', H2, I2, r2, e1, e2⟩ => ?_
    subst e1
    rw [e2] at I2
    have hf2 := (I2.pin (f, _) (List.mem_append_right _ (List.mem_append_right _ List.mem_cons_self))).1
    have hd2 : DflAt s2.heap H1 (X.env.locals :: X.fs) dV ds := hpl2 _ fun p hp => (I2.pin p (List.mem_append_right _ (List.mem_append_right _ (List.mem_cons_of_mem _ hp)))).1
    have I3 : Inv X pins σ H1 s2 := I2.unpinned
    refine ⟨I3.kIn, ?_⟩
    have rv : Vals (V.ref f :: vs') (Value.ref f :: us) := .cons rfl r2
    have hlen : (Value.ref f :: us).length = (a :: ps).length := by
      rw [← rv.length, List.length_cons, List.length_cons, hvl]
    have rc : codeAny (model X.prog X.w) X.A (.call (.ref g) ⟨.ref f :: us, []⟩) (CR L2.CX0 X.stack X.prog X.w H1 s2 Q fun _ _ _ => False) s2 := by
      refine run_ofS (N := Ng) (ps := a :: ps) (us := .ref f :: us) (vs := .ref f :: vs') lk hcg Sg hr I3.env0 (by have z := hb s2 (Value.ref f :: us) I3.kIn (by rw [List.append_nil]; exact hlen); rw [List.append_nil] at z; exact z) rv (by rw [List.length_cons, List.length_cons, hvl]) fun hr' => ?_
      obtain ⟨t', ht', hq'⟩ := hG f c' vs' s2 H1 Q (fun E H' Q' => t E σ H' Q') hr' (fun W pn xe p1 p2 tk => pe_act (i := 0) I3 L hf2 hfn (fun z => (List.mem_cons.mp z).elim hfL hfF) (hbind ds rd) hd2 tk hr' (fun A outer s H E hr2 => hbody A outer s H E f c' hr2) hNg hva hd hcd) hco (hmono σ) (h H1 eN T1)
      exact ⟨t', ht'.nox, hq'⟩
    refine wpAny_call (codeAny_mono rc fun r s3 hq => ?_)
    cases r with
    | error e => exact (show False from hq).elim
    | ok fl =>
      cases fl with
      | ret u => exact I3.after hq
      | next => exact False.elim hq
      | brk => exact False.elim hq
      | cont => exact False.elim hq
  refine Calls.spliced_cons ?_
  rw [PySem.arm_eval_Lambda]
  rcases hdef with ⟨rfl, hdef⟩ | ⟨n, j, dp, rfl, hdef⟩
  · rw [hdef]
    refine wpAny_bind (wpAny_pure (wpAny_bind (wpAny_holding (wpAny_pure ?_))))
    rw [PySem.makeFunction_eq]
    simp only [List.zip_nil_right, List.filterMap_nil, List.isEmpty_nil, if_true, pure_bind]
    exact go s .none [] I .nil rfl
  · rw [hdef]
    refine wpAny_bind (m := evalAll [eval (.Constant (.int n) j dp) X.env]) ?_
    unfold evalAll evalAll
    refine wpAny_bind (thn ((pe_int (X := X) (i := n) (j := j) (pos := dp)).run pins s σ H (fun v H' => v = .int n ∧ H' = H) I ⟨rfl, rfl⟩) fun u s1 ⟨v, H1, I1, r1, e1, e2⟩ => ?_)
    subst e1
    rw [e2] at I1
    refine wpAny_bind (wpAny_holding (wpAny_pure (wpAny_pure ?_)))
    refine wpAny_bind (wpAny_holding (wpAny_pure ?_))
    rw [PySem.makeFunction_eq]
    simp only [List.zip_nil_right, List.filterMap_nil, List.isEmpty_nil, List.isEmpty_cons, Bool.false_eq_true, if_true, if_false, pure_bind]
    refine wpAny_bind (wpAny_newTextTuple ?_)
    have sz : s1.heap.objs.size ≤ s1.heap.objs.size := Nat.le_refl _
    refine go _ (.ref s1.heap.objs.size) [u] (I1.kept (t' := s1.toks) fun b o e => Heap.get?_push_of_some _ e) (.cons r1 .nil) ⟨_, _, _, rfl, Heap.get?_push_size _ rfl, rfl, I1.hok.fresh sz, fun z => ?_⟩
    rcases List.mem_cons.mp z with z | z
    · exact Nat.lt_irrefl _ (show s1.heap.objs.size < s1.heap.objs.size by
        have q := I1.lt
        rw [← z] at q
        exact q)
    · exact I1.nofs sz z
end
end OB
/-! What a law draws from: a list of a list of ints, how many draws were made, what is left of a great one. -/
namespace OB
open PySem PySem.Spec PyProof.Rows L2
/-- the lot stands at p, its ints at b; at most n draws were made -/
def Orch (H : Hp) (p b : Addr) (n : Nat) : Prop := ∃ (ns : List Int) (t l : Int), H p = some (.lst [.ref b, .int t, .int l]) ∧ H b = some (.lst (ns.map V.int)) ∧ 0 ≤ t ∧ t ≤ n
theorem Orch.ne {H : Hp} {p b : Addr} {n : Nat} (o : Orch H p b n) : p ≠ b := by
  obtain ⟨ns, t, l, h1, h2, _⟩ := o
  refine ne_of h1 h2 fun z => ?_
  injection z with z
  cases ns with
  | nil => cases z
  | cons a r =>
    injection z with z _
    cases z
theorem Orch.keep {H H' : Hp} {p b : Addr} {n : Nat} (o : Orch H p b n) (hp : ∀ u, H p = some u → H' p = some u) (hb : ∀ u, H b = some u → H' b = some u) : Orch H' p b n := by
  obtain ⟨ns, t, l, h1, h2, h3⟩ := o
  exact ⟨ns, t, l, hp _ h1, hb _ h2, h3⟩
theorem Orch.same {H H' : Hp} {p b : Addr} {n : Nat} (o : Orch H p b n) (s : Same H H') : Orch H' p b n := o.keep (fun u => s p u) fun u => s b u
theorem Orch.mono {H : Hp} {p b : Addr} {n m : Nat} (o : Orch H p b n) (h : n ≤ m) : Orch H p b m := by
  obtain ⟨ns, t, l, h1, h2, h3, h4⟩ := o
  exact ⟨ns, t, l, h1, h2, h3, by omega⟩
theorem Orch.pn {H : Hp} {p b : Addr} {n : Nat} (o : Orch H p b n) : ∃ u, H p = some u := by
  obtain ⟨ns, t, l, h1, h2, h3, h4⟩ := o
  exact ⟨_, h1⟩
theorem Orch.bn {H : Hp} {p b : Addr} {n : Nat} (o : Orch H p b n) : ∃ u, H b = some u := by
  obtain ⟨ns, t, l, h1, h2, h3, h4⟩ := o
  exact ⟨_, h2⟩
/-- all that was tracked is as it was, but what stands at p -/
def But (p : Addr) (H H' : Hp) : Prop := ∀ q o, H q = some o → q ≠ p → H' q = some o
theorem But.refl {p : Addr} {H : Hp} : But p H H := fun _ _ h _ => h
theorem But.of {p : Addr} {H H' : Hp} (s : Same H H') : But p H H' := fun q o h _ => s q o h
theorem But.trans {p : Addr} {H H1 H2 : Hp} (a : But p H H1) (b : But p H1 H2) : But p H H2 := fun q o h n => b q o (a q o h n) n
theorem same_new {H : Hp} {l : Addr} {o : HO} (h : H l = none) : Same H (upd H l o) := fun b u e => by
  rw [upd_ne (ne_of_none e h)]
  exact e
theorem but_at {H : Hp} {p : Addr} {o : HO} : But p H (upd H p o) := fun q u e n => by
  rw [upd_ne n]
  exact e
/-- a draw from many: some number below many; the lot goes on -/
def spDraw : Sp := fun vs H Q _ => ∃ (p b : Addr) (n : Nat) (many : Int), vs = [.ref p, .int many] ∧ Orch H p b n ∧ n < 1000000 ∧ 0 < many ∧ many.natAbs < 2 ^ 9000 ∧
  ∀ (r : Int) (H' : Hp), 0 ≤ r → r < many → Orch H' p b (n + 1) → But p H H' → Q (.int r) H'
/-- the lot is made of a list of ints -/
def spLot (K : PySem.W.Frag) : Sp := fun vs H Q _ => ∃ (a : Addr) (ns : List Int), vs = [.ref a] ∧ SqL K H a (ns.map V.int) ∧ ns.length ≤ 63 ∧
  ∀ (p b : Addr) (H' : Hp), H p = none → H b = none → Orch H' p b 0 → Same H H' → Q (.ref p) H'
theorem mix1 {x t A B m : Int} (hm : 0 < m) (hm2 : m < 2 ^ 31) (ht : 0 ≤ t) (ht2 : t ≤ 1000000) (hA : 0 ≤ A) (hA2 : A ≤ 1000000) (hB : 0 ≤ B) (hB2 : B ≤ 1000000) : (x % m + A * t + B).natAbs < 2 ^ 64 := by
  have h1 := Int.emod_nonneg x (by omega : m ≠ 0)
  have h2 := Int.emod_lt_of_pos x hm
  have h3 : A * t ≤ 1000000 * 1000000 := Int.mul_le_mul hA2 ht2 ht (by decide)
  have h4 : 0 ≤ A * t := Int.mul_nonneg hA ht
  omega
theorem mix2 {x t A B C m : Int} (hm : 0 < m) (hm2 : m < 2 ^ 31) (ht : 0 ≤ t) (ht2 : t ≤ 1000000) (hA : 0 ≤ A) (hA2 : A ≤ 1000000) (hB : 0 ≤ B) (hB2 : B ≤ 1000000) (hC : 0 ≤ C) (hC2 : C ≤ 1000000) : (x % m * (2 * t + C) + A * t * t + B).natAbs < 2 ^ 64 := by
  have h1 := Int.emod_nonneg x (by omega : m ≠ 0)
  have h2 := Int.emod_lt_of_pos x hm
  have h3 : A * t ≤ 1000000 * 1000000 := Int.mul_le_mul hA2 ht2 ht (by decide)
  have h4 : 0 ≤ A * t := Int.mul_nonneg hA ht
  have h5 : A * t * t ≤ 1000000 * 1000000 * 1000000 := Int.mul_le_mul h3 ht2 ht (by decide)
  have h6 : 0 ≤ A * t * t := Int.mul_nonneg h4 ht
  have h7 : x % m * (2 * t + C) ≤ 2 ^ 31 * 3000000 := Int.mul_le_mul (by omega) (by omega) (by omega) (by decide)
  have h8 : 0 ≤ x % m * (2 * t + C) := Int.mul_nonneg h1 (by omega)
  omega
theorem mod_lim {x m : Int} (hm : 0 < m) (hm2 : m < 2 ^ 31) : -(2 ^ 64) < x % m ∧ x % m < 2 ^ 64 := by
  have h1 := Int.emod_nonneg x (by omega : m ≠ 0)
  have h2 := Int.emod_lt_of_pos x hm
  omega
theorem dp_ints {K : PySem.W.Frag} {H : Hp} : ∀ ns : List Int, DpAll K H (ns.map V.int) (ns.map PyData.int)
  | [] => .nil
  | n :: r => .cons (.int n) (dp_ints r)
theorem lay_ints : ∀ ns : List Int, PyData.canLayAll0 (ns.map PyData.int) = true
  | [] => by simp [PyData.canLayAll0]
  | n :: r => by simp [PyData.canLayAll0, PyData.canLay0, lay_ints r]
theorem deep_ints : ∀ ns : List Int, PyData.depthAll (ns.map PyData.int) ≤ 1
  | [] => by simp [PyData.depthAll]
  | n :: r => by
    have h := deep_ints r
    simp [PyData.depthAll, PyData.depth]
    omega
theorem shaped_ints (ns : List Int) : SeqAt.shaped (.list (ns.map PyData.int)) = true := by
  have h := deep_ints ns
  unfold SeqAt.shaped
  rw [Bool.and_eq_true]
  refine ⟨by simp [PyData.canLay0, lay_ints], decide_eq_true ?_⟩
  simp [PyData.depth]
  omega
theorem eqv_nil (ns : List Int) : PyData.eqv (.list (ns.map PyData.int)) (.list []) = decide (ns = []) := by
  cases ns with
  | nil => simp [PyData.eqv, PyData.eqvAll]
  | cons n r => simp [PyData.eqv, PyData.eqvAll]

/-! ### kinds of values: is it an integer -/
/-- x is of a kind of which isinstance(x, int) and not isinstance(x, bool) is b -/
def IsI (K : PySem.W.Frag) (H : Hp) (x : V) (b : Bool) : Prop := ∃ (n : String) (b1 b2 : Bool), TyX K H x (.type n) ∧ kitB n "int" = some b1 ∧ kitB n "bool" = some b2 ∧ b = (b1 && !b2)
section
variable {K : PySem.W.Frag} {H : Hp}
theorem isI_int (i : Int) : IsI K H (.int i) true := ⟨"int", true, false, .base (.int i), by decide +kernel, by decide +kernel, rfl⟩
theorem isI_non : IsI K H .non false := ⟨"NoneType", false, false, .base .non, by decide +kernel, by decide +kernel, rfl⟩
theorem isI_bl (b : Bool) : IsI K H (.bl b) false := ⟨"bool", true, true, .base (.bl b), by decide +kernel, by decide +kernel, rfl⟩
theorem isI_str (x : Str) : IsI K H (.str x) false := ⟨"str", false, false, .base (.str x), by decide +kernel, by decide +kernel, rfl⟩
theorem isI_lst {a : Addr} {xs : List V} (e : H a = some (.lst xs)) : IsI K H (.ref a) false := ⟨"list", false, false, .base (.lst e), by decide +kernel, by decide +kernel, rfl⟩
theorem isI_tup {a : Addr} {xs : List V} (e : H a = some (.tup xs)) : IsI K H (.ref a) false := ⟨"tuple", false, false, .base (.tup e), by decide +kernel, by decide +kernel, rfl⟩
theorem isI_dK {a : Addr} {kvs : List (Key × V)} (e : H a = some (.dK kvs)) : IsI K H (.ref a) false := ⟨"dict", false, false, .base (.dK e), by decide +kernel, by decide +kernel, rfl⟩
theorem isI_true {x : V} (h : IsI K H x true) : ∃ i, x = .int i := by
  obtain ⟨n, b1, b2, ty, e1, e2, e3⟩ := h
  have c1 : b1 = true := by
    cases b1
    · simp at e3
    · rfl
  have c2 : b2 = false := by
    cases b2
    · rfl
    · simp [c1] at e3
  subst c1 c2
  have no : ∀ {m : String}, kitB m "int" ≠ some true ∨ kitB m "bool" ≠ some false → n = m → False := fun h e => by
    subst e
    exact h.elim (fun z => z e1) fun z => z e2
  cases ty with
  | base h =>
    cases h with
    | int i => exact ⟨i, rfl⟩
    | non => exact (no (m := "NoneType") (.inl (by decide +kernel)) rfl).elim
    | bl b => exact (no (m := "bool") (.inr (by decide +kernel)) rfl).elim
    | str b => exact (no (m := "str") (.inl (by decide +kernel)) rfl).elim
    | flt b => exact (no (m := "float") (.inl (by decide +kernel)) rfl).elim
    | lst e => exact (no (m := "list") (.inl (by decide +kernel)) rfl).elim
    | frz e => exact (no (m := "list") (.inl (by decide +kernel)) rfl).elim
    | tup e => exact (no (m := "tuple") (.inl (by decide +kernel)) rfl).elim
    | dK e => exact (no (m := "dict") (.inl (by decide +kernel)) rfl).elim
    | dT e => exact (no (m := "dict") (.inl (by decide +kernel)) rfl).elim
  | byt b => exact (no (m := "bytes") (.inl (by decide +kernel)) rfl).elim
  | set e => exact (no (m := "set") (.inl (by decide +kernel)) rfl).elim
  | kList e c => exact (no (m := "list") (.inl (by decide +kernel)) rfl).elim
  | kTuple e c => exact (no (m := "tuple") (.inl (by decide +kernel)) rfl).elim
  | kDict e c => exact (no (m := "dict") (.inl (by decide +kernel)) rfl).elim
  | fTuple e => exact (no (m := "tuple") (.inl (by decide +kernel)) rfl).elim
  | fDict e => exact (no (m := "dict") (.inl (by decide +kernel)) rfl).elim
end
/-- a bound: an int or none -/
def oV : Option Int → V
  | none => .non
  | some i => .int i
def loOk (lo : Option Int) (i : Int) : Bool := match lo with
  | none => true
  | some l => decide (l ≤ i)
def hiOk (hi : Option Int) (i : Int) : Bool := match hi with
  | none => true
  | some h => decide (i ≤ h)
/-- an int within bounds -/
def inB (lo hi : Option Int) : V → Bool
  | .int i => loOk lo i && hiOk hi i
  | _ => false
def spIsInt (K : PySem.W.Frag) : Sp := fun vs H Q _ => ∃ (x : V) (b : Bool), vs = [x] ∧ IsI K H x b ∧ Q (.bl b) H
def spWithin (K : PySem.W.Frag) : Sp := fun vs H Q _ => ∃ (x : V) (lo hi : Option Int) (b : Bool), vs = [x, oV lo, oV hi] ∧ IsI K H x b ∧ Q (.bl (b && inB lo hi x)) H
/-- what raises the error at C, with its part, else returns None -/
def RaisesP (C : Addr) (part : Str) (E : XK) (H : Hp) : Prop := ∀ d, H d = none → E (.ref C) (some d) (upd H d (.xd [(("part" : Str), .str part)]))
def spNeedNumber (K : PySem.W.Frag) (C : Addr) : Sp := fun vs H Q E => ∃ (x : V) (part : Str) (lo hi : Option Int) (b : Bool), vs = [x, .str part, oV lo, oV hi] ∧ IsI K H x b ∧
  ((b && inB lo hi x) = true → Q .non H) ∧ ((b && inB lo hi x) = false → RaisesP C part E H)
def spNeedWord (K : PySem.W.Frag) (C : Addr) : Sp := fun vs H Q E => ∃ (x : V) (part : Str) (b : Bool), vs = [x, .str part] ∧ IsI K H x b ∧
  ((b && inB (some 0) none x) = true → Q .non H) ∧ ((b && inB (some 0) none x) = false → RaisesP C part E H)
/-- where nothing is raised the promise holds among calm ones -/
theorem calm_of {P : Program} {w : World} {K : PySem.W.Frag} {mg : Str → Option Value} {base : Heap} {k : Nat} {f : Addr} {fd : FuncData} {ps : List Str} {sp : Sp} (F : FnOk P w K mg base (L2.CX P w) k f fd ps sp) :
    FnOk P w K mg base CX0 k f fd ps (fun vs H Q _ => sp vs H Q fun _ _ _ => False) :=
  ⟨fun vs H Q E h => F.len vs H Q _ h, fun A outer s H args us vs Q E hr he hb hv hs => codeAny_mono (F.run A outer s H args us vs Q _ hr he hb hv hs) fun r s' hq => by
    cases r with
    | error e =>
      obtain ⟨_, _, _, _, _, _, _, _, _, _, _, _, z⟩ := hq
      exact z.elim
    | ok fl => cases fl <;> exact hq⟩
theorem iteB {b : Bool} {A B : Prop} (h1 : b = true → A) (h2 : b = false → B) : if b = true then A else B := by
  cases b with
  | true => exact iteT (h1 rfl)
  | false => exact iteF (h2 rfl)
end OB
/-! Own errors with one field, raised. -/
namespace OB
open PySem PySem.Spec PyProof.Rows L2
/-- a def of the text, as it stands behind the top -/
structure Df (K : PySem.W.Frag) (mg : Str → Option Value) (x : Str) (st : Stmt) (ps : List Str) (f : Addr) (fd : FuncData) : Prop where
  F : Fun K x x st f fd
  g : mg x = some (.ref f)
  b : Binds K fd ps []
/-- __init__(self, f): self.f = f of an own error -/
def spInit1 (K : PySem.W.Frag) (f : Str) : Sp := fun vs H Q _ => ∃ (a C : Addr) (v : V), vs = [.ref a, v] ∧ OexC K C ∧ PySem.W.findIn K (.ref C) f = some none ∧ H a = some (exo a C none) ∧
  ∀ dx, H dx = none → dx ≠ a → Q .non (upd (upd H dx (exd dx [(f, v)])) a (exo a C (some dx)))
section
variable {P : Program} {w : World} {K : PySem.W.Frag} {mg : Str → Option Value} {base : Heap}
theorem ok_init1 {qual : Str} {st : Stmt} {fI : Addr} {fd : FuncData} {f : Str} {p1 p2 p3 p4 : Pos} (F : Fun K "__init__" qual st fI fd) (S : FnScope ["self", f] ["self", f] (defScope st))
    (hb : defBody st = [.Assign [.Attribute (.Name "self" p1) f p2] (.Name f p3) p4])
    (hv : Vis (defScope st) f) (hs : Vis (defScope st) "self") (hd : (f == ("__debug__" : Str)) = false := by decide) (hcd : (f == ("__classdict__" : Str)) = false := by decide)
    (hsw : ∀ env : Env, swapsWith (.Name f p3) (some (.Attribute (.Name "self" p1) f p2)) p4.line env = pure false := by intro _; rfl) :
    FnOk P w K mg base CX0 1 fI fd ["self", f] (spInit1 K f) := by
  refine F.ok S (fun vs H Q E h => ?_) (fun cdv A outer s H vs Q E hr h => ?_)
  · obtain ⟨a, C, v, rfl, _⟩ := h
    rfl
  · obtain ⟨a, C, v, rfl, T, no, ha, k⟩ := h
    rw [hb]
    refine ⟨_, pss_one (ps_ost (pe_var (i := 0) rfl hs) (pe_var (i := 1) rfl hv hd hcd) (hsw _)), ?_⟩
    exact ⟨v, rfl, .ref a, rfl, a, C, rfl, T, no, .inl ⟨ha, fun dx n ne => k dx n ne⟩⟩
/-- an own error class with one field, as the top leaves it -/
structure Err (P : Program) (w : World) (K : PySem.W.Frag) (mg : Str → Option Value) (base : Heap) (x f : Str) (C fI : Addr) (fd : FuncData) : Prop where
  T : OexC K C
  iC : PySem.W.findIn K (.ref C) "__init__" = some (some (.ref fI))
  tI : PySem.W.typeIn K (.ref fI) = some (.type "function")
  F : FnOk P w K mg base CX0 1 fI fd ["self", f] (spInit1 K f)
  b : Binds K fd ["self", f] []
  g : mg x = some (.ref C)
  no : PySem.W.findIn K (.ref C) f = some none
theorem del_back {H : Hp} {a d : Addr} {o1 o2 o3 o4 : HO} (ha : H a = none) (n : d ≠ a) : upd (del (upd (upd (upd H a o1) d o2) a o3) a) d o4 = upd H d o4 := by
  funext b
  by_cases e : b = d
  · rw [e, upd_same, upd_same]
  · rw [upd_ne e, upd_ne e]
    by_cases e2 : b = a
    · rw [e2, del_same, ha]
    · rw [del_ne e2, upd_ne e2, upd_ne e, upd_ne e2]
end
/-- raise X(e) -/
def tRaise1 (K : PySem.W.Frag) (C : Addr) (f : Str) (W : WX) (te : TE) : TS := fun _ σ H => tMkO C (spInit1 K f) [] (tCons te tNil) σ H fun cls d H' => W cls d σ H'
theorem raise1_of {K : PySem.W.Frag} {C : Addr} {f : Str} {W : WX} {σ : L2.St} {H1 : Hp} {v : V} (T : OexC K C) (no : PySem.W.findIn K (.ref C) f = some none) (h : ∀ d, H1 d = none → W (.ref C) (some d) σ (upd H1 d (.xd [(f, v)]))) :
    tNil σ H1 fun xs H2 => (v :: xs).length ≤ 1000 ∧ ∀ a, H2 a = none → spInit1 K f (.ref a :: ((v :: xs) ++ [])) (upd H2 a (exo a C none))
      (fun u H3 => u = .non ∧ ∃ (d : Addr) (fs : List (Str × V)), H3 a = some (exo a C (some d)) ∧ H3 d = some (exd d fs) ∧ H2 d = none ∧ W (.ref C) (some d) σ (upd (del H3 a) d (.xd fs))) (fun _ _ _ => False) := by
  refine ⟨by show 1 ≤ 1000; decide, fun a ha => ⟨a, C, v, rfl, T, no, upd_same, fun dx nd ne => ?_⟩⟩
  rw [upd_ne ne] at nd
  refine ⟨rfl, dx, [(f, v)], upd_same, ?_, nd, ?_⟩
  · rw [upd_ne ne, upd_same]
  · rw [del_back ha ne]
    exact h dx nd
theorem ps_raise1 {X : Cx} {W : WX} {x f : Str} {C fI : Addr} {fd : FuncData} {e : Expr} {te : TE} {p p2 pos : Pos} (hc : X.calm = true) (tk : Takes X W) (R : Err X.prog X.w X.K X.mg X.base x f C fI fd) (hr : Room 2 X.A) (hg : Gl X x) (he : PE X e te)
    (hx : Passes CX0 X (fun _ _ _ => False) := by exact pass0) (hs : starEach [e] X.env = [(false, eval e X.env)] := by rfl) (hdb : (x == ("__debug__" : Str)) = false := by decide) :
    PS X (.Raise (some (.Call (.Name x p) [e] [] p2)) none pos) (tRaise1 X.K C f W te) :=
  ps_raise (pos := pos) hc tk (pmk_oex (p := p) (pos := p2) R.T R.iC R.tI R.F hr R.b .nil hx hg R.g (pa_cons he pa_nil hs) hdb hs)
section
variable {X : Cx}
/-- 1 << k -/
theorem op_oneN : OpR X (binaryOp .LShift) (fun x y H Q => ∃ k : Nat, x = .int 1 ∧ y = .int (k : Int) ∧ k ≤ 1000000 ∧ Q (.int ((2 ^ k : Nat) : Int)) H) := by
  intro pins s σ H x y v u Q I rx ry h
  obtain ⟨k, rfl, rfl, c, q⟩ := h
  refine op_shl pins s σ H _ _ v u Q I rx ry ⟨_, _, rfl, rfl, ⟨Int.natCast_nonneg _, by omega, by decide⟩, ?_⟩
  have e : (1 : Int) * 2 ^ ((k : Int)).toNat = ((2 ^ k : Nat) : Int) := by
    rw [Int.one_mul, Int.toNat_natCast, Int.natCast_pow]
    rfl
  show Q (.int ((1 : Int) * 2 ^ ((k : Int)).toNat)) H
  rw [e]
  exact q
end
theorem pow_lt9 {i : Nat} (h : i ≤ 8000) : ((2 ^ i : Nat) : Int).natAbs < 2 ^ 9000 := by
  rw [Int.natAbs_natCast]
  exact Nat.pow_lt_pow_right (by decide) (by omega)
section
variable {X : Cx} {CX : CXT} {k : Nat} {f : Addr} {fd : FuncData} {ps ks : List Str} {sp : Sp} {E : XK} {x : Str} {p pos : Pos} {kws : List Keyword} {tk : TA} {g : List Value → List Value → List Value} {gV : List V → List V → List V}
/-- f(k = v, ..): keywords alone -/
theorem pe_callKo (F : FnOk X.prog X.w X.K X.mg X.base CX k f fd ps sp) (hr : Room k X.A) (hg : Gl X x) (hm : X.mg x = some (.ref f)) (hk : PySem.W.keepIn X.K (.ref f) = true) (hb : KBinds X.K fd ps ks g gV) (hx : Passes CX X E)
    (hkw : PK X kws tk) (hall : (backToKw pos (keywordEach kws X.env)).all (·.1.isSome) = true := by rfl) (hks : (backToKw pos (keywordEach kws X.env)).filterMap (·.1) = ks := by rfl)
    (hdb : (x == ("__debug__" : Str)) = false := by decide)
    (hpl : ((backTo pos (starEach [] X.env)).any (·.1) || (backToKw pos (keywordEach kws X.env)).any (·.1.isNone)) = false := by rfl) :
    PE X (.Call (.Name x p) [] kws pos) (tCallK sp gV E tNil tk) := by
  refine ⟨fun pins s σ H Q I h => ?_⟩
  refine wpAny_Call_Name_kw (ld_glob I hg hm ?_ hdb)
  refine PySem.W.callWith_KW0 (h₀ := X.base) I.ok.mod.kin hk hall ?_ hpl
  refine thn (hkw.run pos pins s σ H _ I h) fun ws s2 ⟨zs, H2, I2, rz, q2⟩ => ⟨I2.kIn, ?_⟩
  rw [hks]
  exact run_fnk (us := []) F hr hb hx I2 .nil rz q2
end
/-- how the keywords of a def without defaults bind -/
theorem kbinds {K : PySem.W.Frag} {x qual : Str} {st : Stmt} {f : Addr} {fd : FuncData} {ps ks : List Str} {g : List Value → List Value → List Value} {gV : List V → List V → List V} (F : Fun K x qual st f fd)
    (h : ∀ (kV doc pm : Value) (an : Option Addr) (cdv ct : Value) (us ws : List Value), (g us ws).length = ps.length → bindArgs (PySem.W.fnOf x qual (defArgs st) (defBody st) (defScope st) .none kV doc pm an cdv ct) ⟨us, ks.zip ws⟩ = pure (ps.zip (g us ws)))
    (r : ∀ {vs : List V} {us : List Value} {zs : List V} {ws : List Value}, Vals vs us → Vals zs ws → Vals (gV vs zs) (g us ws)) : KBinds K fd ps ks g gV := by
  obtain ⟨oc, od, kV, doc, pm, an, cdv, ct, osl, rfl, lk, hcd⟩ := F.ex
  exact ⟨fun s us ws _ hl => .of_eq (h kV doc pm an cdv ct us ws hl), r⟩
theorem inB_nat (m : Nat) : inB (some 0) none (.int (m : Int)) = true := by
  show (decide ((0 : Int) ≤ (m : Int)) && true) = true
  rw [decide_eq_true (Int.natCast_nonneg m)]
  rfl
/-- isinstance asks by the table of classes -/
theorem kit_sub {K : PySem.W.Frag} {t : Value} {C : Addr} {b : Bool} (h1 : PySem.W.isClsIn K C = true) (h2 : PySem.W.typeIn K (.ref C) = some (.type "type")) (self : PySem.W.subIn K (.ref C) (.ref C) = some true) (h : PySem.W.subIn K t (.ref C) = some b) :
    PySem.W.kitOne K t (.ref C) = some b := by
  unfold PySem.W.kitOne
  by_cases e : (t == Value.ref C) = true
  · rw [if_pos e]
    have e2 : t = Value.ref C := beq_iff_eq.mp e
    subst e2
    rw [self] at h
    exact h
  · rw [if_neg e]
    have h1' : (PySem.W.clsIn K C).isSome = true := h1
    show (if ((PySem.W.clsIn K C).isSome && PySem.W.typeIn K (.ref C) == some (.type "type")) = true then PySem.W.subIn K t (.ref C) else none) = some b
    rw [h1', h2]
    exact h
end OB
/-! len(set(x)) of a list or a tuple of ints, doubles among them. -/
namespace OB
open PySem PySem.Spec PyProof.Rows L2
theorem sub_len {α : Type} [DecidableEq α] : ∀ {l1 l2 : List α}, l1.Nodup → (∀ x ∈ l1, x ∈ l2) → l1.length ≤ l2.length
  | [], l2, _, _ => Nat.zero_le _
  | a :: r, l2, h, s => by
    have h2 := List.nodup_cons.mp h
    have ha : a ∈ l2 := s a List.mem_cons_self
    have ih := sub_len (l1 := r) (l2 := l2.erase a) h2.2 fun x hx => by
      have ne : x ≠ a := fun z => h2.1 (z ▸ hx)
      exact (List.mem_erase_of_ne ne).mpr (s x (List.mem_cons_of_mem _ hx))
    rw [List.length_erase_of_mem ha] at ih
    have pos : 0 < l2.length := List.length_pos_of_mem ha
    rw [List.length_cons]
    omega
theorem nodup_of_sub {α : Type} [DecidableEq α] : ∀ {l1 l2 : List α}, l1.Nodup → (∀ x ∈ l1, x ∈ l2) → l2.length ≤ l1.length → l2.Nodup
  | [], l2, _, _, hl => by
    have e : l2 = [] := List.length_eq_zero_iff.mp (Nat.le_zero.mp hl)
    rw [e]
    exact List.nodup_nil
  | a :: r, l2, h, s, hl => by
    have h2 := List.nodup_cons.mp h
    have ha : a ∈ l2 := s a List.mem_cons_self
    have hs : ∀ x ∈ r, x ∈ l2.erase a := fun x hx => by
      have ne : x ≠ a := fun z => h2.1 (z ▸ hx)
      exact (List.mem_erase_of_ne ne).mpr (s x (List.mem_cons_of_mem _ hx))
    have le := List.length_erase_of_mem ha
    have pos : 0 < l2.length := List.length_pos_of_mem ha
    rw [List.length_cons] at hl
    have ih := nodup_of_sub (l1 := r) (l2 := l2.erase a) h2.2 hs (by omega)
    have na : a ∉ l2.erase a := fun z => by
      have q := sub_len (l1 := a :: r) (l2 := l2.erase a) h fun x hx => by
        rcases List.mem_cons.mp hx with e | e
        · rw [e]
          exact z
        · exact hs x e
      rw [List.length_cons] at q
      omega
    exact ((List.perm_cons_erase ha).nodup_iff).mpr (List.nodup_cons.mpr ⟨na, ih⟩)
theorem same_len {α : Type} [DecidableEq α] {l1 l2 : List α} (h : l1.Nodup) (s : ∀ x, x ∈ l1 ↔ x ∈ l2) : l1.length ≤ l2.length ∧ (l1.length = l2.length ↔ l2.Nodup) := by
  have a := sub_len h fun x hx => (s x).mp hx
  refine ⟨a, fun e => nodup_of_sub h (fun x hx => (s x).mp hx) (by omega), fun e => ?_⟩
  have b := sub_len e fun x hx => (s x).mpr hx
  omega
theorem fm_nodup (val : Nat → Int) : ∀ i, (PyProof.Rows.firstMet val i).Nodup
  | 0 => List.nodup_nil
  | i + 1 => by
    rw [PyProof.Rows.firstMet_succ]
    have ih := fm_nodup val i
    show (if (PyProof.Rows.firstMet val i).any (· == val i) then PyProof.Rows.firstMet val i else PyProof.Rows.firstMet val i ++ [val i]).Nodup
    split
    · exact ih
    · rename_i h
      refine List.nodup_append.mpr ⟨ih, List.nodup_cons.mpr ⟨List.not_mem_nil, List.nodup_nil⟩, fun x hx y hy e => h ?_⟩
      rw [List.mem_singleton] at hy
      subst hy
      exact List.any_eq_true.mpr ⟨x, hx, by rw [e]; exact beq_self_eq_true _⟩
theorem fm_mem (ns : List Int) (x : Int) : x ∈ PyProof.Rows.firstMet (fun i => ns.getD i 0) ns.length ↔ x ∈ ns := by
  have e := PyProof.Rows.firstMet_any (fun i => ns.getD i 0) ns.length x
  have e2 : (List.range ns.length).map (fun i => ns.getD i 0) = ns := by
    apply List.ext_getElem
    · simp
    · intro i h1 h2
      simp [List.getD_eq_getElem?_getD, h2]
  rw [e2] at e
  have m : ∀ l : List Int, (l.any (· == x)) = true ↔ x ∈ l := fun l => by
    rw [List.any_eq_true]
    exact ⟨fun ⟨y, hy, ey⟩ => (eq_of_beq ey) ▸ hy, fun h => ⟨x, h, beq_self_eq_true _⟩⟩
  rw [← m, ← m, e]
/-- how many unlike ints -/
def tLenSet (K : PySem.W.Frag) (ta : TE) : TE := fun σ H Q => ta σ H fun x H1 => ∃ (p : Addr) (ns : List Int), x = .ref p ∧ (SqL K H1 p (ns.map V.int) ∨ SqT K H1 p (ns.map V.int)) ∧ ns.length ≤ 1100 ∧
  ∀ c : Nat, c ≤ ns.length → (c = ns.length ↔ ns.Nodup) → Q (.int (c : Nat)) H1
theorem pe_lenSet2 {X : Cx} {a : Expr} {ta : TE} {p p2 q pos : Pos} (hg : Gl X "len") (hm : X.mg "len" = none) (hg2 : Gl X "set") (hm2 : X.mg "set" = none) (ha : PE X a ta) (hc : X.calm = true := by rfl)
    (na : starEach [a] X.env = (false, eval a X.env) :: starEach [] X.env := by rfl) : PE X (.Call (.Name "len" p) [.Call (.Name "set" p2) [a] [] q] [] pos) (tLenSet X.K ta) := by
  refine ⟨fun pins s σ H Q I h => ?_⟩
  refine Call_ (ld_blt I hg hm boot_len ?_)
  refine PyProof.Rows.callWith_builtin1 (PyProof.Rows.args_cons ?_ rfl) rfl rfl
  refine Call_ (ld_blt I hg2 hm2 boot_set ?_)
  refine PyProof.Rows.callWith_type1 (PyProof.Rows.args_cons (thn (ha.run pins s σ H _ I h) fun v s1 ⟨x, H1, I1, r1, q1⟩ => PyProof.Rows.args_nil ?_) na) na rfl
  obtain ⟨l, ns, rfl, hq, hl, q1⟩ := q1
  cases r1
  rcases hq with hq | hq
  · obtain ⟨its, r, pl, hz⟩ := I1.list hq
    have hlen : its.toArray.size = ns.length := by rw [List.size_toArray, ← r.length, List.length_map]
    refine PySem.call_set_list (I1.ok.hd hc) pl.isList (ns := ns) (by simpa using RZ.intsAre_vals r) (by rw [hlen]; unfold scanBound; omega) fun h' tk hS hk => ?_
    refine PyProof.Rows.args_nil ?_
    rw [hlen] at hS
    have sl := same_len (fm_nodup (fun i => ns.getD i 0) ns.length) (fm_mem ns)
    obtain ⟨o, es, ep, t, ho, hex, hd, _, _, _, hf, hn⟩ := hS
    have I2 : Inv X pins σ H1 { s1 with heap := h', toks := tk } := I1.kept fun b o e => hk b o (Heap.lt_size e) e
    have q2 := q1 es.size (by rw [hn]; exact sl.1) (by rw [hn]; exact sl.2)
    exact call_len_set ho hex hd hf (by have := sl.1; omega) ⟨.int es.size, H1, I2.tok _, ⟨_, rfl⟩, q2⟩
  · obtain ⟨its, r, pt, hz⟩ := I1.tuple hq
    have hi : IntsAre its.toArray.toList ns := ints_of_vals r
    refine call_set_tupI ns (I1.ok.hd hc) (show s1.heap.IsTuple l its.toArray from pt) hi (by unfold scanBound; omega) fun h' tk c R1 hcn k => ?_
    refine PyProof.Rows.args_nil ?_
    obtain ⟨o, es, ep, t, ho, hex, hd, hgood, hnd, hmem, _, hf, hn, _⟩ := R1
    have I2 : Inv X pins σ H1 { s1 with heap := h', toks := tk } := I1.kept fun b o e => k b o e
    have sl := same_len (l2 := ns) hnd fun x => (by
      have z := (hmem x).symm
      simpa using z)
    rw [List.length_map, Array.length_toList] at sl
    have q2 := q1 es.size sl.1 sl.2
    exact call_len_set ho hex hd hf (by have := sl.1; omega) ⟨.int es.size, H1, I2.tok _, ⟨_, rfl⟩, q2⟩
end OB
set_option maxHeartbeats 4000000
/-! sorted(x) of a list or a tuple of ints. -/
namespace OB
open PySem PySem.Spec PyProof.Rows L2 SrtO
section
variable {prog : Program} {w : World} {A : Around} {E : Value → Shared → Prop} {s : Shared}
theorem collect_tup {l : Addr} {vs : List Value} {Q : List Value → Shared → Prop} (ht : IsTup s.heap l vs.toArray)
    (h : Q vs { s with heap := (s.heap.push (seqObj "list" #[] 0)).update s.heap.objs.size (Obj.mapSeq (· ++ vs.toArray)) }) (hz : vs.length ≤ sizeLine) :
    wpAny (model prog w) A (collect (.ref l)) Q E s := by
  obtain ⟨o, ho, hc, n, hd⟩ := id ht
  unfold collect
  refine wpAny_bind (wpAny_runValue (codeAny_builtin entry_proto_collect' ?_))
  show wpAny _ _ (do again (.builtin "list.__iadd__" ⟨[← newList [], .ref l], []⟩)) _ _ s
  refine wpAny_bind (wpAny_newList (wpAny_pure ⟨Code.quiet_builtin _ (by decide +kernel), codeAny_builtin entry_list_iadd' ?_⟩))
  show wpAny _ _ (Builtin.List.listExtendWith (.ref s.heap.objs.size) (.ref l) (.ref s.heap.objs.size)) _ _ { s with heap := s.heap.push (seqObj "list" #[] 0) }
  unfold Builtin.List.listExtendWith
  have o1 : (s.heap.push (seqObj "list" #[] 0)).get? l = some o := Heap.get?_push_of_some _ ho
  refine wpAny_bind (wpAny_typeOf (T := "tuple") ⟨o, o1, hc⟩ ?_)
  rw [if_pos (show (Builtin.List.listSameRef (Value.ref s.heap.objs.size) (Value.ref l) || Value.type "tuple" == Value.type "list" || Value.type "tuple" == Value.type "tuple") = true by
    rw [show (Value.type "tuple" == Value.type "tuple") = true from rfl, Bool.or_true])]
  refine wpAny_bind (listItems_at o1 hd (wpAny_bind (listItems_at (xs := #[]) (n := 0) (Heap.get?_push_size _ rfl) rfl ?_)))
  have room : ((#[] : Array Value) ++ vs.toArray).size ≤ sizeLine + 1 := by
    rw [Array.size_append, List.size_toArray, List.size_toArray, List.length_nil]
    omega
  rw [if_neg (show ¬ (!(#[] : Array Value).isEmpty && Builtin.List.listTooLong ((#[] : Array Value).size + vs.toArray.size)) = true from fun z => by
    have z : (false && _) = true := z
    rw [Bool.false_and] at z
    cases z)]
  refine wpAny_bind (listUpdate_at (xs := #[]) (n := 0) (Heap.get?_push_size _ rfl) rfl (wpAny_pure ?_) (Nat.zero_le _) room)
  refine wpAny_bind (wpAny_load (get?_update_seq (Heap.get?_push_size _ rfl) _) (wpAny_pure ?_))
  have e : ((#[] : Array Value) ++ vs.toArray).toList = vs := by simp
  rw [e]
  exact h
theorem sorted_tup {l : Addr} {vs : List Value} {ltv : Value → Value → Bool} {Q : Value → Shared → Prop} (O : Swo ltv) (ht : IsTup s.heap l vs.toArray) (hz : vs.length ≤ sizeLine)
    (hS : 2 ≤ vs.length → ∀ (h₁ : Heap) (a : Addr), h₁.get? a = some (seqObj "list" vs.toArray 0) → (∀ b o, s.heap.get? b = some o → b ≠ a ∧ h₁.get? b = some o) → SortableO prog w A.in1.in1 { s with heap := h₁ } a vs ltv)
    (h : ∀ out : List Value, Srtd ltv out → Stb ltv out vs → Q (.ref (s.heap.objs.size + 1)) { s with heap := sortedAll s.heap vs out.toArray }) :
    wpAny (model prog w) A (call (.builtin "sorted") [.ref l]) Q E s := by
  generalize hg : (s.heap.push (seqObj "list" #[] 0)).update s.heap.objs.size (Obj.mapSeq (· ++ vs.toArray)) = g
  have size : g.objs.size = s.heap.objs.size + 1 := by
    rw [← hg, Heap.size_update, Heap.size_push]
  have old : ∀ b o, s.heap.get? b = some o → g.get? b = some o := fun b o q => by
    rw [← hg, Heap.get?_update_ne _ _ _ _ (Nat.ne_of_lt (Heap.lt_size q))]
    exact Heap.get?_push_of_some _ q
  have new : (g.push (seqObj "list" vs.toArray 0)).get? (s.heap.objs.size + 1) = some (seqObj "list" vs.toArray 0) := by
    rw [← size]
    exact Heap.get?_push_size _ rfl
  refine Calls.call_function_entry kind_sorted plain_sorted entry_sorted (args_sorted1 _) ?_
  unfold Builtin.«sorted»
  refine wpAny_bind (m := checkCount "sorted" 1 1 _) (wpAny_pure (wpAny_bind (collect_tup ht ?_ hz)))
  rw [hg]
  refine wpAny_bind (wpAny_newList ?_ hz)
  show wpAny _ _ _ _ _ { s with heap := g.push (seqObj "list" vs.toArray 0) }
  rw [size]
  refine wpAny_bind (wpAny_holding (wpAny_call_entry slot_list_sort ⟨_, new, rfl⟩ entry_list_sort (list_sort_ord O new hz (fun h2 => hS h2 _ _ new fun b o q => ?_) fun out hs hb => ⟨_, rfl, wpAny_pure ⟨_, rfl, ?_⟩⟩) (args_list_sort _)))
  · exact ⟨Nat.ne_of_lt (Nat.lt_succ_of_lt (Heap.lt_size q)), Heap.get?_push_of_some _ (old b o q)⟩
  · rw [← hg]
    exact h out hs hb
end
section
variable {X : Cx}
def rSortedA (K : PySem.W.Frag) : List V → Hp → VK → Prop := fun vs H Q => ∃ (a : Addr) (ns : List Int), vs = [V.ref a] ∧ (SqL K H a (ns.map V.int) ∨ SqT K H a (ns.map V.int)) ∧
  ∀ (ns' : List Int) (p : Addr), ns'.Perm ns → ns'.Pairwise (· ≤ ·) → H p = none → Q (.ref p) (upd H p (.lst (ns'.map V.int)))
theorem cr_sortedA : CallR X (.builtin "sorted") (rSortedA X.K) := by
  intro pins s σ H vs us Q I r h
  obtain ⟨a, ns, rfl, hs, q⟩ := h
  rcases hs with hs | ht
  · exact cr_sortedI pins s σ H _ us Q I r ⟨a, ns, rfl, hs, q⟩
  · obtain ⟨its, rv, hl, hz⟩ := I.tuple ht
    rw [Vals.ref1 r]
    have hi := rv.ints
    refine sorted_tup swo_int hl (by rw [← rv.length]; exact hz) (fun h2 h₁ a' _ _ => ints_sortable hi h2) fun out h1 h2 => ?_
    obtain ⟨k1, k2, k3⟩ := ints_out hi h1 h2
    obtain ⟨ep, at'⟩ := PyProof.Rows.sortedAll_at s.heap its out.toArray
    have hlen : ((out.map iv).map V.int).length ≤ sizeLine := by
      rw [List.length_map] at hz ⊢
      rw [k2.length_eq]
      exact hz
    exact ⟨.ref _, upd H (s.heap.objs.size + 1) (.lst ((out.map iv).map V.int)), I.laid (t' := s.toks) (fun _ _ => PyProof.Rows.sortedAll_old) (Nat.le_succ _) ⟨hlen, out, ep, vals_of_ints k1, at'⟩, rfl, q _ _ k2 k3 (I.hok.fresh (Nat.le_succ _))⟩
end
end OB
/-! A list or a tuple: gone through, asked for its kind. -/
namespace OB
open PySem PySem.Spec PyProof.Rows L2
theorem sqL_same {K : PySem.W.Frag} {H H' : Hp} {a : Addr} {xs : List V} (h : SqL K H a xs) (s : Same H H') : SqL K H' a xs := by
  rcases h with (h | ⟨o, h⟩) | h
  · exact .inl (.inl (s _ _ h))
  · exact .inl (.inr ⟨o, s _ _ h⟩)
  · exact .inr h
theorem sqT_same {K : PySem.W.Frag} {H H' : Hp} {a : Addr} {xs : List V} (h : SqT K H a xs) (s : Same H H') : SqT K H' a xs := by
  rcases h with (h | ⟨o, h⟩) | h
  · exact .inl (.inl (s _ _ h))
  · exact .inl (.inr ⟨o, s _ _ h⟩)
  · exact .inr h
def iSeqA (K : PySem.W.Frag) (te : TE) : TI := fun σ H R => te σ H fun x H1 => ∃ a, x = .ref a ∧ (((∃ xs, SqL K H1 a xs) ∧ R (Itl K a) H1) ∨ ((∃ xs, SqT K H1 a xs) ∧ R (Itt K a) H1))
theorem pi_seqA {X : Cx} {tg e : Expr} {te : TE} (he : PE X e te) : PI X tg e (iSeqA X.K te) := by
  refine ⟨fun pins s σ H R I h => thn (he.run pins s σ H _ I h) fun v s1 ⟨x, H1, I1, r1, a, ex, q⟩ => ?_⟩
  subst ex
  cases r1
  rcases q with ⟨⟨xs, hq⟩, q⟩ | ⟨⟨xs, hq⟩, q⟩
  · obtain ⟨its, rv, p, hz⟩ := I1.list hq
    exact wpAny_pyIter_list p.isList (pi_one (tk := s1.toks) I1 _ (turn_list a _) ⟨_, Heap.get?_push_size _ rfl, rfl, rfl⟩ q)
  · obtain ⟨its, rv, p, hz⟩ := I1.tuple hq
    exact wpAny_pyIter_tuple (show s1.heap.IsTuple a its.toArray from p) (pi_one (tk := s1.toks) I1 _ (turn_tuple a _) ⟨_, Heap.get?_push_size _ rfl, rfl, rfl⟩ q)
/-- a row over it, a list or a tuple: Pv by the new list, the turn and the heap -/
theorem lc_seqA {K : PySem.W.Frag} {a : Addr} {xs : List V} {g : TG} {tt : TT} {te : TE} {vs : List Nat} {σ : L2.St} {H1 : Hp} {Qd : Addr → Hp → Prop} (h : SqL K H1 a xs ∨ SqT K H1 a xs) (Pv : Addr → Nat → Hp → Prop)
    (h0 : ∀ D, H1 D = none → Pv D 0 (upd H1 D (.lst []))) (keep : ∀ D i H, H1 D = none → i ≤ xs.length → Pv D i H → Same H1 H)
    (hs : ∀ D i x H, H1 D = none → xs[i]? = some x → Pv D i H → g x (wipe σ vs) H fun σ2 H2 => wipe σ2 vs = wipe σ vs ∧ tt σ2 H2 fun b H3 =>
      if b = true then te σ2 H3 fun y H4 => ∃ acc, H4 D = some (.lst acc) ∧ acc.length < sizeLine ∧ Pv D (i + 1) (upd H4 D (.lst (acc ++ [y]))) else Pv D (i + 1) H3) (hd : ∀ D H, H1 D = none → Pv D xs.length H → Qd D H) :
    ((∃ ys, SqL K H1 a ys) ∧ ∀ D, H1 D = none → ∃ W : Nat → Nat → Hp → Prop, (∃ m, W 0 m (upd H1 D (.lst []))) ∧ ∀ i m H, W i m H →
      ((Itl K a).stop i H ∧ Qd D H) ∨ ((Itl K a).go i H ∧ ∃ Nx : Hp → Prop, (∀ H', Nx H' → ∃ m', m' < m ∧ W (i + 1) m' H') ∧ ∀ x H', (Itl K a).yld i H x H' → g x (wipe σ vs) H' fun σ2 H2 => wipe σ2 vs = wipe σ vs ∧ tt σ2 H2 fun b H3 =>
        if b = true then te σ2 H3 fun y H4 => ∃ acc, H4 D = some (.lst acc) ∧ acc.length < sizeLine ∧ Nx (upd H4 D (.lst (acc ++ [y]))) else Nx H3)) ∨
    ((∃ ys, SqT K H1 a ys) ∧ ∀ D, H1 D = none → ∃ W : Nat → Nat → Hp → Prop, (∃ m, W 0 m (upd H1 D (.lst []))) ∧ ∀ i m H, W i m H →
      ((Itt K a).stop i H ∧ Qd D H) ∨ ((Itt K a).go i H ∧ ∃ Nx : Hp → Prop, (∀ H', Nx H' → ∃ m', m' < m ∧ W (i + 1) m' H') ∧ ∀ x H', (Itt K a).yld i H x H' → g x (wipe σ vs) H' fun σ2 H2 => wipe σ2 vs = wipe σ vs ∧ tt σ2 H2 fun b H3 =>
        if b = true then te σ2 H3 fun y H4 => ∃ acc, H4 D = some (.lst acc) ∧ acc.length < sizeLine ∧ Nx (upd H4 D (.lst (acc ++ [y]))) else Nx H3)) := by
  rcases h with h | h
  · exact .inl ⟨⟨xs, h⟩, fun D hD => lc_list (Pv D) (h0 D hD) (fun i H hi p => sqL_same h (keep D i H hD hi p)) (fun i x H hx p => hs D i x H hD hx p) fun H p => hd D H hD p⟩
  · exact .inr ⟨⟨xs, h⟩, fun D hD => lc_tup (Pv D) (h0 D hD) (fun i H hi p => sqT_same h (keep D i H hD hi p)) (fun i x H hx p => hs D i x H hD hx p) fun H p => hd D H hD p⟩
/-- whether a value is a list or a tuple -/
def IsL (K : PySem.W.Frag) (H : Hp) (x : V) (b : Bool) : Prop := ∃ (n : String) (b1 b2 : Bool), TyX K H x (.type n) ∧ kitB n "list" = some b1 ∧ kitB n "tuple" = some b2 ∧ b = (b1 || b2)
theorem isL_any {K : PySem.W.Frag} {H : Hp} {x : V} {b : Bool} (h : IsL K H x b) : ∃ t, TyX K H x t ∧ PySem.W.kitAny K t [.type "list", .type "tuple"] = some b := by
  obtain ⟨n, b1, b2, ty, e1, e2, rfl⟩ := h
  refine ⟨_, ty, kitAny_cons (kit_ty e1) (fun z => kitAny_cons (kit_ty e2) (fun z2 => ?_) fun z2 => ?_) fun z => ?_⟩
  · rw [z, z2]
    exact kitAny_nil
  · rw [z, z2]
    rfl
  · rw [z]
    rfl
section
variable {K : PySem.W.Frag} {H : Hp}
theorem isL_int (i : Int) : IsL K H (.int i) false := ⟨"int", false, false, .base (.int i), by decide +kernel, by decide +kernel, rfl⟩
theorem isL_non : IsL K H .non false := ⟨"NoneType", false, false, .base .non, by decide +kernel, by decide +kernel, rfl⟩
theorem isL_bl (b : Bool) : IsL K H (.bl b) false := ⟨"bool", false, false, .base (.bl b), by decide +kernel, by decide +kernel, rfl⟩
theorem isL_str (x : Str) : IsL K H (.str x) false := ⟨"str", false, false, .base (.str x), by decide +kernel, by decide +kernel, rfl⟩
theorem isL_dK {a : Addr} {kvs : List (Key × V)} (e : H a = some (.dK kvs)) : IsL K H (.ref a) false := ⟨"dict", false, false, .base (.dK e), by decide +kernel, by decide +kernel, rfl⟩
theorem isL_lst {a : Addr} {xs : List V} (e : H a = some (.lst xs)) : IsL K H (.ref a) true := ⟨"list", true, false, .base (.lst e), by decide +kernel, by decide +kernel, rfl⟩
theorem isL_tup {a : Addr} {xs : List V} (e : H a = some (.tup xs)) : IsL K H (.ref a) true := ⟨"tuple", false, true, .base (.tup e), by decide +kernel, by decide +kernel, rfl⟩
end
end OB
/-! Promises of defs where it is known that no repr is under way: there repr of a list or a tuple is its text. -/
namespace OB
open PySem PySem.Spec PyProof.Rows L2 LamX
/-- what FnOk promises, asked only where no repr is under way -/
structure FnG (P : Program) (w : World) (K : PySem.W.Frag) (mg : Str → Option Value) (base : Heap) (CX : CXT) (k : Nat) (f : Addr) (fd : FuncData) (ps : List Str) (sp : Sp) : Prop where
  len : ∀ vs H Q E, sp vs H Q E → vs.length = ps.length
  run : ∀ (A : Around) (outer : List Env) (s : Shared) (H : Hp) (args : Args) (us : List Value) (vs : List V) (Q : VK) (E : XK), A.guards = some [] → Room k A → Env0 P w K mg base A outer s H → BindsTo s fd args (ps.zip us) → Vals vs us → sp vs H Q E →
    codeAny (model P w) A (.call (.ref f) args) (CR CX outer P w H s Q E) s
section
variable {P : Program} {w : World} {K : PySem.W.Frag} {mg : Str → Option Value} {base : Heap} {CX : CXT} {k : Nat} {f : Addr} {fd : FuncData} {ps : List Str} {sp : Sp}
theorem FnG.of (F : FnOk P w K mg base CX k f fd ps sp) : FnG P w K mg base CX k f fd ps sp := ⟨F.len, fun A outer s H args us vs Q E _ => F.run A outer s H args us vs Q E⟩
theorem fnG_of {name qual : Str} {params : Arguments} {body : List Stmt} {scope : Scope} {dV kV doc pm cdv ct oc : Value} {an od : Option Addr} {osl : Array (Option Value)} {N : List Str}
    (lk : K.lookup f = some ⟨oc, od, .func (PySem.W.fnOf name qual params body scope dV kV doc pm an cdv ct), osl⟩) (hcd : PySem.W.codeIn K cdv qual = true) (S : FnScope N ps scope) (len : ∀ vs H Q E, sp vs H Q E → vs.length = ps.length)
    (hbody : ∀ (A : Around) (outer : List Env) (s : Shared) (H : Hp) (vs : List V) (Q : VK) (E : XK), A.guards = some [] → Room k (A.deeper (envOfC qual scope s.heap.objs.size f cdv)) → sp vs H Q E →
      ∃ t, PSs (cxOf CX P w K mg base N qual scope f cdv A outer s H E) body t ∧ t { nx := fun _ H' => Q .non H', rt := Q } (L2.start N vs) H) :
    FnG P w K mg base CX (k + 1) f (PySem.W.fnOf name qual params body scope dV kV doc pm an cdv ct) ps sp :=
  ⟨len, fun A outer s H args us vs Q E hgd hr e0 hb r hsp => run_ofS lk hcd S hr e0 hb r (len _ _ _ _ hsp) fun hr' => hbody A outer s H vs Q E hgd hr' hsp⟩
theorem okG {x qual : Str} {st : Stmt} {N : List Str} (F : Fun K x qual st f fd) (S : FnScope N ps (defScope st)) (len : ∀ vs H Q E, sp vs H Q E → vs.length = ps.length)
    (hbody : ∀ (cdv : Value) (A : Around) (outer : List Env) (s : Shared) (H : Hp) (vs : List V) (Q : VK) (E : XK), A.guards = some [] → Room k (A.deeper (envOfC qual (defScope st) s.heap.objs.size f cdv)) → sp vs H Q E →
      ∃ t, PSs (cxOf CX0 P w K mg base N qual (defScope st) f cdv A outer s H E).nox (defBody st) t ∧ t { nx := fun _ H' => Q .non H', rt := Q } (L2.start N vs) H) : FnG P w K mg base CX0 (k + 1) f fd ps sp := by
  obtain ⟨oc, od, kV, doc, pm, an, cdv, ct, osl, rfl, lk, hcd⟩ := F.ex
  refine fnG_of lk hcd S len fun A outer s H vs Q E hgd hr hsp => ?_
  obtain ⟨t, h, q⟩ := hbody cdv A outer s H vs Q E hgd hr hsp
  exact ⟨t, h.nox, q⟩
end
section
variable {X : Cx} {CX : CXT} {k : Nat} {f : Addr} {fd : FuncData} {ps : List Str} {sp : Sp} {E : XK} {x : Str} {p pos : Pos} {e : Expr} {es : List Expr} {t : TA} {ds : List Value} {dvs : List V}
theorem run_fnG {pins : List (Addr × Obj)} {σ : L2.St} {H : Hp} {s : Shared} {Q : VK} {us : List Value} {vs : List V} (F : FnG X.prog X.w X.K X.mg X.base CX k f fd ps sp) (hgd : X.A.guards = some []) (hr : Room k X.A) (hb : L2.Binds X.K fd ps ds) (hd : Vals dvs ds) (hx : Passes CX X E)
    (I : Inv X pins σ H s) (r : Vals vs us) (h : sp (vs ++ dvs) H Q E) : wpAny (model X.prog X.w) X.A (call (.ref f) us) (EP X pins σ Q) X.xe s := by
  have r2 : Vals (vs ++ dvs) (us ++ ds) := r.append hd
  have hl : (us ++ ds).length = ps.length := r2.length ▸ F.len _ _ _ _ h
  refine wpAny_call (codeAny_mono (F.run X.A X.stack s H ⟨us, []⟩ (us ++ ds) (vs ++ dvs) Q E hgd hr I.env0 (hb s us I.kIn hl) r2 h) fun res s' hq => ?_)
  match res, hq with
  | .error _, hq => exact hx pins σ H s _ s' I hq
  | .ok (.ret _), hq => exact I.after hq
/-- f(e, ..), f promised where no repr is under way -/
theorem pe_callG (F : FnG X.prog X.w X.K X.mg X.base CX k f fd ps sp) (hgd : X.A.guards = some []) (hr : Room k X.A) (hg : Gl X x) (hm : X.mg x = some (.ref f)) (hk : PySem.W.keepIn X.K (.ref f) = true) (hb : L2.Binds X.K fd ps ds) (hd : Vals dvs ds) (hx : Passes CX X E)
    (ha : PA X (e :: es) t) (hdb : (x == ("__debug__" : Str)) = false := by decide) (he : starEach (e :: es) X.env = (false, eval e X.env) :: starEach es X.env := by rfl) (hpl : (backTo pos (starEach es X.env)).any (·.1) = false := by rfl) :
    PE X (.Call (.Name x p) (e :: es) [] pos) (tCall sp dvs E t) :=
  ⟨fun pins s σ H Q I h => wpAny_Call_Name_kw (ld_glob I hg hm (PySem.W.callWith_K (h₀ := X.base) I.ok.mod.kin hk (thn (ha.run pos pins s σ H _ I h) fun us s1 ⟨vs, H1, I1, r, q⟩ => ⟨I1.kIn, run_fnG F hgd hr hb hd hx I1 r q⟩) he hpl) hdb)⟩
/-- repr(x), x data of lists and tuples -/
def rReprD (K : PySem.W.Frag) : List V → Hp → VK → Prop := fun xs H Q => ∃ (a : Addr) (d : PyData), xs = [.ref a] ∧ Dp K H (.ref a) d ∧ d.showable = true ∧ d.canLay0 = true ∧ d.depth ≤ 60 ∧ d.shown.length ≤ sizeLine ∧ Q (.str d.shown) H
theorem call_reprD (hgd : X.A.guards = some []) (hu : X.A.units + 64 < cLine) : CallR X (.builtin "repr") (rReprD X.K) := by
  intro pins s σ H xs us Q I r h
  obtain ⟨a, d, rfl, hd, hs, hl, hdp, hz, q⟩ := h
  cases r with
  | cons r rr =>
    cases rr
    obtain ⟨as, rd⟩ := Dp.reads I d _ _ hd r
    cases r
    refine repr_of_reads' rd hs (PyData.noDict_hsm (PyData.hasDict_of_canLay d hl)) hgd (by omega) (fun _ _ e => e) (fun h' u tk hk => ?_) hz
    exact ⟨.str d.shown, H, I.kept hk, ⟨_, rfl⟩, q⟩
end
end OB
/-! repr of a list or a tuple of ints. -/
namespace OB
open PySem PySem.Spec PyProof.Rows L2
theorem shown_ints : ∀ ns : List Int, PyData.shownAll (ns.map PyData.int) = ns.map fun n => Str.ofString (toString n)
  | [] => by simp [PyData.shownAll]
  | n :: r => by simp [PyData.shownAll, PyData.shown, shown_ints r]
theorem show_ints : ∀ ns : List Int, (∀ n ∈ ns, n.natAbs.log2 < 1920) → PyData.showableAll (ns.map PyData.int) = true
  | [], _ => by simp [PyData.showableAll]
  | n :: r, h => by
    have h1 := h n List.mem_cons_self
    have h2 := show_ints r fun x hx => h x (List.mem_cons_of_mem _ hx)
    simp [PyData.showableAll, PyData.showable, h2, h1]
theorem piled_ints : ∀ ns : List Int, (∀ n ∈ ns, n.natAbs.log2 < 1920) → piled (ns.map fun n => Str.ofString (toString n)) ≤ 1923 * ns.length
  | [], _ => Nat.zero_le _
  | n :: r, h => by
    have h1 := int_text_len_1921 (h n List.mem_cons_self)
    have h2 := piled_ints r fun x hx => h x (List.mem_cons_of_mem _ hx)
    rw [List.map_cons, piled_cons, List.length_cons]
    omega
theorem list_len (ts : List Str) : (listText ts).length ≤ piled ts + 2 := by
  have one : (("[" : String) : Str).length = 1 := rfl
  have two : (("]" : String) : Str).length = 1 := rfl
  unfold listText
  rw [strLen_append, two]
  cases ts with
  | nil =>
    show (("[" : String) : Str).length + 1 ≤ _
    rw [one]
    exact Nat.le_add_left _ _
  | cons t r =>
    show (textFrom 1 ((("[" : String) : Str) ++ t) r).length + 1 ≤ _
    rw [textFrom_length_pos r 1 _ (by decide), strLen_append, one, piled_cons]
    omega
theorem depth_ints (ns : List Int) : PyData.depthAll (ns.map PyData.int) ≤ 1 := deep_ints ns
/-- the text of a list, of a tuple of ints -/
def tl (ns : List Int) : Str := PyData.shown (.list (ns.map PyData.int))
def tt (ns : List Int) : Str := PyData.shown (.tuple (ns.map PyData.int))
theorem tl_len {ns : List Int} (h : ∀ n ∈ ns, n.natAbs.log2 < 1920) (hl : ns.length ≤ 1000) : (tl ns).length ≤ sizeLine := by
  have a := piled_ints ns h
  have b := list_len (ns.map fun n => Str.ofString (toString n))
  show (listText (PyData.shownAll (ns.map PyData.int))).length ≤ sizeLine
  rw [shown_ints, sizeLine_eq]
  omega
theorem tt_len {ns : List Int} (h : ∀ n ∈ ns, n.natAbs.log2 < 1920) (hl : ns.length ≤ 1000) : (tt ns).length ≤ sizeLine := by
  have a := piled_ints ns h
  have b := fmt_text (ns.map fun n => Str.ofString (toString n))
  show (tupleText (PyData.shownAll (ns.map PyData.int))).length ≤ sizeLine
  rw [shown_ints, sizeLine_eq]
  omega
section
variable {X : Cx}
def rReprI (K : PySem.W.Frag) : List V → Hp → VK → Prop := fun xs H Q => ∃ (a : Addr) (ns : List Int), xs = [.ref a] ∧ (∀ n ∈ ns, n.natAbs.log2 < 1920) ∧ ns.length ≤ 1000 ∧ ((SqL K H a (ns.map V.int) ∧ Q (.str (tl ns)) H) ∨ (SqT K H a (ns.map V.int) ∧ Q (.str (tt ns)) H))
theorem call_reprI (hgd : X.A.guards = some []) (hu : X.A.units + 64 < cLine) : CallR X (.builtin "repr") (rReprI X.K) := by
  intro pins s σ H xs us Q I r h
  obtain ⟨a, ns, rfl, hs, hl, q⟩ := h
  have sh := show_ints ns hs
  have d := depth_ints ns
  rcases q with ⟨hq, q⟩ | ⟨hq, q⟩
  · refine call_reprD hgd hu pins s σ H _ us Q I r ⟨a, .list (ns.map PyData.int), rfl, Dp.lst hq (dp_ints ns), by simp [PyData.showable, sh], by simp [PyData.canLay0, lay_ints], ?_, tl_len hs hl, q⟩
    show PyData.depthAll (ns.map PyData.int) + 1 ≤ 60
    omega
  · refine call_reprD hgd hu pins s σ H _ us Q I r ⟨a, .tuple (ns.map PyData.int), rfl, Dp.tup hq (dp_ints ns), by simp [PyData.showable, sh], by simp [PyData.canLay0, lay_ints], ?_, tt_len hs hl, q⟩
    show PyData.depthAll (ns.map PyData.int) + 1 ≤ 60
    omega
end
end OB
/-! What a reader of errors told, call by call, in a list that grows; things that stay meanwhile. -/
namespace OB
open PySem PySem.Spec PyProof.Rows L2 LamX
/-- a list that begins with a reference, or a table: what may change -/
def refL : HO → Bool
  | .lst (.ref _ :: _) => true
  | .tbl _ => true
  | _ => false
def Keep (H H' : Hp) : Prop := ∀ q o, H q = some o → refL o = false → H' q = some o
section
variable {H H' H1 H2 : Hp}
theorem Keep.refl : Keep H H := fun _ _ h _ => h
theorem Keep.trans (a : Keep H H1) (b : Keep H1 H2) : Keep H H2 := fun q o h n => b q o (a q o h n) n
theorem Keep.ext (e : ExtN H H') : Keep H H' := fun q o h n => e q o h fun ps z => by
  subst z
  cases n
theorem Keep.same (s : Same H H') : Keep H H' := fun q o h _ => s q o h
theorem Keep.but {p : Addr} (b : But p H H') (hp : ∃ x r, H p = some (.lst (.ref x :: r))) : Keep H H' := fun q o h n => b q o h fun z => by
  obtain ⟨x, r, hp⟩ := hp
  rw [z, hp] at h
  cases h
  cases n
theorem orch_ref {p b : Addr} {n : Nat} (o : Orch H p b n) : ∃ x r, H p = some (.lst (.ref x :: r)) := by
  obtain ⟨ns, t, l, h1, _⟩ := o
  exact ⟨_, _, h1⟩
theorem orch_extN {p b : Addr} {n : Nat} (o : Orch H p b n) (e : ExtN H H') : Orch H' p b n := by
  obtain ⟨ns, t, l, h1, h2, h3⟩ := o
  exact ⟨ns, t, l, e _ _ h1 (fun _ z => nomatch z), e _ _ h2 (fun _ z => nomatch z), h3⟩
theorem tabs_butN {T : List (Addr × Str)} {p : Addr} {xs : List V} (t : Tabs T H) (b : But p H H') (hp : H p = some (.lst xs)) : Tabs T H' := fun x hx => by
  obtain ⟨ps, h1, h2, h3⟩ := t x hx
  have n1 : x.1 ≠ p := fun z => by
    rw [z, hp] at h1
    cases h1
  refine ⟨ps, b _ _ h1 n1, h2, fun pos cv hc => ?_⟩
  obtain ⟨c, e1, e2⟩ := h3 pos cv hc
  have n2 : c ≠ p := fun z => by
    rw [z, hp] at e2
    have e2 := Option.some.inj e2
    cases e2
  exact ⟨c, e1, b _ _ e2 n2⟩
theorem tabs_orchN {T : List (Addr × Str)} {p b : Addr} {n : Nat} (t : Tabs T H) (B : But p H H') (o : Orch H p b n) : Tabs T H' := by
  obtain ⟨ns, x, y, hp, _⟩ := o
  exact tabs_butN t B hp
/-- things that stay -/
def Fix (A : List (Addr × HO)) (H : Hp) : Prop := ∀ a ∈ A, H a.1 = some a.2 ∧ refL a.2 = false
theorem Fix.nil : Fix [] H := fun a h => absurd h List.not_mem_nil
theorem Fix.cons {A : List (Addr × HO)} {a : Addr} {o : HO} (h : H a = some o) (n : refL o = false) (f : Fix A H) : Fix ((a, o) :: A) H := fun x hx => by
  rcases List.mem_cons.mp hx with e | e
  · rw [e]
    exact ⟨h, n⟩
  · exact f x e
theorem Fix.keep {A : List (Addr × HO)} (f : Fix A H) (k : Keep H H') : Fix A H' := fun a ha => ⟨k _ _ (f a ha).1 (f a ha).2, (f a ha).2⟩
theorem Fix.get {A : List (Addr × HO)} (f : Fix A H) {a : Addr} {o : HO} (h : (a, o) ∈ A) : H a = some o := (f _ h).1
theorem Fix.app {A B : List (Addr × HO)} (f : Fix A H) (g : Fix B H) : Fix (A ++ B) H := fun a ha => by
  rcases List.mem_append.mp ha with e | e
  · exact f a e
  · exact g a e
/-- what the reader told: a kind and a part, or None -/
def Ent (H : Hp) (v : V) : Option (Str × Str) → Prop
  | none => v = .non
  | some k => ∃ t, v = .ref t ∧ H t = some (.tup [.str k.1, .str k.2])
def Res (H : Hp) : List V → List (Option (Str × Str)) → Prop
  | [], [] => True
  | v :: r, k :: ks => Ent H v k ∧ Res H r ks
  | _, _ => False
theorem Ent.keep {v : V} {k : Option (Str × Str)} (e : Ent H v k) (q : Keep H H') : Ent H' v k := by
  cases k with
  | none => exact e
  | some k =>
    obtain ⟨t, rfl, h⟩ := e
    exact ⟨t, rfl, q _ _ h rfl⟩
theorem Res.keep (q : Keep H H') : ∀ {vs : List V} {ks : List (Option (Str × Str))}, Res H vs ks → Res H' vs ks
  | [], [], _ => trivial
  | _ :: _, _ :: _, ⟨a, b⟩ => ⟨a.keep q, Res.keep q b⟩
theorem Res.snoc {v : V} {k : Option (Str × Str)} (e : Ent H v k) : ∀ {vs : List V} {ks : List (Option (Str × Str))}, Res H vs ks → Res H (vs ++ [v]) (ks ++ [k])
  | [], [], _ => ⟨e, trivial⟩
  | _ :: _, _ :: _, ⟨a, b⟩ => ⟨a, Res.snoc e b⟩
theorem Res.length : ∀ {vs : List V} {ks : List (Option (Str × Str))}, Res H vs ks → vs.length = ks.length
  | [], [], _ => rfl
  | _ :: _, _ :: _, ⟨_, b⟩ => congrArg (· + 1) (Res.length b)
def entD : Option (Str × Str) → PyData
  | none => .none
  | some k => .tuple [.str k.1, .str k.2]
theorem Ent.dp {K : PySem.W.Frag} {v : V} {k : Option (Str × Str)} (e : Ent H v k) : Dp K H v (entD k) := by
  cases k with
  | none =>
    have e : v = .non := e
    rw [e]
    exact .non
  | some k =>
    obtain ⟨t, rfl, h⟩ := e
    exact Dp.tup (SqT.of h) (.cons (.str _) (.cons (.str _) .nil))
theorem Res.dp {K : PySem.W.Frag} : ∀ {vs : List V} {ks : List (Option (Str × Str))}, Res H vs ks → DpAll K H vs (ks.map entD)
  | [], [], _ => .nil
  | _ :: _, _ :: _, ⟨a, b⟩ => .cons a.dp (Res.dp b)
/-- between two calls of the reader -/
structure St (T : List (Addr × Str)) (p b h : Addr) (A : List (Addr × HO)) (n : Nat) (H : Hp) (vs : List V) (ks : List (Option (Str × Str))) : Prop where
  tabs : Tabs T H
  orch : Orch H p b n
  at' : H h = some (.lst vs)
  hp : h ≠ p
  hb : h ≠ b
  fix : Fix A H
  res : Res H vs ks
  first : ∃ x r, vs = .ref x :: r
variable {T : List (Addr × Str)} {p b h : Addr} {A : List (Addr × HO)} {n m : Nat} {vs : List V} {ks : List (Option (Str × Str))}
theorem St.ext (s : St T p b h A n H vs ks) (e : ExtN H H') (t : Tabs T H') : St T p b h A n H' vs ks :=
  ⟨t, orch_extN s.orch e, e _ _ s.at' (fun _ z => nomatch z), s.hp, s.hb, s.fix.keep (.ext e), s.res.keep (.ext e), s.first⟩
theorem St.but (s : St T p b h A n H vs ks) (B : But p H H') (O : Orch H' p b m) : St T p b h A m H' vs ks :=
  ⟨tabs_orchN s.tabs B s.orch, O, B _ _ s.at' s.hp, s.hp, s.hb, s.fix.keep (.but B (orch_ref s.orch)), s.res.keep (.but B (orch_ref s.orch)), s.first⟩
theorem St.add {v : V} {k : Option (Str × Str)} (s : St T p b h A n H vs ks) (e : Ent H v k) : St T p b h A n (upd H h (.lst (vs ++ [v]))) (vs ++ [v]) (ks ++ [k]) := by
  obtain ⟨x, r, ev⟩ := s.first
  have B : But h H (upd H h (.lst (vs ++ [v]))) := but_at
  have kp : Keep H (upd H h (.lst (vs ++ [v]))) := .but B ⟨x, r, by rw [s.at', ev]⟩
  refine ⟨tabs_butN s.tabs B s.at', s.orch.keep (fun u hu => B _ _ hu (fun z => s.hp z.symm)) (fun u hu => B _ _ hu (fun z => s.hb z.symm)), upd_same, s.hp, s.hb, s.fix.keep kp, (s.res.keep kp).snoc (e.keep kp), x, r ++ [v], by rw [ev]; rfl⟩
theorem St.begin {t h : Addr} {k : Str × Str} (hT : Tabs T H) (O : Orch H p b n) (F : Fix A H) (e : Ent H (.ref t) (some k)) (hh : H h = none) : St T p b h A n (upd H h (.lst [.ref t])) [.ref t] [some k] := by
  have S := same_new (o := .lst [.ref t]) hh
  obtain ⟨u, hu⟩ := O.pn
  obtain ⟨u2, hu2⟩ := O.bn
  exact ⟨hT.ext S, O.same S, upd_same, (ne_of_none hu hh).symm, (ne_of_none hu2 hh).symm, F.keep (.same S), ⟨e.keep (.same S), trivial⟩, t, [], rfl⟩
end
end OB
/-! The law's own call, its promise asked only where no repr is under way. -/
namespace OB
open PySem PySem.Spec PyProof.Rows L2 LamX
section
variable {P : Program} {w : World} {K : PySem.W.Frag} {mg mb : Str → Option Value} {CX : CXT} {k : Nat} {fa a : Addr} {cs : List (Addr × Addr)} {fd : FuncData} {x : Str} {sp : Sp} {s₁ : Shared} {vs : List Value} {ns : List Int}
/-- what is tracked as the law begins: its script, where it is no part of the text's own objects, and the tables of its lambdas -/
def top (K : PySem.W.Frag) (a : Addr) (vs : List Value) (ns : List Int) (T : List Addr) : Hp := fun b =>
  if b = a then (if K.lookup a = none then some (.frz { cls := .type "list", data := .seq vs.toArray } (.lst (ns.map V.int))) else none) else if b ∈ T then some (.tbl #[]) else none
theorem top_some {T : List Addr} {b : Addr} {u : HO} (h : top K a vs ns T b = some u) :
    (b = a ∧ K.lookup a = none ∧ u = .frz { cls := .type "list", data := .seq vs.toArray } (.lst (ns.map V.int))) ∨ (b ≠ a ∧ b ∈ T ∧ u = .tbl #[]) := by
  unfold top at h
  by_cases e : b = a
  · rw [if_pos e] at h
    by_cases n : K.lookup a = none
    · rw [if_pos n] at h
      exact .inl ⟨e, n, (Option.some.inj h).symm⟩
    · rw [if_neg n] at h
      cases h
  · rw [if_neg e] at h
    by_cases m : b ∈ T
    · rw [if_pos m] at h
      exact .inr ⟨e, m, (Option.some.inj h).symm⟩
    · rw [if_neg m] at h
      cases h
theorem top_none {T : List Addr} {b : Addr} (h1 : b = a → K.lookup a ≠ none) (h2 : b ∉ T) : top K a vs ns T b = none := by
  cases e : top K a vs ns T b with
  | none => rfl
  | some u =>
    rcases top_some e with ⟨q, n, _⟩ | ⟨_, m, _⟩
    · exact absurd n (h1 q)
    · exact absurd m h2
theorem law_callG (KX : K.In s₁.heap) (hns : s₁.heap.Ns mainGlobals mg) (hb : s₁.heap.Ns builtinsNs mb) (hbb : ∀ x : Str, x ≠ "__name__" → mb x = bootBuiltins x) (hlim : s₁.heap.NoLimit) (hg : s₁.gens = #[])
    (hT : ∀ p ∈ cs, s₁.heap.get? p.2 = some { cls := .none, data := .fields #[] }) (nT : ∀ p ∈ cs, K.lookup p.2 = none) (C : ∀ p ∈ cs, PySem.W.CodeHd s₁.heap p.1 p.2)
    (hbm : ∃ (bm : Addr) (ob : Obj), mg "__builtins__" = some (.ref bm) ∧ bm ≠ builtinsNs ∧ s₁.heap.get? bm = some ob ∧ ob.cls = .type "module" ∧ ob.dict = some builtinsNs ∧ ob.data = .plain)
    (ha : s₁.heap.get? a = some { cls := .type "list", data := .seq vs.toArray }) (hi : IntsAre vs ns) (hl : ns.length ≤ sizeLine) (hr : Room k callerA)
    (F : ∀ base : Heap, K.In base → base.Ns mainGlobals mg → (∀ p ∈ cs, TabB base mg p.1 p.2) → FnG P w K mg base CX k fa fd [x] sp) (hbind : ∀ (s : Shared) (u : Value), BindsTo s fd ⟨[u], []⟩ [(x, u)])
    (hsp : ∀ H : Hp, (∀ p ∈ cs, H p.2 = some (.tbl #[])) → SqL K H a (ns.map V.int) → sp [.ref a] H (fun v _ => v = .bl true) fun _ _ _ => False)
    (hCX : ∀ H e s', CX [] H s₁ (fun _ _ _ => False) e s' → False) :
    codeAny (model P w) callerA (.call (.ref fa) ⟨[.ref a], []⟩) (fun r s' => r = .ok (.ret (.bool true)) ∧ OldK s₁.heap s'.heap ∧ s'.os = s₁.os ∧ AllBare s'.gens) s₁ := by
  have rv := vals_ints hi
  obtain ⟨T, eT⟩ : ∃ T, T = cs.map (·.2) := ⟨_, rfl⟩
  have inT : ∀ p ∈ cs, p.2 ∈ T := fun p hp => eT ▸ List.mem_map.mpr ⟨p, hp, rfl⟩
  have ofT : ∀ b ∈ T, ∃ p ∈ cs, p.2 = b := fun b h => List.mem_map.mp (eT ▸ h)
  have tab : ∀ b ∈ T, s₁.heap.get? b = some { cls := .none, data := .fields #[] } := fun b h => by
    obtain ⟨p, hp, rfl⟩ := ofT b h
    exact hT p hp
  have aT : a ∉ T := fun z => by
    have q := (tab a z).symm.trans ha
    have q := congrArg Obj.data (Option.some.inj q)
    cases q
  obtain ⟨H, eH⟩ : ∃ H, H = top K a vs ns T := ⟨_, rfl⟩
  have some_ : ∀ {b u}, H b = some u → (b = a ∧ K.lookup a = none ∧ u = .frz { cls := .type "list", data := .seq vs.toArray } (.lst (ns.map V.int))) ∨ (b ≠ a ∧ b ∈ T ∧ u = .tbl #[]) := fun h => top_some (by rw [eH] at h; exact h)
  have hH : ∀ p ∈ cs, H p.2 = some (.tbl #[]) := fun p hp => by
    have ne : p.2 ≠ a := fun z => aT (z ▸ inT p hp)
    rw [eH]
    unfold top
    rw [if_neg ne, if_pos (inT p hp)]
  have hok : HOk P w H s₁.heap := fun b u z => by
    rcases some_ z with ⟨rfl, _, rfl⟩ | ⟨_, m, rfl⟩
    · exact ⟨ha, by rw [List.length_map]; exact hl, vs, _, rv, ha⟩
    · exact tab b m
  have hS : SqL K H a (ns.map V.int) := by
    cases hk : K.lookup a with
    | none =>
      refine .inl (.inr ⟨{ cls := .type "list", data := .seq vs.toArray }, ?_⟩)
      rw [eH]
      unfold top
      rw [if_pos rfl, if_pos hk]
    | some o =>
      have e := (KX a o hk).symm.trans ha
      cases e
      exact .inr ⟨_, vs.toArray, _, hk, rfl, rfl, rfl, by rw [List.size_toArray, hi.length]; exact hl, by simpa using rv⟩
  -- what is no list and no empty table is not tracked
  have bare : ∀ {b : Addr} {o : Obj}, s₁.heap.get? b = some o → (∀ vs n, o.data ≠ .seq vs n) → o.data ≠ .fields #[] → H b = none := fun {b o} e h1 h2 => by
    cases q : H b with
    | none => rfl
    | some u =>
      rcases some_ q with ⟨rfl, _, _⟩ | ⟨_, m, _⟩
      · cases e.symm.trans ha
        exact (h1 _ _ rfl).elim
      · cases e.symm.trans (tab b m)
        exact (h2 rfl).elim
  have under : ∀ {b : Addr} {o : Obj}, s₁.heap.get? b = some o → H b = none → (hidT s₁.heap H).get? b = some o := fun e n => hidT_get e n
  have names : ∀ {b : Addr} {m : Str → Option Value}, s₁.heap.Ns b m → (hidT s₁.heap H).Ns b m := fun {b m} ⟨o, es, ep, e, d, r⟩ =>
    ⟨o, es, ep, under e (bare e (fun vs n z => by rw [d] at z; cases z) fun z => by rw [d] at z; cases z), d, r⟩
  have hKb : K.In (hidT s₁.heap H) := fun b o e => under (KX b o e) (by
    cases q : H b with
    | none => rfl
    | some u =>
      rcases some_ q with ⟨rfl, n, _⟩ | ⟨_, m, _⟩
      · rw [n] at e
        cases e
      · obtain ⟨p, hp, rfl⟩ := ofT b m
        rw [nT p hp] at e
        cases e)
  have hM : L2.Mod K mg (hidT s₁.heap H) := ⟨hKb, names hns, ⟨mb, names hb, hbb⟩, let ⟨mc, h1, h2⟩ := hlim; ⟨mc, names h1, h2⟩⟩
  have TB : ∀ p ∈ cs, TabB (hidT s₁.heap H) mg p.1 p.2 := fun p hp => by
    have hTp := hT p hp
    refine ⟨?_, ?_, fun z => ?_⟩
    · obtain ⟨o, us, file, tf, flags, tg, inF, text, tt, e1, r1, r2, r3, rest⟩ := C p hp
      exact ⟨o, us, file, tf, flags, tg, inF, text, tt, under e1 (bare e1 (fun vs n z => by rw [r2] at z; cases z) fun z => by
        rw [r2] at z
        cases z
        simp at r3), r1, r2, r3, rest⟩
    · obtain ⟨bm, ob, b1, b2, b3, b4, b5, b6⟩ := hbm
      refine ⟨bm, ob, b1, b2, fun q => ?_, fun q => ?_, under b3 (bare b3 (fun vs n z => by rw [b6] at z; cases z) fun z => by rw [b6] at z; cases z), b4, b5, b6⟩
      · obtain ⟨o, es, ep, e, hd, _⟩ := hns
        rw [q, e] at b3
        cases b3
        rw [hd] at b6
        cases b6
      · rw [q, hTp] at b3
        cases b3
        cases b6
    · obtain ⟨o, es, ep, e, hd, _⟩ := hns
      rw [z, hTp] at e
      cases e
      cases hd
  have e0 : Env0 P w K mg (hidT s₁.heap H) callerA [] s₁ H := ⟨rfl, hM, fun b o e => of_hidT e, Nat.le_of_eq (hidT_size _ _), trivial, fun b hb => absurd (show b ∈ ([] : List Addr) from hb) (by simp), hok, .of_eq hg⟩
  refine codeAny_mono ((F _ hKb (names hns) TB).run callerA [] s₁ H ⟨[.ref a], []⟩ [.ref a] [.ref a] _ _ rfl hr e0 (hbind s₁ (.ref a)) (.cons rfl .nil) (hsp H hH hS)) fun r s' h => ?_
  match r, h with
  | .error e, h => exact (hCX H e s' h).elim
  | .ok (.ret u), h =>
    obtain ⟨v, H', os, bs, un, hok', r', q⟩ := h
    have q : v = .bl true := q
    subst q
    obtain rfl : u = Value.bool true := r'
    have key : ∀ b o, b ∉ T → s₁.heap.get? b = some o → s'.heap.get? b = some o := fun b o nb e => by
      cases q : H b with
      | none => exact un.keep b o e q (by intro z; exact absurd (show b ∈ ([] : List Addr) from z) (by simp)) (by simp)
      | some u =>
        rcases some_ q with ⟨rfl, _, rfl⟩ | ⟨_, m, _⟩
        · obtain ⟨e1, _⟩ := hok b _ q
          obtain ⟨e2, _⟩ := hok' b _ (un.frzs b _ _ q)
          rw [e] at e1
          cases e1
          exact e2
        · exact absurd m nb
    have grown : ∀ p ∈ cs, ∃ more : Array Value, s'.heap.get? p.2 = some { cls := .none, data := .fields more } := fun p hp => by
      obtain ⟨more, z⟩ := un.tbls p.2 #[] (hH p hp)
      exact ⟨_, hok' p.2 _ z⟩
    refine ⟨rfl, ⟨fun b o e => ?_, fun b o e => ?_⟩, os, bs⟩
    · by_cases m : b ∈ T
      · obtain ⟨p, hp, rfl⟩ := ofT b m
        obtain ⟨more, hm⟩ := grown p hp
        rw [hT p hp] at e
        cases e
        exact .inr (.inl ⟨((C p hp).tab (hT p hp)).isCodeTable, rfl, #[], more, rfl, by rw [Array.empty_append]; exact hm⟩)
      · exact .inl (key b o m e)
    · by_cases m : b ∈ T
      · obtain ⟨p, hp, rfl⟩ := ofT b m
        obtain ⟨more, hm⟩ := grown p hp
        exact ⟨_, hm⟩
      · exact ⟨o, key b o m e⟩
/-- what is known of the law's promise at the head's heap -/
def LawG (l : PySem.W.OpenLaw) (w : World) (K : PySem.W.Frag) (CX : CXT) (k n : Nat) (x : Str) (mg : Str → Option Value) (fa : Addr) (h : Heap) : Prop :=
  ∃ (fd : FuncData) (cs : List (Addr × Addr)) (sp : Sp), ((∀ p ∈ cs, h.get? p.2 = some { cls := .none, data := .fields #[] }) ∧ (∀ p ∈ cs, K.lookup p.2 = none) ∧ (∀ p ∈ cs, PySem.W.CodeHd h p.1 p.2)) ∧ (∀ (s : Shared) (u : Value), BindsTo s fd ⟨[u], []⟩ [(x, u)]) ∧
    (∀ (H : Hp) (a : Addr) (ns : List Int), ns.length ≤ n → (∀ z ∈ ns, Builtin.Int.intBits z ≤ 1048576) → (∀ p ∈ cs, H p.2 = some (.tbl #[])) → SqL K H a (ns.map V.int) → sp [.ref a] H (fun v _ => v = .bl true) fun _ _ _ => False) ∧
    ∀ base : Heap, K.In base → base.Ns mainGlobals mg → (∀ p ∈ cs, TabB base mg p.1 p.2) → FnG l.prog w K mg base CX k fa fd [x] sp
end
theorem walk_G {l : PySem.W.OpenLaw} {n k : Nat} {q : Program} {loose : List Str} {XP : (Str → Option Value) → Heap → Prop} {YP : World → Heap → Prop} {d : DefRec} {K : Params → PySem.W.Frag} {CX : World → CXT} {x : Str}
    (hn : l.most = some n) (hn2 : n ≤ sizeLine) (hdf : d.params.defaults = []) (hr : Room k callerA) (hY : ∀ (w : World) (h : Heap), YP w h → (K w.params).In h)
    (F : ∀ (w : World) (mg : Str → Option Value) (fa : Addr) (h : Heap), YP w h → (K w.params).In h → h.Ns mainGlobals mg → mg d.name = some (.ref fa) → LawG l w (K w.params) (CX w) k n x mg fa h)
    (hCX : ∀ (w : World) (H : Hp) (s : Shared) (e : Value) (s' : Shared), CX w [] H s (fun _ _ _ => False) e s' → False) :
    PySem.W.WalkO q loose XP YP l.row.toRowW d [] (fun f vs => PySem.call f vs) := by
  refine Att.attach_callB hn hdf fun w s₀ s₁ mg mb fa o pm cd doc a vs ns G Y ho hd hcd hmg hobj hints hlen hbits hg => ?_
  have KX := hY w _ Y
  obtain ⟨fd, cs, sp, ⟨hT, nT, C⟩, hb, hsp, hF⟩ := F w mg fa _ Y KX G.T.g hmg
  exact law_callG KX G.T.g G.T.b G.T.builtins G.T.nolimit hg hT nT C G.T.bmain hobj hints (Nat.le_trans hlen hn2) hr hF hb (fun H hH hS => hsp H a ns hlen hbits hH hS) fun H e s' => hCX w H s₁ e s'
end OB
/-! Own errors with two fields, raised. -/
namespace OB
open PySem PySem.Spec PyProof.Rows L2
/-- __init__(self, f, g): self.f = f; self.g = g of an own error -/
def spInit2 (K : PySem.W.Frag) (f g : Str) : Sp := fun vs H Q _ => ∃ (a C : Addr) (v u : V), vs = [.ref a, v, u] ∧ OexC K C ∧ PySem.W.findIn K (.ref C) f = some none ∧ PySem.W.findIn K (.ref C) g = some none ∧ H a = some (exo a C none) ∧
  ∀ dx, H dx = none → dx ≠ a → Q .non (upd (upd H dx (exd dx [(g, u), (f, v)])) a (exo a C (some dx)))
section
variable {P : Program} {w : World} {K : PySem.W.Frag} {mg : Str → Option Value} {base : Heap}
theorem ok_init2 {qual : Str} {st : Stmt} {fI : Addr} {fd : FuncData} {f g : Str} {p1 p2 p3 p4 r1 r2 r3 r4 : Pos} (F : Fun K "__init__" qual st fI fd) (S : FnScope ["self", f, g] ["self", f, g] (defScope st)) (hfg : ¬ f = g)
    (hb : defBody st = [.Assign [.Attribute (.Name "self" p1) f p2] (.Name f p3) p4, .Assign [.Attribute (.Name "self" r1) g r2] (.Name g r3) r4])
    (hv : Vis (defScope st) f) (hw : Vis (defScope st) g) (hs : Vis (defScope st) "self") (hd : (f == ("__debug__" : Str)) = false := by decide) (hcd : (f == ("__classdict__" : Str)) = false := by decide)
    (hd2 : (g == ("__debug__" : Str)) = false := by decide) (hcd2 : (g == ("__classdict__" : Str)) = false := by decide)
    (hsw : ∀ env : Env, swapsWith (.Name f p3) (some (.Attribute (.Name "self" p1) f p2)) p4.line env = pure false := by intro _; rfl)
    (hsw2 : ∀ env : Env, swapsWith (.Name g r3) (some (.Attribute (.Name "self" r1) g r2)) r4.line env = pure false := by intro _; rfl) :
    FnOk P w K mg base CX0 1 fI fd ["self", f, g] (spInit2 K f g) := by
  refine F.ok S (fun vs H Q E h => ?_) (fun cdv A outer s H vs Q E hr h => ?_)
  · obtain ⟨a, C, v, u, rfl, _⟩ := h
    rfl
  · obtain ⟨a, C, v, u, rfl, T, no, no2, ha, k⟩ := h
    rw [hb]
    refine ⟨_, pss_cons (ps_ost (pe_var (i := 0) rfl hs) (pe_var (i := 1) rfl hv hd hcd) (hsw _)) (pss_one (ps_ost (pe_var (i := 0) rfl hs) (pe_var (i := 2) rfl hw hd2 hcd2) (hsw2 _))), ?_⟩
    refine ⟨v, rfl, .ref a, rfl, a, C, rfl, T, no, .inl ⟨ha, fun dx n ne => ?_⟩⟩
    refine ⟨u, rfl, .ref a, rfl, a, C, rfl, T, no2, ?_⟩
    refine .inr ⟨dx, [(f, v)], upd_same, by rw [upd_ne ne, upd_same], (by show 1 ≤ 900; decide), ?_⟩
    have e : upd (upd (upd H dx (exd dx [(f, v)])) a (exo a C (some dx))) dx (exd dx ((g, u) :: [(f, v)])) = upd (upd H dx (exd dx [(g, u), (f, v)])) a (exo a C (some dx)) := by
      funext b
      by_cases h1 : b = a
      · rw [h1, upd_ne ne.symm, upd_same, upd_same]
      · by_cases h2 : b = dx
        · rw [h2, upd_same, upd_ne ne, upd_same]
        · rw [upd_ne h2, upd_ne h1, upd_ne h2, upd_ne h1, upd_ne h2]
    rw [e]
    exact k dx n ne
/-- an own error class with two fields, as the top leaves it -/
structure Err2 (P : Program) (w : World) (K : PySem.W.Frag) (mg : Str → Option Value) (base : Heap) (x f g : Str) (C fI : Addr) (fd : FuncData) : Prop where
  T : OexC K C
  iC : PySem.W.findIn K (.ref C) "__init__" = some (some (.ref fI))
  tI : PySem.W.typeIn K (.ref fI) = some (.type "function")
  F : FnOk P w K mg base CX0 1 fI fd ["self", f, g] (spInit2 K f g)
  b : Binds K fd ["self", f, g] []
  gl : mg x = some (.ref C)
  no : PySem.W.findIn K (.ref C) f = some none
  no2 : PySem.W.findIn K (.ref C) g = some none
end
/-- raise X(e, e2) -/
def tRaise2 (K : PySem.W.Frag) (C : Addr) (f g : Str) (W : WX) (te te2 : TE) : TS := fun _ σ H => tMkO C (spInit2 K f g) [] (tCons te (tCons te2 tNil)) σ H fun cls d H' => W cls d σ H'
theorem raise2_of {K : PySem.W.Frag} {C : Addr} {f g : Str} {W : WX} {σ : L2.St} {H1 : Hp} {v u : V} (T : OexC K C) (no : PySem.W.findIn K (.ref C) f = some none) (no2 : PySem.W.findIn K (.ref C) g = some none) (h : ∀ d, H1 d = none → W (.ref C) (some d) σ (upd H1 d (.xd [(g, u), (f, v)]))) :
    tNil σ H1 fun xs H2 => (v :: u :: xs).length ≤ 1000 ∧ ∀ a, H2 a = none → spInit2 K f g (.ref a :: ((v :: u :: xs) ++ [])) (upd H2 a (exo a C none))
      (fun z H3 => z = .non ∧ ∃ (d : Addr) (fs : List (Str × V)), H3 a = some (exo a C (some d)) ∧ H3 d = some (exd d fs) ∧ H2 d = none ∧ W (.ref C) (some d) σ (upd (del H3 a) d (.xd fs))) (fun _ _ _ => False) := by
  refine ⟨by show 2 ≤ 1000; decide, fun a ha => ⟨a, C, v, u, rfl, T, no, no2, upd_same, fun dx nd ne => ?_⟩⟩
  rw [upd_ne ne] at nd
  refine ⟨rfl, dx, [(g, u), (f, v)], upd_same, ?_, nd, ?_⟩
  · rw [upd_ne ne, upd_same]
  · rw [del_back ha ne]
    exact h dx nd
theorem ps_raise2 {X : Cx} {W : WX} {x f g : Str} {C fI : Addr} {fd : FuncData} {e e2 : Expr} {te te2 : TE} {p p2 pos : Pos} (hc : X.calm = true) (tk : Takes X W) (R : Err2 X.prog X.w X.K X.mg X.base x f g C fI fd) (hr : Room 2 X.A) (hg : Gl X x) (he : PE X e te) (he2 : PE X e2 te2)
    (hx : Passes CX0 X (fun _ _ _ => False) := by exact pass0) (hs2 : starEach [e2] X.env = [(false, eval e2 X.env)] := by rfl) (hs : starEach [e, e2] X.env = (false, eval e X.env) :: starEach [e2] X.env := by rfl) (hdb : (x == ("__debug__" : Str)) = false := by decide)
    (hpl : (backTo p2 (starEach [e2] X.env)).any (·.1) = false := by rfl) :
    PS X (.Raise (some (.Call (.Name x p) [e, e2] [] p2)) none pos) (tRaise2 X.K C f g W te te2) :=
  ps_raise (pos := pos) hc tk (pmk_oex (p := p) (pos := p2) R.T R.iC R.tI R.F hr R.b .nil hx hg R.gl (pa_cons he (pa_cons he2 pa_nil hs2) hs) hdb hs hpl)
end OB
/-! == and != of an own object with any value, by the class's own __eq__, with both answers. -/
namespace OB
open PySem PySem.Spec PyProof.Rows L2
section
variable {X : Cx} {n : Nat} {A : Around} {pins : List (Addr × Obj)} {σ : L2.St} {H : Hp} {s : Shared}
theorem sub_run {CX : CXT} {f : Addr} {fd : FuncData} {ps : List Str} {sp : Sp} {E : XK} {Q : VK} {us : List Value} {vs : List V} (F : FnOk X.prog X.w X.K X.mg X.base CX n f fd ps sp) (hb : L2.Binds X.K fd ps []) (hx : Passes CX X E)
    (sb : Sub X n A) (I : Inv X pins σ H s) (r : Vals vs us) (h : sp vs H Q E) : wpAny (model X.prog X.w) A (call (.ref f) us) (EP X pins σ Q) X.xe s := by
  have e0 : Env0 X.prog X.w X.K X.mg X.base A X.stack s H := by
    have e := I.env0
    exact ⟨by rw [sb.fr]; exact e.frames, e.mod, e.bs, e.bsz, e.funs, e.frf, e.hok, e.bare⟩
  have hl := F.len _ _ _ _ h
  have hl2 : us.length = ps.length := by rw [← r.length]; exact hl
  refine wpAny_call (codeAny_mono (F.run A X.stack s H ⟨us, []⟩ us vs Q E sb.room e0 (by
    have := hb s us I.kIn (by simpa using hl2)
    simpa using this) r h) fun r s' hq => ?_)
  cases r with
  | error e => exact hx pins σ H s e s' I hq
  | ok fl =>
    cases fl with
    | ret w =>
      obtain ⟨z, H', I', rz, q⟩ := I.after hq
      exact ⟨z, H', I', rz, q⟩
    | next => exact False.elim hq
    | brk => exact False.elim hq
    | cont => exact False.elim hq
end
/-- of the two the left one is asked first -/
def NotFirst (K : PySem.W.Frag) (C : Addr) (y : V) (H : Hp) : Prop := (∃ b dy gs, y = .ref b ∧ H b = some (.ins C dy gs)) ∨ (∃ b xs, y = .ref b ∧ SqT K H b xs ∧ PySem.W.subIn K (.type "tuple") (.ref C) = some false)
section
variable {X : Cx} {pins : List (Addr × Obj)} {σ : L2.St} {H : Hp} {s : Shared}
theorem nf_looks {C : Addr} {y : V} {v : Value} (I : Inv X pins σ H s) (ry : RelV y v) (h : NotFirst X.K C y H) : ∃ tb, PySem.W.Looks (model X.prog X.w) s.heap (typeOf v) tb ∧ PySem.W.notFirst X.K C tb = true := by
  rcases h with ⟨b, dy, gs, rfl, hb⟩ | ⟨b, xs, rfl, hb, hs⟩
  · cases (show v = Value.ref b from ry)
    obtain ⟨mB, J, _⟩ := ins_get I.hok hb
    obtain ⟨od, J, _⟩ := J.look
    exact ⟨.ref C, J.type, by simp [PySem.W.notFirst]⟩
  · cases (show v = Value.ref b from ry)
    obtain ⟨its, r, ⟨o, ho, hc, _⟩, z⟩ := I.tuple hb
    refine ⟨.type "tuple", hc ▸ (PySem.W.Looks.ld (part := none) ho).andThen .now, ?_⟩
    unfold PySem.W.notFirst
    rw [hs]
    simp
end
section
variable {prog : Program} {w : World} {A : Around} {E : Value → Shared → Prop} {s : Shared} {K : PySem.W.Frag} {x C L f : Addr} {h₀ : Heap} {m : Str → Option Value} {ox : Obj} {od : Option Obj} {name : Str} {b tb : Value}
open PySem.W PySem.Builtin in
theorem ifBound_bi {M : Model} {id : String} {args : List Value} {Q : Option Value → Shared → Prop} (X : K.In s.heap) (I : InstAt s.heap x ox C od) (hs : findIn K (.ref C) name = some (some (.builtin id)))
    (hb : ∀ self, bindSpecial (.builtin id) self = pure (.builtin id, [self])) (h : wpAny M A (call (.builtin id) (.ref x :: args)) (fun v => Q (some v)) E s) : wpAny M A (callSpecialIfBound? (.ref x) name args) Q E s := by
  simp only [callSpecialIfBound?, bindSpecialIfBound?]
  refine wpAny_holding (wpAny_bind (wpAny_bind (wpAny_bind (I.type.here ((looks_findIn X hs).here ?_)))))
  refine wpAny_bind (wpAny_askSetting (wpAny_ite ?_))
  have fin : wpAny M A (call (.builtin id) ([.ref x] ++ args) >>= fun v => pure (some v)) Q E s := wpAny_bind (wpAny_mono h (fun v s' h' => wpAny_pure h') fun _ _ h' => h')
  split
  · exact wpAny_bind ((Looks.of_pure (hb _)).here (wpAny_pure (by exact fin)))
  · exact wpAny_tryCatch (wpAny_bind ((Looks.of_pure (hb _)).here (wpAny_pure (by exact fin))))
open PySem.W PySem.Builtin in
theorem cmp_ne {Q : Value → Shared → Prop} (hu : A.units + 1 < cLine) (hu1 : A.in1.units < cLine) (F : Fr h₀ L s.heap m) (X₀ : K.In h₀) (I : InstAt s.heap x ox C od) (hb : Looks (model prog w) s.heap (typeOf b) tb) (hn : notFirst K C tb = true)
    (hne : findIn K (.ref C) "__ne__" = some (some (.builtin "object.__ne__"))) (hm : mroIn K C (.type "object") = some true)
    (hs : findIn K (.ref C) "__eq__" = some (some (.ref f))) (hf : isFn K (.ref f) = true)
    (h : wpAny (model prog w) A.in1 (call (.ref f) [.ref x, b]) (fun v s' => ∃ k, v = .bool k ∧ Q (.bool (!k)) s') E s) : wpAny (model prog w) A (richCompare .NotEq (.ref x) b) Q E s := by
  have X := X₀.keeps F.keep
  have body : wpAny (model prog w) A (call (.builtin "object.__ne__") [.ref x, b]) (fun v s' => ∃ k, v = .bool k ∧ Q v s') E s := by
    refine wpAny_call (codeAny_call_builtin PySem.F.slot_object_ne.plain PySem.F.entry_object_ne (check_slot (i := "object.__ne__") (owner := "object") (n := "__ne__") (by decide +kernel) (by decide +kernel) (I.type.andThen (looks_mroIn X hm)) (PySem.F.args_object_ne_2 _ _) ?_))
    unfold Builtin.«object.__ne__»
    refine wpAny_bind (m := slotArgs "__ne__" 1 _) (wpAny_pure ?_)
    refine wpAny_bind (m := cRoomFor _ _) (wpAny_cRoomFor hu1 ?_)
    refine wpAny_bind (m := callSpecialIfBound? (.ref x) (Str.ofString "__eq__") _) (ifBound_K X I hs hf (wpAny_mono h (fun r s' hq => ?_) fun _ _ y => y))
    obtain ⟨k, rfl, q⟩ := hq
    refine wpAny_bind (m := truthy (.bool k)) (wpAny_truthy_bool ?_)
    exact wpAny_pure ⟨!k, rfl, q⟩
  have one : wpAny (model prog w) A (tryCompare (.ref x) (cmpInfo .NotEq).2.1 b) (fun r s' => ∃ v, r = some v ∧ Q v s') E s := by
    unfold tryCompare
    refine wpAny_bind (ifBound_bi X I hne PySem.F.slot_object_ne.bind (wpAny_mono body (fun v s' hv => ?_) fun _ _ e => e))
    obtain ⟨k, rfl, q⟩ := hv
    exact wpAny_pure ⟨_, rfl, q⟩
  unfold richCompare
  simp only [oneThing_ref]
  refine wpAny_holding (wpAny_bind (wpAny_cRoomFor (Nat.lt_of_succ_lt hu) ?_))
  refine wpAny_bind (I.type.here (wpAny_bind (hb.here ?_)))
  split
  · rename_i q
    have e : subIn K tb (.ref C) = some false := by
      rcases Bool.or_eq_true_iff.mp hn with e | e
      · rw [beq_iff_eq.mp e] at q; simp at q
      · exact beq_iff_eq.mp e
    refine wpAny_bind ((looks_subIn X e).here ?_)
    simp only [Bool.false_eq_true, if_false]
    refine wpAny_bind (wpAny_mono one (fun r s' z => ?_) fun _ _ e => e)
    obtain ⟨v, rfl, hq⟩ := z
    exact wpAny_pure hq
  · refine wpAny_bind (wpAny_pure ?_)
    simp only [Bool.false_eq_true, if_false]
    refine wpAny_bind (wpAny_mono one (fun r s' z => ?_) fun _ _ e => e)
    obtain ⟨v, rfl, hq⟩ := z
    exact wpAny_pure hq
end
/-- a class's own ==: where its def stands, and that != is the usual one -/
structure OwnEqC (K : PySem.W.Frag) (C f : Addr) : Prop where
  eq : PySem.W.findIn K (.ref C) "__eq__" = some (some (.ref f))
  fn : PySem.W.isFn K (.ref f) = true
  ne : PySem.W.findIn K (.ref C) "__ne__" = some (some (.builtin "object.__ne__"))
  ob : PySem.W.mroIn K C (.type "object") = some true
def rEqO (K : PySem.W.Frag) (C : Addr) (sp : Sp) (E : XK) : R2 := fun x y H Q => ∃ a dx fs, x = .ref a ∧ H a = some (.ins C dx fs) ∧ NotFirst K C y H ∧ sp [x, y] H (fun v H' => ∃ b, v = .bl b ∧ Q (.bl b) H') E
def rNeO (K : PySem.W.Frag) (C : Addr) (sp : Sp) (E : XK) : R2 := fun x y H Q => ∃ a dx fs, x = .ref a ∧ H a = some (.ins C dx fs) ∧ NotFirst K C y H ∧ sp [x, y] H (fun v H' => ∃ b, v = .bl b ∧ Q (.bl (!b)) H') E
section
variable {X : Cx} {n : Nat} {CX : CXT} {C f : Addr} {fd : FuncData} {ps : List Str} {sp : Sp} {E : XK}
theorem op_eqO (F : FnOk X.prog X.w X.K X.mg X.base CX n f fd ps sp) (O : OwnEqC X.K C f) (hb : L2.Binds X.K fd ps []) (hx : Passes CX X E) (hr : Room n X.A) : OpR X (compareOp .Eq) (rEqO X.K C sp E) := by
  intro pins s σ H x y v u Q I rx ry hq
  obtain ⟨a, dx, fs, rfl, ha, nf, h⟩ := hq
  cases (show v = Value.ref a from rx)
  obtain ⟨mA, J, _⟩ := ins_get I.hok ha
  obtain ⟨od, J, _⟩ := J.look
  obtain ⟨m, hF⟩ := I.fr
  obtain ⟨tb, L, nf⟩ := nf_looks I ry nf
  show wpAny (model X.prog X.w) X.A (richCompare .Eq (.ref a) u) (EP X pins σ Q) X.xe s
  refine PySem.W.cmp_K (op := .Eq) hr.units0 hF I.ok.mod.kin J L nf O.eq O.fn ?_
  refine wpAny_mono (sub_run F hb hx ⟨hr, rfl⟩ I (Paired.cons (show L2.RelV (.ref a) (.ref a) from rfl) (.cons ry .nil)) h) (fun r s' q => ?_) fun _ _ z => z
  obtain ⟨z, H', I', rz, b, rfl, q⟩ := q
  cases rz
  exact ⟨.bl b, H', I', rfl, q⟩
theorem op_neO (F : FnOk X.prog X.w X.K X.mg X.base CX n f fd ps sp) (O : OwnEqC X.K C f) (hb : L2.Binds X.K fd ps []) (hx : Passes CX X E) (hr : Room (n + 1) X.A) : OpR X (compareOp .NotEq) (rNeO X.K C sp E) := by
  intro pins s σ H x y v u Q I rx ry hq
  obtain ⟨a, dx, fs, rfl, ha, nf, h⟩ := hq
  cases (show v = Value.ref a from rx)
  obtain ⟨mA, J, _⟩ := ins_get I.hok ha
  obtain ⟨od, J, _⟩ := J.look
  obtain ⟨m, hF⟩ := I.fr
  obtain ⟨tb, L, nf⟩ := nf_looks I ry nf
  show wpAny (model X.prog X.w) X.A (richCompare .NotEq (.ref a) u) (EP X pins σ Q) X.xe s
  refine cmp_ne (by have := hr.units; omega) hr.in1.units0 hF I.ok.mod.kin J L nf O.ne O.ob O.eq O.fn ?_
  refine wpAny_mono (sub_run F hb hx ⟨hr.in1, rfl⟩ I (Paired.cons (show L2.RelV (.ref a) (.ref a) from rfl) (.cons ry .nil)) h) (fun r s' q => ?_) fun _ _ z => z
  obtain ⟨z, H', I', rz, b, rfl, q⟩ := q
  cases rz
  exact ⟨b, rfl, .bl (!b), H', I', rfl, q⟩
end
end OB
/-! Static methods off a class, str of an own object by its own __str__, making by keywords alone. -/
namespace OB
open PySem PySem.Spec PyProof.Rows L2 ClX
/-- C.m is a static method: its record at p, its def at g -/
structure CStat (K : PySem.W.Frag) (C : Addr) (mc : Value) (m : Str) (p g : Addr) : Prop where
  at_ : PySem.W.findCls K (.ref C) mc m = some (.get (.builtin "staticmethod.__get__") (.ref p) .none (.ref C))
  rc : ∃ rest, PySem.W.recIn K p "staticmethod" = some (.ref g :: rest)
  kp : PySem.W.keepIn K (.ref g) = true
/-- e.m(..), e the class at C -/
def tSMeth (C : Addr) (sp : Sp) (E : XK) (ta : TE) (t : TA) : TE := fun σ H Q => ta σ H fun x H1 => x = .ref C ∧ t σ H1 fun vs H2 => sp vs H2 Q E
def tSMethK (C : Addr) (sp : Sp) (gV : List V → List V → List V) (E : XK) (ta : TE) (tk : TA) : TE := fun σ H Q => ta σ H fun x H1 => x = .ref C ∧ tk σ H1 fun zs H2 => sp (gV [] zs) H2 Q E
section
variable {X : Cx} {pins : List (Addr × Obj)} {σ : L2.St} {H : Hp} {s : Shared} {C p g : Addr} {mc : Value} {m : Str} {A : Around} {E : Value → Shared → Prop}
theorem getmethsm_ok {pl : Sem Bool} {Q : Value × List Value → Shared → Prop} (I : Inv X pins σ H s) (r : CRead X.K C mc) (k : CStat X.K C mc m p g)
    (h : ∀ s', Inv X pins σ H s' → Q (.ref g, []) s') : wpAny (model X.prog X.w) A (getMethod (.ref C) m pl) Q E s := by
  obtain ⟨rest, hp⟩ := k.rc
  exact PySem.W.method_cls I.kIn r.ga (PySem.W.cls_bind I.kIn r.rd k.at_ (wpAny_call (PySem.W.sm_get (s := { s with toks := s.toks + 1 }) I.kIn hp (PySem.W.handed_on rfl (h _ (I.tok _))))))
end
section
variable {X : Cx} {CX : CXT} {k : Nat} {C p g : Addr} {fd : FuncData} {ps ks : List Str} {mc : Value} {sp : Sp} {E : XK} {o e : Expr} {es : List Expr} {kws : List Keyword} {m : Str} {pos apos : Pos} {ta : TE} {t tk : TA} {pl : Sem Bool} {gg : List Value → List Value → List Value} {gV : List V → List V → List V}
theorem pe_smeth (he : PE X o ta) (r : CRead X.K C mc) (c : CStat X.K C mc m p g) (F : FnOk X.prog X.w X.K X.mg X.base CX k g fd ps sp) (hr : Room k X.A) (hb : L2.Binds X.K fd ps []) (hx : Passes CX X E) (ha : PA X (e :: es) t)
    (hst : starEach (e :: es) X.env = (false, eval e X.env) :: starEach es X.env := by rfl) (hpl : (backTo pos (starEach es X.env)).any (·.1) = false := by rfl)
    (ht : eval (.Call (.Attribute o m apos) (e :: es) [] pos) X.env = (do
      let ov ← eval o X.env
      standAt apos.atName
      let (f, first) ← holding [ov] (getMethod ov m pl)
      callWith pos f first (backTo pos (starEach (e :: es) X.env)) (backToKw pos (keywordEach [] X.env))) := by rfl) :
    PE X (.Call (.Attribute o m apos) (e :: es) [] pos) (tSMeth C sp E ta t) := by
  refine ⟨fun pins s σ H Q I h => ?_⟩
  refine PySem.W.methodCall_KW (pl := pl) (thn (he.run pins s σ H _ I h) fun u s1 ⟨x, H1, I1, rx, ex, q⟩ => ?_) ht
  subst ex
  obtain rfl : u = Value.ref C := rx
  refine getmethsm_ok I1 r c fun s2 I2 => ?_
  refine PySem.W.callWith_K (h₀ := X.base) (first := []) I.ok.mod.kin c.kp (thn (ha.run pos pins s2 σ H1 _ I2 q) fun us s3 ⟨vs, H2, I3, rv, q2⟩ => ⟨I3.kIn, ?_⟩) hst hpl
  exact run_fn F hr hb .nil hx I3 rv (by rw [List.append_nil]; exact q2)
theorem pe_smethK (he : PE X o ta) (r : CRead X.K C mc) (c : CStat X.K C mc m p g) (F : FnOk X.prog X.w X.K X.mg X.base CX k g fd ps sp) (hr : Room k X.A) (hb : KBinds X.K fd ps ks gg gV) (hx : Passes CX X E) (hkw : PK X kws tk)
    (hall : (backToKw pos (keywordEach kws X.env)).all (·.1.isSome) = true := by rfl) (hks : (backToKw pos (keywordEach kws X.env)).filterMap (·.1) = ks := by rfl)
    (hpl : ((backTo pos (starEach [] X.env)).any (·.1) || (backToKw pos (keywordEach kws X.env)).any (·.1.isNone)) = false := by rfl)
    (ht : eval (.Call (.Attribute o m apos) [] kws pos) X.env = (do
      let ov ← eval o X.env
      standAt apos.atName
      let (f, first) ← holding [ov] (getMethod ov m pl)
      callWith pos f first (backTo pos (starEach [] X.env)) (backToKw pos (keywordEach kws X.env))) := by rfl) :
    PE X (.Call (.Attribute o m apos) [] kws pos) (tSMethK C sp gV E ta tk) := by
  refine ⟨fun pins s σ H Q I h => ?_⟩
  refine PySem.W.methodCall_KW (pl := pl) (thn (he.run pins s σ H _ I h) fun u s1 ⟨x, H1, I1, rx, ex, q⟩ => ?_) ht
  subst ex
  obtain rfl : u = Value.ref C := rx
  refine getmethsm_ok I1 r c fun s2 I2 => ?_
  refine PySem.W.callWith_KW0 (h₀ := X.base) I.ok.mod.kin c.kp hall ?_ hpl
  refine thn (hkw.run pos pins s2 σ H1 _ I2 q) fun ws s3 ⟨zs, H2, I3, rz, q2⟩ => ⟨I3.kIn, ?_⟩
  rw [hks]
  exact run_fnk (us := []) F hr hb hx I3 .nil rz q2
end
/-- how keywords alone bind, from how they bind at all -/
theorem kbn {K : PySem.W.Frag} {fd : FuncData} {ps ks : List Str} {g : List Value → List Value → List Value} {gV : List V → List V → List V} {n : Nat} (h : KBinds K fd ps ks g gV) (hl : ∀ us ws, us.length = n → ws.length = ks.length → (g us ws).length = ps.length) : KBn K fd ps n ks g gV :=
  ⟨fun s us ws X h1 h2 => h.to s us ws X (hl us ws h1 h2), h.rel⟩
/-- a class's own __str__ -/
structure OwnStrC (K : PySem.W.Frag) (C f : Addr) : Prop where
  st : PySem.W.findIn K (.ref C) "__str__" = some (some (.ref f))
  fn : PySem.W.isFn K (.ref f) = true
section
variable {prog : Program} {w : World} {A : Around} {E : Value → Shared → Prop} {s : Shared} {K : PySem.W.Frag} {x C f : Addr} {ox : Obj} {od : Option Obj}
open PySem.W PySem.Builtin PySem.Builtin.Str in
theorem str_own {Q : Value → Shared → Prop} (hu : A.in1.in1.units < cLine) (X : K.In s.heap) (I : InstAt s.heap x ox C od) (hs : findIn K (.ref C) "__str__" = some (some (.ref f))) (hf : isFn K (.ref f) = true)
    (h : wpAny (model prog w) A.in1.in1 (call (.ref f) [.ref x]) (StrBack Q) E s) : wpAny (model prog w) A (call (.type "str") [.ref x]) Q E s := by
  refine callType_codes (T := "str") (Bi := Builtin.«object.__init__») (Q₁ := fun r s₁ => ∃ y u, r = .str y u ∧ Q r s₁) PySem.F.called_str (PySem.F.typeCall_str_1 _) PySem.F.entry_object_init ?_ ?_
  · refine codeAny_of_tree ?_
    show wpAny _ A.in1.in1 (do checkBuiltinCall "str.__new__" ⟨[.type "str", .ref x], []⟩; again (.builtin "str.__new__" ⟨[.type "str", .ref x], []⟩)) _ _ s
    refine wpAny_bind (wpAny_of_eq (PySem.F.newCall_str_1 _) (wpAny_pure ⟨plainId_quiet (by decide +kernel) _, codeAny_builtin PySem.F.entry_str_new ?_⟩))
    rw [Around.under_plainId (by decide +kernel) _]
    rw [str_new_tree]
    refine wpAny_bind (wpAny_pure ?_)
    refine wpAny_bind (wpAny_of_eq isSubtype_str_str ?_)
    have key : wpAny (model prog w) A.in1.in1 (PySem.Builtin.Str.strOf (.ref x)) (fun r s₁ => ∃ y u, r = .str y u ∧ Q r s₁) E s := by
      unfold PySem.Builtin.Str.strOf
      rw [show isExactStr (.ref x) = false from rfl]
      refine wpAny_bind (m := cRoomFor _ _) (wpAny_cRoomFor hu ?_)
      refine wpAny_bind (m := callSpecial? (.ref x) (Str.ofString "__str__")) (special_fn X I hs (beq_iff_eq.mp hf) (wpAny_mono h (fun r s' z => ?_) fun _ _ y => y))
      cases r <;> first | exact z.elim | exact wpAny_pure ⟨_, _, rfl, z⟩
    exact wpAny_bind (wpAny_mono key (fun r s₁ hr => wpAny_pure hr) fun _ _ y => y)
  · rintro obj s₁ ⟨y, u, rfl, hq⟩
    exact ⟨typeIs_str _ _ _, PySem.F.args_object_init_2 _ _, object_init_meets PySem.F.called_str.init.lookup PySem.F.called_str.made (by decide) prog w A.in1 _ s₁ ⟨typeIs_str _ _ _, rfl, hq⟩⟩
end
/-- str(o), o an instance of the class at C -/
def rStrO (C : Addr) (sp : Sp) (E : XK) : List V → Hp → VK → Prop := fun xs H Q => ∃ a dx fs, xs = [.ref a] ∧ H a = some (.ins C dx fs) ∧ sp [.ref a] H (fun v H' => ∃ z, v = .str z ∧ Q (.str z) H') E
section
variable {X : Cx} {n : Nat} {CX : CXT} {C f : Addr} {fd : FuncData} {ps : List Str} {sp : Sp} {E : XK}
theorem call_strO (F : FnOk X.prog X.w X.K X.mg X.base CX n f fd ps sp) (O : OwnStrC X.K C f) (hb : L2.Binds X.K fd ps []) (hx : Passes CX X E) (hr : Room (n + 2) X.A) : CallR X (.type "str") (rStrO C sp E) := by
  intro pins s σ H xs us Q I r h
  obtain ⟨a, dx, fs, rfl, ha, h⟩ := h
  rw [Vals.ref1 r]
  obtain ⟨mA, J, _⟩ := ins_get I.hok ha
  obtain ⟨od, J, _⟩ := J.look
  refine str_own hr.in1.in1.units0 I.kIn J O.st O.fn ?_
  refine wpAny_mono (sub_run F hb hx ⟨hr.in1.in1, rfl⟩ I (Paired.cons (show L2.RelV (.ref a) (.ref a) from rfl) .nil) h) (fun r s' q => ?_) fun _ _ z => z
  obtain ⟨z, H', I', rz, y, rfl, q⟩ := q
  obtain ⟨t, rfl⟩ := (show ∃ t, r = Value.str y t from rz)
  exact ⟨.str y, H', I', ⟨_, rfl⟩, q⟩
end
end OB
/-! An own class, as the top leaves it; what an object of it is when it is asked for its kind. -/
namespace OB
open PySem PySem.Spec PyProof.Rows L2 ClX
structure OwnC (K : PySem.W.Frag) (mg : Str → Option Value) (x : Str) (C fI : Addr) : Prop where
  cl : Cls K C
  g : mg x = some (.ref C)
  made : Mk K C fI
  ha : PySem.W.findIn K (.ref C) "__class__" = some (some (.builtin "object.__class__"))
  hn : PySem.W.specialIn K (.builtin "object.__class__") "__get__" = some (some (.builtin "getset_descriptor.__get__"))
  ht : PySem.W.takesIn K (.builtin "object.__class__") = some true
  hm : PySem.W.mroIn K C (.type "object") = some true
  self : PySem.W.kitOne K (.ref C) (.ref C) = some true
  no : ∀ n ∈ ["NoneType", "int", "bool", "str", "list", "tuple", "dict"], PySem.W.kitOne K (.type n) (.ref C) = some false
  sT : PySem.W.subIn K (.type "tuple") (.ref C) = some false
section
variable {K : PySem.W.Frag} {mg : Str → Option Value} {x : Str} {C fI : Addr}
theorem OwnC.ty (Z : OwnC K mg x C fI) {H : Hp} {a dx : Addr} {fs : List (Str × V)} (e : H a = some (.ins C dx fs)) : TyX K H (.ref a) (.ref C) := .base (.ins e Z.cl Z.ha Z.hn Z.ht Z.hm)
/-- a value is no object of the class -/
def NotO (K : PySem.W.Frag) (C : Addr) (H : Hp) (y : V) : Prop := ∃ t, TyX K H y t ∧ PySem.W.kitOne K t (.ref C) = some false
theorem OwnC.non (Z : OwnC K mg x C fI) {H : Hp} : NotO K C H .non := ⟨_, .base .non, Z.no _ (by decide)⟩
theorem OwnC.int (Z : OwnC K mg x C fI) {H : Hp} (i : Int) : NotO K C H (.int i) := ⟨_, .base (.int i), Z.no _ (by decide)⟩
theorem OwnC.bl (Z : OwnC K mg x C fI) {H : Hp} (i : Bool) : NotO K C H (.bl i) := ⟨_, .base (.bl i), Z.no _ (by decide)⟩
theorem OwnC.str (Z : OwnC K mg x C fI) {H : Hp} (i : Str) : NotO K C H (.str i) := ⟨_, .base (.str i), Z.no _ (by decide)⟩
theorem OwnC.lst (Z : OwnC K mg x C fI) {H : Hp} {a : Addr} {xs : List V} (e : H a = some (.lst xs)) : NotO K C H (.ref a) := ⟨_, .base (.lst e), Z.no _ (by decide)⟩
theorem OwnC.tup (Z : OwnC K mg x C fI) {H : Hp} {a : Addr} {xs : List V} (e : H a = some (.tup xs)) : NotO K C H (.ref a) := ⟨_, .base (.tup e), Z.no _ (by decide)⟩
theorem OwnC.dK (Z : OwnC K mg x C fI) {H : Hp} {a : Addr} {xs : List (Key × V)} (e : H a = some (.dK xs)) : NotO K C H (.ref a) := ⟨_, .base (.dK e), Z.no _ (by decide)⟩
end
end OB
/-! A call by keywords alone that may raise. -/
namespace OB
open PySem PySem.Spec PyProof.Rows L2
section
variable {X : Cx} {CX : CXT} {k : Nat} {f : Addr} {fd : FuncData} {ps ks : List Str} {sp : Sp} {E : L2.St → XK} {x : Str} {p pos : Pos} {e : Expr} {es : List Expr} {kws : List Keyword} {t tk : TA} {g : List Value → List Value → List Value} {gV : List V → List V → List V}
def tCallKS (sp : Sp) (gV : List V → List V → List V) (E : L2.St → XK) (t tk : TA) : TE := fun σ H Q => t σ H fun vs H1 => tk σ H1 fun zs H2 => sp (gV vs zs) H2 Q (E σ)
theorem run_fnkS {pins : List (Addr × Obj)} {σ : L2.St} {H : Hp} {s : Shared} {Q : VK} {us ws : List Value} {vs zs : List V} {E : XK} (F : FnOk X.prog X.w X.K X.mg X.base CX k f fd ps sp) (hr : Room k X.A) (hb : KBinds X.K fd ps ks g gV) (hx : PassesAt CX X σ E)
    (I : Inv X pins σ H s) (r : Vals vs us) (rz : Vals zs ws) (h : sp (gV vs zs) H Q E) : wpAny (model X.prog X.w) X.A (call (.ref f) us (ks.zip ws)) (EP X pins σ Q) X.xe s := by
  have r2 := hb.rel r rz
  have hl : (g us ws).length = ps.length := r2.length ▸ F.len _ _ _ _ h
  refine wpAny_call (codeAny_mono (F.run X.A X.stack s H ⟨us, ks.zip ws⟩ (g us ws) (gV vs zs) Q E hr I.env0 (hb.to s us ws I.kIn hl) r2 h) fun res s' hq => ?_)
  match res, hq with
  | .error _, hq => exact hx pins H s _ s' I hq
  | .ok (.ret _), hq => exact I.after hq
theorem pe_callKoS (F : FnOk X.prog X.w X.K X.mg X.base CX k f fd ps sp) (hr : Room k X.A) (hg : Gl X x) (hm : X.mg x = some (.ref f)) (hk : PySem.W.keepIn X.K (.ref f) = true) (hb : KBinds X.K fd ps ks g gV) (hx : ∀ σ, PassesAt CX X σ (E σ))
    (hkw : PK X kws tk) (hall : (backToKw pos (keywordEach kws X.env)).all (·.1.isSome) = true := by rfl) (hks : (backToKw pos (keywordEach kws X.env)).filterMap (·.1) = ks := by rfl)
    (hdb : (x == ("__debug__" : Str)) = false := by decide)
    (hpl : ((backTo pos (starEach [] X.env)).any (·.1) || (backToKw pos (keywordEach kws X.env)).any (·.1.isNone)) = false := by rfl) :
    PE X (.Call (.Name x p) [] kws pos) (tCallKS sp gV E tNil tk) := by
  refine ⟨fun pins s σ H Q I h => wpAny_Call_Name_kw (ld_glob I hg hm ?_ hdb)⟩
  refine PySem.W.callWith_KW0 (h₀ := X.base) I.ok.mod.kin hk hall ?_ hpl
  refine thn (hkw.run pos pins s σ H _ I h) fun ws s2 ⟨zs, H2, I2, rz, q2⟩ => ⟨I2.kIn, ?_⟩
  rw [hks]
  exact run_fnkS (us := []) F hr hb (hx σ) I2 .nil rz q2
end
/-- some of a list, by their places -/
def pm {α : Type} : List Nat → List α → List α
  | [], _ => []
  | i :: r, l => match l[i]? with
    | some x => x :: pm r l
    | none => pm r l
theorem pm_vals {vs : List V} {us : List Value} (h : Vals vs us) : ∀ is, Vals (pm is vs) (pm is us)
  | [] => .nil
  | i :: r => by
    unfold pm
    cases e : vs[i]? with
    | none =>
      have e2 : us[i]? = none := by
        rw [List.getElem?_eq_none_iff] at e ⊢
        rw [← h.length]
        exact e
      rw [e2]
      exact pm_vals h r
    | some x =>
      obtain ⟨u, hu, ru⟩ := h.get e
      rw [hu]
      exact .cons ru (pm_vals h r)
/-- keywords alone, in any order -/
def kg {α : Type} (is : List Nat) : List α → List α → List α
  | [], ws => pm is ws
  | _ :: _, _ => []
theorem kg_vals {is : List Nat} {vs : List V} {us : List Value} {zs : List V} {ws : List Value} (h : Vals vs us) (r : Vals zs ws) : Vals (kg is vs zs) (kg is us ws) := by
  cases h with
  | nil => exact pm_vals r is
  | cons _ _ => exact .nil
/-- .. behind the object itself -/
def kg1 {α : Type} (is : List Nat) : List α → List α → List α
  | [x], ws => x :: pm is ws
  | _, _ => []
theorem kg1_vals {is : List Nat} {vs : List V} {us : List Value} {zs : List V} {ws : List Value} (h : Vals vs us) (r : Vals zs ws) : Vals (kg1 is vs zs) (kg1 is us ws) := by
  cases h with
  | nil => exact .nil
  | cons a b =>
    cases b with
    | nil => exact .cons a (pm_vals r is)
    | cons _ _ => exact .nil
end OB
/-! repr of a text; numbers as items of texts. -/
namespace OB
open PySem PySem.Spec PyProof.Rows L2
section
variable {X : Cx}
def rReprS : List V → Hp → VK → Prop := fun xs H Q => ∃ z : Str, xs = [.str z] ∧ z.length ≤ 1000000 ∧ (∀ c ∈ z.cps.toList, c < 16 ^ 8) ∧ Q (.str (reprText z)) H
theorem call_reprS : CallR X (.builtin "repr") rReprS := by
  intro pins s σ H xs us Q I r h
  obtain ⟨z, rfl, hz, hc, q⟩ := h
  obtain ⟨u, rfl, t, rfl⟩ := vals1 r
  refine PySem.P.repr_of_str ⟨.str _, H, I.tok _, ⟨_, rfl⟩, q⟩ ?_
  have := PySem.StrLaws.reprText_len z hc
  rw [sizeLine_eq]
  omega
end
/-- how a number from 0 on is written -/
def ds (n : Nat) : Str := toString (n : Int)
/-- what the small ones are like -/
theorem ds_small : ∀ n < 256, Txt.removeprefix (ds n) "-" = ds n ∧ Txt.isascii (ds n) = true ∧ Txt.isdigit (ds n) = true ∧ (ds n).length ≤ 3 ∧ (Txt.startswith (ds n) "0" = true → n = 0) ∧ PySem.intText? (ds n) = some (n : Int) ∧ ds n ≠ "-" ∧ (∀ c ∈ (ds n).cps.toList, c ≠ 32 ∧ c < 256) := by decide +kernel
end OB
/-! repr of nested data of None, truths, ints, texts, lists and tuples: a bound of its length that is reckoned part by part. -/
namespace OB
open PySem PySem.Spec PyProof.Rows L2
mutual
/-- a bound for the length of the text -/
def sz : PyData → Nat
  | .none => 4
  | .bool _ => 5
  | .int _ => 1921
  | .str x => 10 * x.length + 2
  | .list xs => szAll xs + 2
  | .tuple xs => szAll xs + 2
  | .dict _ => 0
def szAll : List PyData → Nat
  | [] => 0
  | x :: xs => sz x + 2 + szAll xs
end
mutual
/-- ints that are not too great, texts of signs; no dict -/
def nice : PyData → Bool
  | .none | .bool _ => true
  | .int i => decide (i.natAbs.log2 < 1920)
  | .str x => x.cps.toList.all fun c => decide (c < 1114112)
  | .list xs | .tuple xs => niceAll xs
  | .dict _ => false
def niceAll : List PyData → Bool
  | [] => true
  | x :: xs => nice x && niceAll xs
end
mutual
theorem nice_show : ∀ d, nice d = true → d.showable = true
  | .none, _ => by simp [PyData.showable]
  | .bool _, _ => by simp [PyData.showable]
  | .int _, h => by simpa [nice, PyData.showable] using h
  | .str _, _ => by simp [PyData.showable]
  | .list xs, h => by
    have := niceAll_show xs (by simpa [nice] using h)
    simpa [PyData.showable] using this
  | .tuple xs, h => by
    have := niceAll_show xs (by simpa [nice] using h)
    simpa [PyData.showable] using this
  | .dict _, h => by simp [nice] at h
theorem niceAll_show : ∀ ds, niceAll ds = true → PyData.showableAll ds = true
  | [], _ => by simp [PyData.showableAll]
  | x :: xs, h => by
    have h : nice x = true ∧ niceAll xs = true := by simpa [niceAll] using h
    have h1 := nice_show x h.1
    have h2 := niceAll_show xs h.2
    simp [PyData.showableAll, h1, h2]
end
mutual
theorem shown_sz : ∀ d, nice d = true → d.shown.length ≤ sz d
  | .none, _ => by decide +kernel
  | .bool b, _ => by cases b <;> decide +kernel
  | .int i, h => int_text_len_1921 (by simpa [nice] using h)
  | .str x, h => PySem.StrLaws.reprText_len x fun c hc => by
    have h : (x.cps.toList.all fun c => decide (c < 1114112)) = true := h
    have := of_decide_eq_true (List.all_eq_true.mp h c hc)
    have : (1114112 : Nat) < 16 ^ 8 := by decide
    omega
  | .list xs, h => by
    have a := shownAll_sz xs (by simpa [nice] using h)
    have b := list_len (PyData.shownAll xs)
    show (listText (PyData.shownAll xs)).length ≤ szAll xs + 2
    omega
  | .tuple xs, h => by
    have a := shownAll_sz xs (by simpa [nice] using h)
    have b := fmt_text (PyData.shownAll xs)
    show (tupleText (PyData.shownAll xs)).length ≤ szAll xs + 2
    omega
  | .dict _, h => by simp [nice] at h
theorem shownAll_sz : ∀ ds, niceAll ds = true → piled (PyData.shownAll ds) ≤ szAll ds
  | [], _ => Nat.le_refl _
  | x :: xs, h => by
    have h : nice x = true ∧ niceAll xs = true := by simpa [niceAll] using h
    have h1 := shown_sz x h.1
    have h2 := shownAll_sz xs h.2
    show piled (x.shown :: PyData.shownAll xs) ≤ sz x + 2 + szAll xs
    rw [piled_cons]
    omega
end
theorem nice_ints : ∀ ns : List Int, (∀ n ∈ ns, n.natAbs.log2 < 1920) → niceAll (ns.map PyData.int) = true
  | [], _ => by simp [niceAll]
  | n :: r, h => by
    have h1 := h n List.mem_cons_self
    have h2 := nice_ints r fun x hx => h x (List.mem_cons_of_mem _ hx)
    simp [niceAll, nice, h1, h2]
theorem sz_ints : ∀ ns : List Int, szAll (ns.map PyData.int) = 1923 * ns.length
  | [] => rfl
  | n :: r => by
    have := sz_ints r
    show 1921 + 2 + szAll (r.map PyData.int) = _
    rw [List.length_cons]
    omega
section
variable {X : Cx}
/-- repr of nested data -/
def rReprN (K : PySem.W.Frag) : List V → Hp → VK → Prop := fun xs H Q => ∃ (a : Addr) (d : PyData), xs = [.ref a] ∧ Dp K H (.ref a) d ∧ nice d = true ∧ d.canLay0 = true ∧ d.depth ≤ 60 ∧ sz d ≤ 16000000 ∧ Q (.str d.shown) H
theorem call_reprN (hgd : X.A.guards = some []) (hu : X.A.units + 64 < cLine) : CallR X (.builtin "repr") (rReprN X.K) := by
  intro pins s σ H xs us Q I r h
  obtain ⟨a, d, rfl, hd, hn, hl, hdp, hz, q⟩ := h
  refine call_reprD hgd hu pins s σ H _ us Q I r ⟨a, d, rfl, hd, nice_show d hn, hl, hdp, ?_, q⟩
  have := shown_sz d hn
  rw [sizeLine_eq]
  omega
end
end OB
/-! sorted(set(x)) of a list or a tuple of ints, doubles among them. -/
namespace OB
open PySem PySem.Spec PyProof.Rows L2 SrtO Builtin
section
variable {P : Program} {w : World} {A : Around} {E : Value → Shared → Prop} {s : Shared}
abbrev setObj (w : World) : Obj := { cls := .type "set", dict := none, data := .set #[] 0 (.fresh 0 0 (!w.params.followText "set-order")) }
set_option maxHeartbeats 6400000 in
/-- set(x), x a list of ints -/
theorem set_of_list {l : Addr} {items : Array Value} (ns : List Int) {Q : Value → Shared → Prop} (hh : A.handled = none) (hl : s.heap.IsList l items) (hit : IntsAre items.toList ns) (hb : ns.length + 1 < scanBound)
    (h : ∀ (h' : Heap) (tk c : Nat), SetR w h' s.heap.objs.size (fun j => decide (j ∈ ns)) c → c ≤ ns.length → (∀ b o, s.heap.get? b = some o → h'.get? b = some o) → Q (.ref s.heap.objs.size) { s with heap := h', toks := tk }) :
    wpAny (model P w) A (call (.type "set") [.ref l]) Q E s := by
  have sz : items.size = ns.length := by
    have q := IntsAre.length hit
    rwa [Array.length_toList] at q
  obtain ⟨c, tl, hmro⟩ := F.called_set.mro
  have f1 := F.called_set.made
  have f2 := F.called_set.sub
  refine wpAny_call (codeAny_of_tree ?_)
  show wpAny _ _ (callAny (.type "set") _) _ _ _
  refine wpAny_pure ⟨Code.quiet_builtin _ (by decide +kernel), codeAny_builtin F.entry_type_call ?_⟩
  rw [Around.under_plain (weight_type_call_type "set" [.ref l] []) rfl]
  have f3 := F.called_set.notType
  have f4 := F.called_set.canCreate
  have f5 := F.typeCall_set_1 (.ref l)
  repeat (any_goals (first | assumption | wp_step))
  refine codeAny_mono (code_set_led1 (.ref l) (E := E) (Q₁ := fun z t => z = .ref s.heap.objs.size ∧ t = { s with heap := s.heap.push (setObj w) }) ⟨rfl, rfl⟩) fun r s₁ hr => ?_
  cases r with
  | error e => exact hr
  | ok fl =>
    cases fl with
    | ret obj =>
      obtain ⟨rfl, rfl⟩ := hr
      have hS : (s.heap.push (setObj w)).get? s.heap.objs.size = some (setObj w) := Heap.get?_push_size _ rfl
      have hT : Shared.TypeIs { s with heap := s.heap.push (setObj w) } (.ref s.heap.objs.size) "set" := ⟨_, hS, rfl⟩
      have f6 := F.called_set.init.lookup
      have f7 := F.called_set.init.bind (.ref s.heap.objs.size)
      repeat (any_goals (first | assumption | wp_step))
      refine codeAny_mono (codeAny_call_builtin (R := wants (fun r t => r = .none ∧ ∃ h' tk c, t = { s with heap := h', toks := tk } ∧ SetR w h' s.heap.objs.size (fun j => decide (j ∈ ns)) c ∧ c ≤ ns.length ∧
          (∀ b o, s.heap.get? b = some o → h'.get? b = some o)) E) F.called_set.init.plain F.entry_set_init (check_set_init_1 hT ?_)) fun r₂ s₂ hr₂ => ?_
      · have hlt : l < s.heap.objs.size := by
          obtain ⟨o, e, _⟩ := hl
          exact Heap.lt_size e
        have hl1 : (s.heap.push (setObj w)).IsList l items := hl.push _
        have n1 := F.sub_list_set
        have n2 := F.sub_list_frozenset
        have n3 : (Value.type "list" == Value.type "dict") = false := by decide
        obtain ⟨ol, e0, cl, nl, dl⟩ := id hl1
        unfold Builtin.«set.__init__» noKeywords Builtin.Frozenset.updateFrom
        generalize hPI : pyIter = PI
        obtain ⟨oc, od, dt, os⟩ := ol
        simp only at cl dl
        subst cl dl
        wp_walk
        subst hPI
        refine wpAny_pyIter_list hl1 ?_
        refine wpAny_bind (wpAny_runValue ?_)
        have ne : l ≠ (s.heap.push (setObj w)).objs.size := by
          rw [Heap.size_push]
          exact Nat.ne_of_lt (Nat.lt_succ_of_lt hlt)
        have hSf : s.heap.objs.size ∉ [(s.heap.push (setObj w)).objs.size, l] := by
          rw [Heap.size_push]
          simp only [List.mem_cons, List.mem_singleton, List.not_mem_nil, or_false, not_or]
          exact ⟨Nat.ne_of_lt (Nat.lt_succ_self _), Nat.ne_of_gt hlt⟩
        have hval : ∀ (i : Nat) (v : Value), items[i]? = some v → ∃ k t, ns[i]? = some k ∧ v = .int k t := fun i v hv => by
          have hi : i < ns.length := by
            rw [← sz]
            exact (Array.getElem?_eq_some_iff.mp hv).1
          obtain ⟨t, e⟩ := PyProof.Rows.IntsAre.int_at hit i v (by rw [Array.getElem?_toList]; exact hv)
          refine ⟨ns[i], t, List.getElem?_eq_getElem hi, ?_⟩
          rw [e, List.getD_eq_getElem?_getD, List.getElem?_eq_getElem hi] <;> rfl
        have h3 : A.in1.in1.in1.handled = none := by simp [hh]
        refine set_update_ints ((Walks.list h3 _ l ne items).toS) s.heap.objs.size hSf ns sz hb hval (items.size - 0) 0 _ (by omega) (Nat.zero_le _) ⟨⟨_, Heap.get?_push_size _ rfl, rfl, rfl⟩, (hl1.push _)⟩ ⟨0, Nat.le_refl 0, setR_new_at (Heap.get?_push_of_some _ hS)⟩ ?_
        intro t c' hm hc' hS'
        obtain ⟨h', g2, d', tk', os'⟩ := t
        have eg : g2 = s.gens := hm.gens
        have ed : d' = s.drawn := hm.drawn
        have eo : os' = s.os := hm.os
        subst eg ed eo
        rw [sz] at hc'
        refine wpAny_pure (wpAny_pure ⟨rfl, h', tk', c', rfl, hS', hc', fun b o e => ?_⟩)
        have b0 : b < s.heap.objs.size := Heap.lt_size e
        refine hm.heap b o ?_ (Heap.get?_push_of_some _ (Heap.get?_push_of_some _ e))
        rw [Heap.size_push]
        simp only [List.mem_cons, List.mem_singleton, List.not_mem_nil, or_false, not_or]
        exact ⟨Nat.ne_of_lt b0, Nat.ne_of_lt (Nat.lt_succ_of_lt b0)⟩
      · cases r₂ with
        | error e => exact hr₂
        | ok fl₂ =>
          cases fl₂ with
          | ret r =>
            obtain ⟨rfl, h', tk, c', rfl, k1, k2, k3⟩ := hr₂
            repeat (any_goals (first | assumption | wp_step))
            exact h _ _ _ k1 k2 k3
          | _ => exact hr₂.elim
    | _ => exact hr.elim
/-- sorted(x), x a set of ints -/
theorem sorted_of_set {a : Addr} {S : Int → Bool} {n : Nat} {Q : Value → Shared → Prop} (R : SetR w s.heap a S n) (hh : A.handled = none)
    (hQ : ∀ s' p (out : Array Value) (c : Nat) (ns : List Int), (∀ b o, s.heap.get? b = some o → s'.heap.get? b = some o) → s'.gens = s.gens → s'.os = s.os → s.heap.objs.size ≤ p →
      s'.heap.get? p = some (seqObj "list" out c) → IntsAre out.toList ns → ns.Pairwise (· < ·) → (∀ k, k ∈ ns ↔ S k = true) → ns.length ≤ sizeLine → Q (.ref p) s') :
    wpAny (model P w) A (call (.builtin "sorted") [.ref a]) Q E s := by
  obtain ⟨o, es, ep, t, ho, hex, hd, g, nd, hm, hb, hf, hn, hr, hl⟩ := R
  refine Calls.call_function_entry kind_sorted plain_sorted entry_sorted (args_sorted1 _) ?_
  unfold Builtin.«sorted»
  refine wpAny_bind (m := checkCount "sorted" 1 1 _) (wpAny_pure ?_)
  refine wpAny_bind (collect_set (A := A.in1) hh ⟨o, ho, hex.1, hd⟩ hf hb hr hl fun s1 vs k1 hz g1 o1 pm => ?_)
  have vl : vs.length = n := by rw [pm.length_eq, List.length_map, Array.length_toList]; exact hn
  have sl : vs.length ≤ sizeLine := by
    rw [vl, ← hn]
    have : scanBound ≤ sizeLine := by decide +kernel
    omega
  have hI : IntsAre vs (vs.map Builtin.Re.reRawOf) := ints_of vs fun v hv => by
    obtain ⟨e, he, q⟩ := List.mem_map.mp (pm.mem_iff.mp hv)
    obtain ⟨k, tk, h1, _⟩ := g e he
    exact ⟨k, tk, by rw [← q]; exact h1⟩
  have pk : (vs.map Builtin.Re.reRawOf).Perm (es.toList.map keyOf) := by
    have q := pm.map Builtin.Re.reRawOf
    rwa [List.map_map] at q
  refine wpAny_bind (wpAny_newList ?_ sl)
  have hoL : (s1.heap.push (seqObj "list" vs.toArray 0)).get? s1.heap.objs.size = some (seqObj "list" vs.toArray 0) := Heap.get?_push_size _ rfl
  refine wpAny_bind (wpAny_holding (wpAny_call_entry slot_list_sort ⟨_, hoL, rfl⟩ entry_list_sort (list_sort_ord swo_int hoL sl (fun h2 => ints_sortable hI h2) fun out a1 a2 => ⟨_, rfl, ?_⟩) (args_list_sort _)))
  obtain ⟨i1, i2, i3⟩ := ints_out hI a1 a2
  obtain ⟨c, hc⟩ := sortedHeap_at (vs := vs) (out := out.toArray) hoL
  have pn : (out.map iv).Perm (es.toList.map keyOf) := i2.trans pk
  refine wpAny_pure ⟨_, rfl, hQ _ s1.heap.objs.size out.toArray c (out.map iv) (fun b u e => ?_) g1 o1 hz hc (by simpa using i1) (lt_of_le_nodup _ i3 (pn.nodup_iff.mpr nd)) (fun k => by rw [pn.mem_iff, ← hm k]) ?_⟩
  · have q := k1 b u e
    have hlt := Heap.lt_size q
    show (sortedHeap (s1.heap.push (seqObj "list" vs.toArray 0)) s1.heap.objs.size vs out.toArray).get? b = some u
    rw [sortedHeap_old (Nat.ne_of_lt hlt) (by rw [size_push']; exact Nat.lt_succ_of_lt hlt)]
    exact Heap.get?_push_of_some _ q
  · rw [i2.length_eq, List.length_map]
    exact sl
end
theorem sorted_set_ep {X : Cx} {pins : List (Addr × Obj)} {σ : L2.St} {H : Hp} {s : Shared} {a : Addr} {S : Int → Bool} {n : Nat} {Q : VK} (hc : X.calm = true) (I : Inv X pins σ H s) (R : SetR X.w s.heap a S n)
    (h : ∀ (ms : List Int) (q : Addr), ms.Pairwise (· < ·) → (∀ k, k ∈ ms ↔ S k = true) → H q = none → Q (.ref q) (upd H q (.lst (ms.map V.int)))) : wpAny (model X.prog X.w) X.A (call (.builtin "sorted") [.ref a]) (EP X pins σ Q) X.xe s := by
  refine sorted_of_set R (I.ok.hd hc) fun s' p out c ms k2 g o hp hg hi hs hm hl2 => ?_
  have hz : (ms.map V.int).length ≤ sizeLine := by rw [List.length_map]; exact hl2
  have hn : H p = none := I.hok.fresh hp
  have J : Inv X pins σ (upd H p (.lst (ms.map V.int))) { s with heap := s'.heap, gens := s'.gens, drawn := s'.drawn, toks := s'.toks } :=
    I.call (ch := []) (Un.laid k2 hp hn) (I.hok.laid k2 hp ⟨hz, out.toList, c, vals_of_ints hi, hg⟩) (by rw [g]; exact I.bare) (fun _ z => nomatch z)
  have e : s' = { s with heap := s'.heap, gens := s'.gens, drawn := s'.drawn, toks := s'.toks } := by
    cases s'
    cases s
    cases o
    rfl
  rw [e]
  exact ⟨.ref p, _, J, rfl, h ms p hs hm hn⟩
/-- the unlike ints of x, ascending -/
def tSortedSet (K : PySem.W.Frag) (ta : TE) : TE := fun σ H Q => ta σ H fun x H1 => ∃ (p : Addr) (ns : List Int), x = .ref p ∧ (SqL K H1 p (ns.map V.int) ∨ SqT K H1 p (ns.map V.int)) ∧ ns.length ≤ 2000 ∧
  ∀ (ms : List Int) (q : Addr), ms.Pairwise (· < ·) → (∀ k, k ∈ ms ↔ k ∈ ns) → H1 q = none → Q (.ref q) (upd H1 q (.lst (ms.map V.int)))
theorem pe_sortedSet {X : Cx} {a : Expr} {ta : TE} {p p2 q pos : Pos} (hg : Gl X "sorted") (hm : X.mg "sorted" = none) (hg2 : Gl X "set") (hm2 : X.mg "set" = none) (ha : PE X a ta) (hc : X.calm = true := by rfl)
    (na : starEach [a] X.env = (false, eval a X.env) :: starEach [] X.env := by rfl) : PE X (.Call (.Name "sorted" p) [.Call (.Name "set" p2) [a] [] q] [] pos) (tSortedSet X.K ta) := by
  refine ⟨fun pins s σ H Q I h => ?_⟩
  refine Call_ (ld_blt I hg hm boot_sorted ?_)
  refine PyProof.Rows.callWith_builtin1 (PyProof.Rows.args_cons ?_ rfl) rfl rfl
  refine Call_ (ld_blt I hg2 hm2 boot_set ?_)
  refine PyProof.Rows.callWith_type1 (PyProof.Rows.args_cons (thn (ha.run pins s σ H _ I h) fun v s1 ⟨x, H1, I1, r1, q1⟩ => PyProof.Rows.args_nil ?_) na) na rfl
  obtain ⟨l, ns, rfl, hq, hl, q1⟩ := q1
  cases r1
  have fin : ∀ (h' : Heap) (tk c : Nat), SetR X.w h' s1.heap.objs.size (fun j => decide (j ∈ ns)) c → (∀ b o, s1.heap.get? b = some o → h'.get? b = some o) →
      wpAny (model X.prog X.w) X.A (call (.builtin "sorted") [.ref s1.heap.objs.size]) (EP X pins σ Q) X.xe { s1 with heap := h', toks := tk } := by
    intro h' tk c R k
    have I2 : Inv X pins σ H1 { s1 with heap := h', toks := tk } := I1.kept fun b o e => k b o e
    exact sorted_set_ep hc I2 R fun ms q hs hm hn => q1 ms q hs (fun k => by rw [hm k, decide_eq_true_eq]) hn
  rcases hq with hq | hq
  · obtain ⟨its, r, pl, hz⟩ := I1.list hq
    exact set_of_list ns (I1.ok.hd hc) pl.isList (by simpa using ints_of_vals r) (by unfold scanBound; omega) fun h' tk c R1 hcn k => PyProof.Rows.args_nil (fin h' tk c R1 k)
  · obtain ⟨its, r, pt, hz⟩ := I1.tuple hq
    exact call_set_tupI ns (I1.ok.hd hc) (show s1.heap.IsTuple l its.toArray from pt) (ints_of_vals r) (by unfold scanBound; omega) fun h' tk c R1 hcn k => PyProof.Rows.args_nil (fin h' tk c R1 k)
end OB
namespace K70
open PySem PySem.Spec PyProof.Rows L2 OB SkE
def top (i : Nat) : Stmt := PySem.Challenge.pw_oneflip_k70_tables_in_gray_order.main.body.getD i (.Pass ⟨0, 0, 0, 0⟩)
abbrev s_init_BadNumber : Stmt := inClass (top 2) 0
abbrev s_init_BadBits : Stmt := inClass (top 3) 0
abbrev s_init_BadLayout : Stmt := inClass (top 4) 0
abbrev s_init_BadText : Stmt := inClass (top 5) 0
abbrev s_is_integer : Stmt := top 7
abbrev s_is_within : Stmt := top 8
abbrev s_is_list : Stmt := top 9
abbrev s_are_unlike : Stmt := top 10
abbrev s_need_number : Stmt := top 11
abbrev s_items_of : Stmt := top 14
abbrev s_integer_of : Stmt := top 15
abbrev s_item_at : Stmt := top 16
abbrev s_integer_at : Stmt := top 17
abbrev s_need_end : Stmt := top 18
abbrev s_gray : Stmt := top 20
abbrev s_Layout_init : Stmt := inClass (top 25) 0
abbrev s_Layout_eq : Stmt := inClass (top 25) 1
abbrev s_Layout_str : Stmt := inClass (top 25) 2
abbrev s_Layout_read : Stmt := inClass (top 25) 3
abbrev s__is_meaning : Stmt := top 26
abbrev s__meaning_at : Stmt := top 27
abbrev s_need_layout : Stmt := top 28
abbrev s_table_of : Stmt := top 32
abbrev s__row_of : Stmt := top 33
abbrev s__law_tub : Stmt := top 35
abbrev s__law_scoop : Stmt := top 36
abbrev s__law_pick : Stmt := top 37
abbrev s__law_stirred : Stmt := top 38
abbrev s__law_ordered : Stmt := top 39
abbrev s__law_sign : Stmt := top 40
abbrev s__law_due : Stmt := top 41
abbrev s__law_heard : Stmt := top 42
abbrev s__law_word : Stmt := top 43
abbrev s_law : Stmt := top 44
theorem sc_init_BadNumber : FnScope ["self", "part"] ["self", "part"] (defScope s_init_BadNumber) := ⟨rfl, rfl, rfl, by decide +kernel, rfl, by decide +kernel, by decide +kernel⟩
theorem sc_init_BadBits : FnScope ["self", "part"] ["self", "part"] (defScope s_init_BadBits) := ⟨rfl, rfl, rfl, by decide +kernel, rfl, by decide +kernel, by decide +kernel⟩
theorem sc_init_BadLayout : FnScope ["self", "part"] ["self", "part"] (defScope s_init_BadLayout) := ⟨rfl, rfl, rfl, by decide +kernel, rfl, by decide +kernel, by decide +kernel⟩
theorem sc_init_BadText : FnScope ["self", "line", "item"] ["self", "line", "item"] (defScope s_init_BadText) := ⟨rfl, rfl, rfl, by decide +kernel, rfl, by decide +kernel, by decide +kernel⟩
/-- what the module leaves as it is, and its own constants -/
structure Blt (mg : Str → Option Value) : Prop where
  g_MOST_DIGITS : ∃ t, mg "MOST_DIGITS" = some (.int 140 t)
  g_MOST_BITS : ∃ t, mg "MOST_BITS" = some (.int 8 t)
  g_MOST_STATE : ∃ t, mg "MOST_STATE" = some (.int 63 t)
  g_NOTHING_layouts : ∃ t, mg "NOTHING_layouts" = some (.str "-" t)
  g_SIGNS : ∃ t, mg "SIGNS" = some (.str "0123456789abcdefghijklmnopqrstuvwxyzABCDEFGHIJKLMNOPQRSTUVWXYZ+=" t)
  g_NOTHING_tables : ∃ t, mg "NOTHING_tables" = some (.str "." t)
  n_abs : mg "abs" = none
  n_all : mg "all" = none
  n_bool : mg "bool" = none
  n_enumerate : mg "enumerate" = none
  n_int : mg "int" = none
  n_isinstance : mg "isinstance" = none
  n_len : mg "len" = none
  n_list : mg "list" = none
  n_range : mg "range" = none
  n_repr : mg "repr" = none
  n_set : mg "set" = none
  n_str : mg "str" = none
  n_tuple : mg "tuple" = none
section
variable {P : Program} {w : World} {K : PySem.W.Frag} {mg : Str → Option Value} {base : Heap}
/-! ### checks -/
theorem sc_is_integer : FnScope ["value"] ["value"] (defScope s_is_integer) := ⟨rfl, rfl, rfl, by decide +kernel, rfl, by decide +kernel, by decide +kernel⟩
theorem ok_is_integer {f : Addr} {fd : FuncData} (F : Fun K "is_integer" "is_integer" s_is_integer f fd) (T : Blt mg) : FnOk P w K mg base CX0 1 f fd ["value"] (spIsInt K) := by
  refine F.ok sc_is_integer (fun vs H Q E h => ?_) (fun cdv A outer s H vs Q E hr h => ?_)
  · obtain ⟨x, b, rfl, _⟩ := h
    rfl
  · obtain ⟨x, b, rfl, ⟨n, b1, b2, ty, e1, e2, e3⟩, k⟩ := h
    refine ⟨_, (pss_one (ps_ret (pe_and (pe_callB call_isi (by rfl) T.n_isinstance (by decide +kernel) (pa_cons (pv 0) (pa_cons (pe_bltn (v := .ty "int") (by rfl) T.n_int (by decide +kernel) rfl) pa_nil))) (pe_one (pe_not (pe_callB call_isi (by rfl) T.n_isinstance (by decide +kernel) (pa_cons (pv 0) (pa_cons (pe_bltn (v := .ty "bool") (by rfl) T.n_bool (by decide +kernel) rfl) pa_nil)))))))), ?_⟩
    refine ⟨x, rfl, x, .ty "int", .type n, .type "int", b1, rfl, .ty _, ty, kit_ty e1, b1, rfl, ?_⟩
    refine iteB (fun c => ?_) (fun c => ?_)
    · refine ⟨x, rfl, x, .ty "bool", .type n, .type "bool", b2, rfl, .ty _, ty, kit_ty e2, b2, rfl, ?_⟩
      rw [c] at e3
      rw [show (!b2) = b by rw [e3, Bool.true_and]]
      exact k
    · rw [c] at e3
      rw [show false = b by rw [e3, Bool.false_and]]
      exact k
theorem sc_is_within : FnScope ["value", "least", "most"] ["value", "least", "most"] (defScope s_is_within) := ⟨rfl, rfl, rfl, by decide +kernel, rfl, by decide +kernel, by decide +kernel⟩
theorem within_end {lo hi : Option Int} {x : V} {b : Bool} {Q : VK} {H : Hp} (hI : IsI K H x b) (k : Q (.bl (b && inB lo hi x)) H) (hb : b = true) : ∃ i, x = .int i ∧ Q (.bl (loOk lo i && hiOk hi i)) H := by
  subst hb
  obtain ⟨i, rfl⟩ := isI_true hI
  exact ⟨i, rfl, k⟩
theorem ok_is_within {f f1 : Addr} {fd fd1 : FuncData} (F : Fun K "is_within" "is_within" s_is_within f fd) (D_is_integer : Df K mg "is_integer" s_is_integer ["value"] f1 fd1) (T : Blt mg) : FnOk P w K mg base CX0 2 f fd ["value", "least", "most"] (spWithin K) := by
  have G_is_integer : FnOk P w K mg base CX0 1 f1 fd1 ["value"] (spIsInt K) := ok_is_integer D_is_integer.F T
  refine F.ok sc_is_within (fun vs H Q E h => ?_) (fun cdv A outer s H vs Q E hr h => ?_)
  · obtain ⟨x, lo, hi, b, rfl, _⟩ := h
    rfl
  · obtain ⟨x, lo, hi, b, rfl, hI, k⟩ := h
    refine ⟨_, (pss_cons (ps_if (pt_not (pt_val (pe_call G_is_integer (hr.mono (by decide)) (by rfl) D_is_integer.g D_is_integer.F.kp D_is_integer.b .nil pass0 (pa_cons (pv 0) pa_nil)))) (pss_one (ps_ret pe_bl)) pss_nil)
  (pss_one (ps_ret (pe_and (pe_or (pe_cmpR op_isN (pv 1) pe_non (nomark _)) (pe_one (pe_cmpR op_le (pv 1) (pv 0) (nomark _)))) (pe_one (pe_or (pe_cmpR op_isN (pv 2) pe_non (nomark _)) (pe_one (pe_cmpR op_le (pv 0) (pv 2) (nomark _))))))))), ?_⟩
    refine ⟨x, rfl, x, b, rfl, hI, b, rfl, ?_⟩
    cases b with
    | false => exact iteT k
    | true =>
      obtain ⟨i, rfl, k'⟩ := within_end hI k rfl
      clear k
      have k := k'
      clear k'
      refine iteF ?_
      refine ⟨_, rfl, rfl, _, rfl, ?_⟩
      cases lo with
      | none =>
        refine iteT ?_
        refine ⟨_, rfl, iteT ?_⟩
        refine ⟨_, rfl, rfl, _, rfl, ?_⟩
        cases hi with
        | none => exact iteT k
        | some h => exact iteF ⟨_, rfl, _, rfl, _, _, rfl, rfl, k⟩
      | some l =>
        refine iteF ?_
        refine ⟨_, rfl, _, rfl, _, _, rfl, rfl, _, rfl, ?_⟩
        refine iteB (fun c => ?_) (fun c => ?_)
        · refine ⟨_, rfl, rfl, _, rfl, ?_⟩
          have e : loOk (some l) i = true := c
          rw [e, Bool.true_and] at k
          cases hi with
          | none => exact iteT k
          | some h => exact iteF ⟨_, rfl, _, rfl, _, _, rfl, rfl, k⟩
        · have e : loOk (some l) i = false := c
          rw [e, Bool.false_and] at k
          exact k
/-! ### what raises -/
/-! ### what raises -/
theorem sc_need_number : FnScope ["value", "part", "least", "most"] ["value", "part", "least", "most"] (defScope s_need_number) := ⟨rfl, rfl, rfl, by decide +kernel, rfl, by decide +kernel, by decide +kernel⟩
theorem ok_need_number {f f1 f2 C fI : Addr} {fd fd1 fd2 fdI : FuncData} (F : Fun K "need_number" "need_number" s_need_number f fd) (D_is_within : Df K mg "is_within" s_is_within ["value", "least", "most"] f2 fd2) (D_is_integer : Df K mg "is_integer" s_is_integer ["value"] f1 fd1) (T : Blt mg)
    (R_BadNumber : Err P w K mg base "BadNumber" "part" C fI fdI) : FnOk P w K mg base (L2.CX P w) 4 f fd ["value", "part", "least", "most"] (spNeedNumber K C) := by
  have G_is_within : FnOk P w K mg base CX0 2 f2 fd2 ["value", "least", "most"] (spWithin K) := ok_is_within D_is_within.F D_is_integer T
  refine F.okX sc_need_number (fun vs H Q E h => ?_) (fun cdv A outer s H vs Q E hr h => ?_)
  · obtain ⟨x, part, lo, hi, b, rfl, _⟩ := h
    rfl
  · obtain ⟨x, part, lo, hi, b, rfl, hI, k1, k2⟩ := h
    refine ⟨_, (pss_one (ps_if (pt_not (pt_val (pe_call G_is_within (hr.mono (by decide)) (by rfl) D_is_within.g D_is_within.F.kp D_is_within.b .nil pass0 (pa_cons (pv 0) (pa_cons (pv 2) (pa_cons (pv 3) pa_nil)))))) (pss_one (ps_raise1 rfl (takes_of rfl rfl rfl rfl) R_BadNumber (hr.mono (by decide)) (by rfl) (pv 1))) pss_nil)), ?_⟩
    refine ⟨x, rfl, _, rfl, _, rfl, x, lo, hi, b, rfl, hI, _, rfl, ?_⟩
    refine iteB (fun c => ?_) (fun c => ?_)
    · have c' : (b && inB lo hi x) = false := by
        cases e : (b && inB lo hi x) with
        | false => rfl
        | true => rw [e] at c; cases c
      refine ⟨.str part, rfl, ?_⟩
      refine raise1_of (W := fun cls d _ H => E cls d H) R_BadNumber.T R_BadNumber.no ?_
      exact fun d hd => k2 c' d hd
    · have c' : (b && inB lo hi x) = true := by
        cases e : (b && inB lo hi x) with
        | true => rfl
        | false => rw [e] at c; cases c
      exact k1 c'
end
end K70
namespace K70
open PySem PySem.Spec PyProof.Rows L2 OB SkE
section
variable {P : Program} {w : World} {K : PySem.W.Frag} {mg : Str → Option Value} {base : Heap}
theorem cut60 (ns : List Int) : cutV (ns.map V.int) none (some 60) = (ns.take 60).map V.int := by
  unfold cutV
  have a : HT.sIx (ns.map V.int).length 0 none = 0 := rfl
  rw [a, List.drop_zero, Nat.sub_zero, List.map_take]
  have e : HT.sIx (ns.map V.int).length (ns.map V.int).length (some 60) = min 60 (ns.map V.int).length := HT.sIx_nat _ _ 60
  rw [e]
  by_cases h : (ns.map V.int).length ≤ 60
  · rw [Nat.min_eq_right h, List.take_length, List.take_of_length_le h]
  · rw [Nat.min_eq_left (by omega)]
theorem take_more {α : Type} {l : List α} {i : Nat} {x : α} (h : l[i]? = some x) : l.take (i + 1) = l.take i ++ [x] := by
  rw [List.take_add_one, h]
  rfl
theorem sc__law_tub : FnScope ["script", "cell"] ["script"] (defScope s__law_tub) := ⟨rfl, rfl, rfl, by decide +kernel, rfl, by decide +kernel, by decide +kernel⟩
abbrev N__law_tub : List Str := ["script", "cell"]
theorem ok__law_tub {f : Addr} {fd : FuncData} (F : Fun K "_law_tub" "_law_tub" s__law_tub f fd) (T : Blt mg) : FnOk P w K mg base CX0 1 f fd ["script"] (spLot K) := by
  refine F.ok sc__law_tub (fun vs H Q E h => ?_) (fun cdv A outer s H vs Q E hr h => ?_)
  · obtain ⟨a, ns, rfl, _⟩ := h
    rfl
  · obtain ⟨a, ns, rfl, hS, hl, k⟩ := h
    refine ⟨_, (pss_one (ps_ret (pe_lst (pa_cons (pe_lc (own := [("cell", 1)]) (g := (gName 1)) (tt := tYes) rfl sc__law_tub.nd (pi_list (pe_slice sl_list (pv 0) po_none (po_some pe_int))) (blkOk_by (N := N__law_tub) (own := [("cell", 1)]) (sc := defScope s__law_tub) (by decide +kernel)) (fun _ _ _ _ _ => (pg_name (i := 1) sc__law_tub.nd rfl (Or.inl rfl))) (fun _ _ _ _ _ => pts_nil) (fun _ _ _ _ _ => (pe_callTy call_int1 (by rfl) T.n_int (by decide +kernel) (pa_cons (pv 1) pa_nil)))) (pa_cons pe_int (pa_cons pe_int pa_nil)))))), ?_⟩
    refine ⟨_, rfl, _, rfl, a, _, rfl, hS, fun c hc => ?_⟩
    have e1 : cutV (ns.map V.int) none (some 60) = (ns.take 60).map V.int := cut60 ns
    rw [e1]
    have S0 : Same H (upd H c (.lst ((ns.take 60).map V.int))) := same_new hc
    refine ⟨c, rfl, ⟨_, .inl (.inl upd_same)⟩, fun b hb => ?_⟩
    have ncb : c ≠ b := ne_of_none upd_same hb
    refine lc_list (K := K) (a := c) (xs := (ns.take 60).map V.int) (fun i H' => Same (upd H c (.lst ((ns.take 60).map V.int))) H' ∧ H' b = some (.lst (((ns.take 60).map V.int).take i)))
      ⟨same_new hb, upd_same⟩ (fun i H' _ h => h.1.seq (.inl (.inl upd_same))) ?_ ?_
    · rintro i y H' hy ⟨S1, h1⟩
      obtain ⟨z, hz, rfl⟩ : ∃ z, (ns.take 60)[i]? = some z ∧ y = V.int z := by
        rw [List.getElem?_map] at hy
        cases e : (ns.take 60)[i]? with
        | none => rw [e] at hy; cases hy
        | some z => rw [e] at hy; exact ⟨z, rfl, (Option.some.inj hy).symm⟩
      refine ⟨rfl, _, rfl, .inl ⟨_, rfl, _, h1, ?_, ?_, ?_⟩⟩
      · refine small1000 ?_
        rw [List.length_take, List.length_map, List.length_take]
        omega
      · intro q o e
        have nb : q ≠ b := ne_of_none e hb
        rw [upd_ne nb]
        exact S1 q o e
      · rw [upd_same, ← List.map_take, ← List.map_take, take_more hz, List.map_append]
        rfl
    · rintro H' ⟨S1, h1⟩
      rw [List.take_length] at h1
      refine ⟨(by show 3 ≤ sizeLine; decide), fun p hp => ?_⟩
      have S2 : Same H H' := S0.trans S1
      have hb0 : H b = none := S0.free hb
      refine k p b _ (S2.free hp) hb0 ⟨ns.take 60, 0, 0, upd_same, ?_, Int.le_refl _, Int.le_refl _⟩ (S2.trans (same_new hp))
      rw [upd_ne (ne_of_none h1 hp)]
      exact h1
theorem sc__law_scoop : FnScope ["tub", "many", "rest", "turn", "cell", "mixed"] ["tub", "many"] (defScope s__law_scoop) := ⟨rfl, rfl, rfl, by decide +kernel, rfl, by decide +kernel, by decide +kernel⟩
theorem ok__law_scoop {f : Addr} {fd : FuncData} (F : Fun K "_law_scoop" "_law_scoop" s__law_scoop f fd) (T : Blt mg) : FnOk P w K mg base CX0 1 f fd ["tub", "many"] spDraw := by
  refine F.ok sc__law_scoop (fun vs H Q E h => ?_) (fun cdv A outer s H vs Q E hr h => ?_)
  · obtain ⟨p, b, n, many, rfl, _⟩ := h
    rfl
  · obtain ⟨p, b, n, many, rfl, O, hn, hm, hm2, k⟩ := h
    obtain ⟨ns, t, l, hp, hb, ht, htn⟩ := id O
    have npb : p ≠ b := O.ne
    refine ⟨_, (pss_cons (ps_if (pt_cmpR op_gt (pe_ix ix_list (pv 0) pe_int (fun _ _ => rfl)) pe_int (nomark _)) (pss_cons (ps_set (i := 2) sc__law_scoop.nd rfl (Or.inl rfl) (pe_callTy call_int1 (by rfl) T.n_int (by decide +kernel) (pa_cons (pe_ix ix_list (pv 0) pe_int (fun _ _ => rfl)) pa_nil)))
  (pss_cons (ps_asg (pe_op op_fdivW (pv 2) (pv 1)) (pg_sub (pv 0) pe_int set_list))
  (pss_one (ps_ret (pe_op op_mod (pe_callTy call_int1 (by rfl) T.n_int (by decide +kernel) (pa_cons (pv 2) pa_nil)) (pv 1)))))) pss_nil)
  (pss_cons (ps_set (i := 3) sc__law_scoop.nd rfl (Or.inl rfl) (pe_ix ix_list (pv 0) pe_int (fun _ _ => rfl)))
  (pss_cons (ps_asg (pe_op op_add (pv 3) pe_int) (pg_sub (pv 0) pe_int set_list))
  (pss_cons (ps_set (i := 4) sc__law_scoop.nd rfl (Or.inl rfl) (pe_op op_add (pe_op op_mul pe_int (pv 3)) pe_int))
  (C8.pss_cut (ps_if (pt_cmpR (op_neD hr.units) (pe_ix ix_list (pv 0) pe_int (fun _ _ => rfl)) (pe_lst pa_nil) (nomark _)) (pss_one (ps_set (i := 4) sc__law_scoop.nd rfl (Or.inl rfl) (pe_ix ix_list (pe_ix ix_list (pv 0) pe_int (fun _ _ => rfl)) (pe_op op_mod (pe_callTy call_int1 (by rfl) T.n_int (by decide +kernel) (pa_cons (pv 3) pa_nil)) (pe_callB call_len_seq (by rfl) T.n_len (by decide +kernel) (pa_cons (pe_ix ix_list (pv 0) pe_int (fun _ _ => rfl)) pa_nil))) (fun _ _ => rfl)))) pss_nil)
  (pss_cons (ps_if (PW.pt (pw_and (pt_cmpR op_lt (pv 3) (pe_callB call_len_seq (by rfl) T.n_len (by decide +kernel) (pa_cons (pe_ix ix_list (pv 0) pe_int (fun _ _ => rfl)) pa_nil)) (nomark _)) (pw_and1 (pt_cmpR op_ge (pe_callB call_abs (by rfl) T.n_abs (by decide +kernel) (pa_cons (pv 4) pa_nil)) (pe_op op_pow pe_int pe_int) (nomark _))))) (pss_cons (ps_set (i := 2) sc__law_scoop.nd rfl (Or.inl rfl) (pe_op op_add (pe_op op_mul pe_int (pe_op op_sub (pe_callB call_abs (by rfl) T.n_abs (by decide +kernel) (pa_cons (pv 4) pa_nil)) (pe_op op_pow pe_int pe_int))) (pe_callTy call_int1 (by rfl) T.n_int (by decide +kernel) (pa_cons (pe_cmpR op_lt (pv 4) pe_int (nomark _)) pa_nil))))
  (pss_cons (ps_asg (pe_op op_fdivW (pv 2) (pv 1)) (pg_sub (pv 0) pe_int set_list))
  (pss_one (ps_ret (pe_op op_mod (pe_callTy call_int1 (by rfl) T.n_int (by decide +kernel) (pa_cons (pv 2) pa_nil)) (pv 1)))))) pss_nil)
  (pss_cons (ps_set (i := 5) sc__law_scoop.nd rfl (Or.inl rfl) (pe_op op_mod (pe_callTy call_int1 (by rfl) T.n_int (by decide +kernel) (pa_cons (pe_op op_pow (pe_op op_add (pe_op op_add (pe_op op_mod (pe_callTy call_int1 (by rfl) T.n_int (by decide +kernel) (pa_cons (pv 4) pa_nil)) pe_int) (pe_op op_mul pe_int (pv 3))) pe_int) pe_int) pa_nil)) pe_int))
  (pss_cons (ps_set (i := 5) sc__law_scoop.nd rfl (Or.inl rfl) (pe_op op_mod (pe_callTy call_int1 (by rfl) T.n_int (by decide +kernel) (pa_cons (pe_op op_pow (pe_op op_add (pe_op op_add (pe_op op_mul (pv 5) (pe_op op_add (pe_op op_mul pe_int (pv 3)) pe_int)) (pe_op op_mul (pe_op op_mul pe_int (pv 3)) (pv 3))) pe_int) pe_int) pa_nil)) pe_int))
  (pss_one (ps_ret (pe_op op_mod (pe_callTy call_int1 (by rfl) T.n_int (by decide +kernel) (pa_cons (pe_op op_fdiv (pv 5) pe_int) pa_nil)) (pv 1)))))))))))), ?_⟩
    -- quay[2] > 0
    refine ⟨_, rfl, p, _, _, _, rfl, rfl, SqL.of hp, rfl, _, _, rfl, rfl, _, rfl, ?_⟩
    refine ite2 (fun c => ?_) (fun c => ?_)
    · -- left = int(quay[2]); quay[2] = left // many; return int(left) % many
      refine ⟨_, rfl, p, _, _, _, rfl, rfl, SqL.of hp, rfl, .inl ⟨_, rfl, ?_⟩⟩
      refine ⟨_, rfl, _, rfl, _, _, rfl, rfl, wide_div hm hm2 (by decide) (by decide), _, rfl, p, _, _, _, rfl, rfl, hp, rfl, ?_⟩
      refine ⟨_, rfl, .inl ⟨_, rfl, _, rfl, _, _, rfl, rfl, hm, ?_⟩⟩
      refine k _ _ (Int.emod_nonneg _ (by omega)) (Int.emod_lt_of_pos _ hm) ⟨ns, t, _, upd_same, ?_, ht, by omega⟩ but_at
      rw [upd_ne npb.symm]
      exact hb
    · -- turn = quay[1]; quay[1] = turn + 1; cell = A * turn + B
      refine ⟨_, rfl, p, _, _, _, rfl, rfl, SqL.of hp, rfl, ?_⟩
      refine ⟨_, rfl, _, _, rfl, rfl, _, rfl, p, _, _, _, rfl, rfl, hp, rfl, ?_⟩
      refine ⟨_, rfl, _, _, rfl, rfl, .inl ⟨by decide, by decide⟩, _, _, rfl, rfl, ?_⟩
      -- quay[0] != []
      refine ⟨fun σ' H' => ∃ c0 : Int, σ' = [some (.ref p), some (.int many), none, some (.int t), some (.int c0), none] ∧ H' p = some (.lst [.ref b, .int (t + 1), .int l]) ∧ H' b = some (.lst (ns.map V.int)) ∧ But p H H', ?_, ?_⟩
      rotate_left
      · rintro σ' H' ⟨c0, rfl, hp2, hb2, S2⟩
        have ht2 : t ≤ 1000000 := by omega
        have fin : ∀ r : Int, 0 ≤ r → r < many → Q (.int r) H' := fun r h1 h2 => k r H' h1 h2 ⟨ns, t + 1, l, hp2, hb2, by omega, by omega⟩ S2
        have end_ : ∀ x : Int, Q (.int (x % many)) H' := fun x => fin _ (Int.emod_nonneg _ (by omega)) (Int.emod_lt_of_pos _ hm)
        refine ⟨_, rfl, _, rfl, p, _, _, _, rfl, rfl, SqL.of hp2, rfl, b, _, rfl, .inl (SqL.of hb2), _, _, rfl, rfl, _, rfl, ?_⟩
        refine ite2 (fun c1 => ?_) (fun c1 => ?_)
        · refine ⟨_, rfl, _, rfl, _, _, rfl, rfl, ⟨by decide, by decide, by decide⟩, _, _, rfl, rfl, _, rfl, ?_⟩
          refine ite2 (fun c2 => ?_) (fun c2 => ?_)
          · refine ⟨_, rfl, _, rfl, _, _, rfl, rfl, ⟨by decide, by decide, by decide⟩, _, _, rfl, rfl, _, _, rfl, rfl, .inl ⟨by decide, by decide⟩, ?_⟩
            refine ⟨_, rfl, _, _, rfl, rfl, .inr ⟨_, rfl, _, _, rfl, rfl, ?_⟩⟩
            refine ⟨_, rfl, _, rfl, _, _, rfl, rfl, wide_div hm hm2 (by decide) (by decide), _, rfl, p, _, _, _, rfl, rfl, hp2, rfl, ?_⟩
            refine ⟨_, rfl, .inl ⟨_, rfl, _, rfl, _, _, rfl, rfl, hm, ?_⟩⟩
            refine k _ _ (Int.emod_nonneg _ (by omega)) (Int.emod_lt_of_pos _ hm) ⟨ns, t + 1, _, upd_same, ?_, by omega, by omega⟩ (S2.trans but_at)
            rw [upd_ne npb.symm]
            exact hb2
          · refine ⟨_, rfl, .inl ⟨_, rfl, _, _, rfl, rfl, (by show (0 : Int) < _; decide), _, rfl, _, _, rfl, rfl, .inl ⟨by decide, by decide⟩, _, _, rfl, rfl, _, _, rfl, rfl, _, _, rfl, rfl, ⟨by decide, by decide, mix1 (by decide) (by decide) ht ht2 (by decide) (by decide) (by decide) (by decide)⟩, .inl ⟨_, rfl, _, _, rfl, rfl, (by show (0 : Int) < _; decide), ?_⟩⟩⟩
            refine ⟨_, rfl, _, rfl, _, _, rfl, rfl, .inl ⟨by decide, by decide⟩, _, _, rfl, rfl, _, _, rfl, rfl, .inl (mod_lim (by decide) (by decide)), _, rfl, _, _, rfl, rfl, .inl ⟨by decide, by decide⟩, _, rfl, _, _, rfl, rfl, .inr ⟨by omega, by omega⟩, _, _, rfl, rfl, _, _, rfl, rfl, _, _, rfl, rfl,
              ⟨by decide, by decide, mix2 (by decide) (by decide) ht ht2 (by decide) (by decide) (by decide) (by decide) (by decide) (by decide)⟩, .inl ⟨_, rfl, _, _, rfl, rfl, (by show (0 : Int) < _; decide), ?_⟩⟩
            exact ⟨_, rfl, _, _, rfl, rfl, ⟨by decide, by decide⟩, .inl ⟨_, rfl, _, rfl, _, _, rfl, rfl, hm, end_ _⟩⟩
        · refine ⟨_, rfl, .inl ⟨_, rfl, _, _, rfl, rfl, (by show (0 : Int) < _; decide), _, rfl, _, _, rfl, rfl, .inl ⟨by decide, by decide⟩, _, _, rfl, rfl, _, _, rfl, rfl, _, _, rfl, rfl, ⟨by decide, by decide, mix1 (by decide) (by decide) ht ht2 (by decide) (by decide) (by decide) (by decide)⟩, .inl ⟨_, rfl, _, _, rfl, rfl, (by show (0 : Int) < _; decide), ?_⟩⟩⟩
          refine ⟨_, rfl, _, rfl, _, _, rfl, rfl, .inl ⟨by decide, by decide⟩, _, _, rfl, rfl, _, _, rfl, rfl, .inl (mod_lim (by decide) (by decide)), _, rfl, _, _, rfl, rfl, .inl ⟨by decide, by decide⟩, _, rfl, _, _, rfl, rfl, .inr ⟨by omega, by omega⟩, _, _, rfl, rfl, _, _, rfl, rfl, _, _, rfl, rfl,
            ⟨by decide, by decide, mix2 (by decide) (by decide) ht ht2 (by decide) (by decide) (by decide) (by decide) (by decide) (by decide)⟩, .inl ⟨_, rfl, _, _, rfl, rfl, (by show (0 : Int) < _; decide), ?_⟩⟩
          exact ⟨_, rfl, _, _, rfl, rfl, ⟨by decide, by decide⟩, .inl ⟨_, rfl, _, rfl, _, _, rfl, rfl, hm, end_ _⟩⟩
      refine ⟨_, rfl, p, _, _, _, rfl, rfl, SqL.of upd_same, rfl, Nat.zero_le _, fun l0 hl0 => ?_⟩
      have hp1 : (upd (upd H p (.lst [.ref b, .int (t + 1), .int l])) l0 (.lst [])) p = some (.lst [.ref b, .int (t + 1), .int l]) := by
        rw [upd_ne (ne_of_none upd_same hl0), upd_same]
      have hb1 : (upd (upd H p (.lst [.ref b, .int (t + 1), .int l])) l0 (.lst [])) b = some (.lst (ns.map V.int)) := by
        have e : (upd H p (.lst [.ref b, .int (t + 1), .int l])) b = some (.lst (ns.map V.int)) := by
          rw [upd_ne npb.symm]
          exact hb
        rw [upd_ne (ne_of_none e hl0)]
        exact e
      have S1 : But p H (upd (upd H p (.lst [.ref b, .int (t + 1), .int l])) l0 (.lst [])) := but_at.trans (But.of (same_new hl0))
      refine ⟨.list (ns.map PyData.int), .list [], Dp.lst (SqL.of hb1) (dp_ints ns), Dp.lst (SqL.of upd_same) .nil, shaped_ints ns, shaped_ints [], _, rfl, ?_⟩
      rw [eqv_nil]
      refine ite2 (fun c => ?_) (fun c => ?_)
      · have c : ns ≠ [] := by simpa using c
        have hl : 0 < ns.length := List.length_pos_iff.mpr c
        have hl2 : (0 : Int) < ((ns.map V.int).length : Nat) := by
          rw [List.length_map]
          omega
        have h1 := Int.emod_nonneg t (show (((ns.map V.int).length : Nat) : Int) ≠ 0 by omega)
        have h2 := Int.emod_lt_of_pos t hl2
        obtain ⟨j, hj⟩ : ∃ j : Nat, t % (((ns.map V.int).length : Nat) : Int) = (j : Int) := ⟨_, (Int.toNat_of_nonneg h1).symm⟩
        have hj2 : j < ns.length := by
          rw [List.length_map] at hj h2
          omega
        have hx : (ns.map V.int)[j]? = some (V.int ns[j]) := by
          rw [List.getElem?_map, List.getElem?_eq_getElem hj2]
          rfl
        refine ⟨_, rfl, p, _, _, _, rfl, rfl, SqL.of hp1, rfl, ?_⟩
        refine ⟨_, rfl, .inl ⟨_, rfl, _, rfl, p, _, _, _, rfl, rfl, SqL.of hp1, rfl, b, _, rfl, .inl (SqL.of hb1), _, _, rfl, rfl, hl2, ?_⟩⟩
        exact ⟨b, _, _, V.int ns[j], rfl, rfl, SqL.of hb1, at_of hj hx, ns[j], rfl, hp1, hb1, S1⟩
      · exact ⟨_, rfl, hp1, hb1, S1⟩

/-- one of some things, drawn -/
def spOne : Sp := fun vs H Q _ => ∃ (p b l : Addr) (n : Nat) (xs : List V), vs = [.ref p, .ref l] ∧ Orch H p b n ∧ n < 1000000 ∧ H l = some (.lst xs) ∧ l ≠ p ∧ 0 < xs.length ∧ xs.length ≤ 1000 ∧
  ∀ (j : Nat) (x : V) (H' : Hp), xs[j]? = some x → Orch H' p b (n + 1) → But p H H' → Q x H'

theorem sc__law_pick : FnScope ["tub", "some"] ["tub", "some"] (defScope s__law_pick) := ⟨rfl, rfl, rfl, by decide +kernel, rfl, by decide +kernel, by decide +kernel⟩
theorem ok__law_pick {f f1 : Addr} {fd fd1 : FuncData} (F : Fun K "_law_pick" "_law_pick" s__law_pick f fd) (T : Blt mg) (D__law_scoop : Df K mg "_law_scoop" s__law_scoop ["tub", "many"] f1 fd1) : FnOk P w K mg base CX0 2 f fd ["tub", "some"] spOne := by
  have G__law_scoop : FnOk P w K mg base CX0 1 f1 fd1 ["tub", "many"] spDraw := ok__law_scoop D__law_scoop.F T
  refine F.ok sc__law_pick (fun vs H Q E h => ?_) (fun cdv A outer s H vs Q E hr h => ?_)
  · obtain ⟨p, b, l, n, xs, rfl, _⟩ := h
    rfl
  · obtain ⟨p, b, l, n, xs, rfl, O, hn, hl, nlp, h0, h1, k⟩ := h
    refine ⟨_, (pss_one (ps_ret (pe_ix ix_list (pv 1) (pe_call G__law_scoop (hr.mono (by decide)) (by rfl) D__law_scoop.g D__law_scoop.F.kp D__law_scoop.b .nil pass0 (pa_cons (pv 0) (pa_cons (pe_callB call_len_seq (by rfl) T.n_len (by decide +kernel) (pa_cons (pv 1) pa_nil)) pa_nil))) (fun _ _ => rfl)))), ?_⟩
    refine ⟨_, rfl, _, rfl, _, rfl, l, xs, rfl, .inl (SqL.of hl), p, b, n, _, rfl, O, hn, by omega, ?_, fun r H' r0 r1 O' B' => ?_⟩
    · show (xs.length : Int).natAbs < 2 ^ 9000
      rw [Int.natAbs_natCast]
      exact Nat.lt_of_le_of_lt h1 (by decide)
    · obtain ⟨j, rfl⟩ := Int.eq_ofNat_of_zero_le r0
      have hj : j < xs.length := by omega
      exact ⟨l, xs, _, xs[j], rfl, rfl, SqL.of (B' l _ hl nlp), atI_nat (List.getElem?_eq_getElem hj), k j _ H' (List.getElem?_eq_getElem hj) O' B'⟩

end
end K70
namespace K70
open PySem PySem.Spec PyProof.Rows L2 OB SkE
theorem iteT' {b : Bool} {A B : Prop} (h : b = true) (a : A) : if b = true then A else B := by rw [if_pos h]; exact a
theorem iteF' {b : Bool} {A B : Prop} (h : b = false) (a : B) : if b = true then A else B := by rw [if_neg (by rw [h]; decide)]; exact a
theorem in_bounds {lo hi i : Int} (h1 : lo ≤ i) (h2 : i ≤ hi) : (true && inB (some lo) (some hi) (.int i)) = true := by
  show (true && (decide (lo ≤ i) && decide (i ≤ hi))) = true
  rw [decide_eq_true h1, decide_eq_true h2]
  rfl
/-- what a word means, as a value -/
def mv : Option Nat → V
  | none => .non
  | some n => .int (n : Int)
/-- .. as an item of a text -/
def mtx : Option Nat → Str
  | none => "-"
  | some n => ds n
/-- .. as data -/
def md : Option Nat → PyData
  | none => .none
  | some n => .int (n : Int)
def layText (b : Nat) (ms : List (Option Nat)) : Str := Txt.join " " (ds b :: ms.map mtx)
structure LayOk (b : Nat) (ms : List (Option Nat)) : Prop where
  b1 : 1 ≤ b
  b8 : b ≤ 8
  len : ms.length = 2 ^ b
  small : ∀ n, some n ∈ ms → n ≤ 63
theorem pow8 {b : Nat} (h : b ≤ 8) : 2 ^ b ≤ 256 := Nat.le_trans (Nat.pow_le_pow_right (by decide) h) (by decide)
/-- a layout stands at x -/
def IsLay (H : Hp) (C x : Addr) (b : Nat) (ms : List (Option Nat)) : Prop := ∃ dx fs t, H x = some (.ins C dx fs) ∧ fs.lookup ("bits" : Str) = some (.int (b : Int)) ∧ fs.lookup ("means" : Str) = some (.ref t) ∧ H t = some (.tup (ms.map mv))
theorem IsLay.same {H H' : Hp} {C x : Addr} {b : Nat} {ms : List (Option Nat)} (h : IsLay H C x b ms) (s : Same H H') : IsLay H' C x b ms := by
  obtain ⟨dx, fs, t, h1, h2, h3, h4⟩ := h
  exact ⟨dx, fs, t, s _ _ h1, h2, h3, s _ _ h4⟩
theorem dp_means {K : PySem.W.Frag} {H : Hp} : ∀ ms : List (Option Nat), DpAll K H (ms.map mv) (ms.map md)
  | [] => .nil
  | none :: r => .cons .non (dp_means r)
  | some n :: r => .cons (.int n) (dp_means r)
theorem flat_means : ∀ ms : List (Option Nat), PyData.canLayAll0 (ms.map md) = true ∧ PyData.depthAll (ms.map md) ≤ 1
  | [] => by simp [PyData.canLayAll0, PyData.depthAll]
  | m :: r => by
    obtain ⟨h1, h2⟩ := flat_means r
    cases m <;> simp [md, PyData.canLayAll0, PyData.canLay0, PyData.depthAll, PyData.depth, h1] <;> omega
theorem shaped_means (ms : List (Option Nat)) : SeqAt.shaped (.tuple (ms.map md)) = true := by
  obtain ⟨h1, h2⟩ := flat_means ms
  unfold SeqAt.shaped
  rw [Bool.and_eq_true]
  refine ⟨by simp [PyData.canLay0, h1], decide_eq_true ?_⟩
  simp [PyData.depth]
  omega
theorem eqv_means : ∀ ms ns : List (Option Nat), PyData.eqvAll (ms.map md) (ns.map md) = decide (ms = ns)
  | [], [] => by simp [PyData.eqvAll]
  | [], _ :: _ => by simp [PyData.eqvAll]
  | _ :: _, [] => by simp [PyData.eqvAll]
  | m :: r, n :: s => by
    have ih := eqv_means r s
    have h : PyData.eqv (md m) (md n) = decide (m = n) := by
      cases m with
      | none => cases n <;> simp [md, PyData.eqv]
      | some a =>
        cases n with
        | none => simp [md, PyData.eqv]
        | some c =>
          show ((a : Int) == (c : Int)) = decide (some a = some c)
          by_cases z : a = c
          · simp [z]
          · rw [decide_eq_false (by simpa using z)]
            exact beq_false_of_ne (by omega)
    simp only [List.map_cons, PyData.eqvAll, ih, h, List.cons.injEq]
    by_cases h1 : m = n <;> by_cases h2 : r = s <;> simp [h1, h2]
theorem eqv_tup (ms ns : List (Option Nat)) : PyData.eqv (.tuple (ms.map md)) (.tuple (ns.map md)) = decide (ms = ns) := by
  rw [← eqv_means]
  simp [PyData.eqv]
def spLayInit (C : Addr) : Sp := fun vs H Q _ => ∃ (p dx q : Addr) (b : Nat) (ms : List (Option Nat)), vs = [.ref p, .int (b : Int), .ref q] ∧ LayOk b ms ∧ (H q = some (.lst (ms.map mv)) ∨ H q = some (.tup (ms.map mv))) ∧ H p = some (.ins C dx []) ∧
  ∀ H', IsLay H' C p b ms → (∀ a o, H a = some o → a ≠ p → H' a = some o) → Q .non H'
def spLayEq (K : PySem.W.Frag) (C : Addr) : Sp := fun vs H Q _ => ∃ (x : Addr) (y : V) (b : Nat) (ms : List (Option Nat)), vs = [.ref x, y] ∧ IsLay H C x b ms ∧
  ((∃ y' b' ns, y = .ref y' ∧ IsLay H C y' b' ns ∧ Q (.bl (decide (b = b' ∧ ms = ns))) H) ∨ (NotO K C H y ∧ Q (.bl false) H))
def spLayStr (C : Addr) : Sp := fun vs H Q _ => ∃ (x : Addr) (b : Nat) (ms : List (Option Nat)), vs = [.ref x] ∧ IsLay H C x b ms ∧ LayOk b ms ∧ ∀ H', Same H H' → Q (.str (layText b ms)) H'
def spLayRead (C : Addr) : Sp := fun vs H Q _ => ∃ (b : Nat) (ms : List (Option Nat)), vs = [.str (layText b ms)] ∧ LayOk b ms ∧ ∀ x H', H x = none → Same H H' → IsLay H' C x b ms → Q (.ref x) H'
def spIsMean (K : PySem.W.Frag) : Sp := fun vs H Q _ => ∃ (x : V) (b : Bool), vs = [x] ∧ IsI K H x b ∧ Q (.bl (decide (x = .non) || (b && inB (some 0) (some 63) x))) H
def spMeanAt : Sp := fun vs H Q _ => ∃ (q : Addr) (ys : List Str) (i : Nat) (m : Option Nat), vs = [.ref q, .int (i : Int)] ∧ H q = some (.lst (ys.map V.str)) ∧ ys[i]? = some (mtx m) ∧ (∀ n, m = some n → n ≤ 63) ∧ Q (mv m) H
/-- a layout is made: what __init__ is asked -/
theorem make_lay {C x dx D : Addr} {b : Nat} {ms : List (Option Nat)} {H1 : Hp} {R : Hp → Prop} {E : XK} (ok : LayOk b ms) (hD : H1 D = some (.lst (ms.map mv)) ∨ H1 D = some (.tup (ms.map mv))) (nx : H1 x = none) (ndx : H1 dx = none)
    (k : ∀ H3, Same H1 H3 → IsLay H3 C x b ms → R H3) : spLayInit C [.ref x, .int (b : Int), .ref D] (upd (upd H1 dx (.own x)) x (.ins C dx [])) (fun v H2 => v = .non ∧ R H2) E := by
  have old : ∀ a o, H1 a = some o → (upd (upd H1 dx (.own x)) x (.ins C dx [])) a = some o := fun a o e => by
    rw [upd_ne (ne_of_none e nx), upd_ne (ne_of_none e ndx)]
    exact e
  exact ⟨x, dx, D, b, ms, rfl, ok, hD.elim (fun h => .inl (old _ _ h)) (fun h => .inr (old _ _ h)), upd_same, fun H3 hl keep => ⟨rfl, k H3 (fun a o e => keep a o (old a o e) (ne_of_none e nx)) hl⟩⟩
theorem IsLay.but {H H' : Hp} {C x p : Addr} {b : Nat} {ms : List (Option Nat)} {xs : List V} (h : IsLay H C x b ms) (s : But p H H') (hp : H p = some (.lst xs)) : IsLay H' C x b ms := by
  obtain ⟨dx, fs, t, h1, h2, h3, h4⟩ := h
  exact ⟨dx, fs, t, s _ _ h1 (ne_of h1 hp (by intro z; cases z)), h2, h3, s _ _ h4 (ne_of h4 hp (by intro z; cases z))⟩
theorem ne_lay {K : PySem.W.Frag} {C x y : Addr} {b b' : Nat} {ms ns : List (Option Nat)} {H : Hp} {Q : VK} {E : XK} (hx : IsLay H C x b ms) (hy : IsLay H C y b' ns) (k : Q (.bl (!decide (b = b' ∧ ms = ns))) H) : rNeO K C (spLayEq K C) E (.ref x) (.ref y) H Q := by
  obtain ⟨dx, fs, t, h1, _⟩ := id hx
  obtain ⟨dy, gs, u, g1, _⟩ := id hy
  exact ⟨x, dx, fs, rfl, h1, .inl ⟨y, dy, gs, rfl, g1⟩, x, .ref y, b, ms, rfl, hx, .inl ⟨y, b', ns, rfl, hy, _, rfl, k⟩⟩
theorem eq_lay {K : PySem.W.Frag} {C x y : Addr} {b b' : Nat} {ms ns : List (Option Nat)} {H : Hp} {Q : VK} {E : XK} (hx : IsLay H C x b ms) (hy : IsLay H C y b' ns) (k : Q (.bl (decide (b = b' ∧ ms = ns))) H) : rEqO K C (spLayEq K C) E (.ref x) (.ref y) H Q := by
  obtain ⟨dx, fs, t, h1, _⟩ := id hx
  obtain ⟨dy, gs, u, g1, _⟩ := id hy
  exact ⟨x, dx, fs, rfl, h1, .inl ⟨y, dy, gs, rfl, g1⟩, x, .ref y, b, ms, rfl, hx, .inl ⟨y, b', ns, rfl, hy, _, rfl, k⟩⟩
theorem ne_same {b : Nat} {ms : List (Option Nat)} : (!decide (b = b ∧ ms = ms)) = false := by simp
section
variable {P : Program} {w : World} {K : PySem.W.Frag} {mg : Str → Option Value} {base : Heap}
/-- whatever is laid anew, it is a list or a tuple, or none -/
def EvL (K : PySem.W.Frag) (H : Hp) (x : V) (b : Bool) : Prop := ∀ H', Same H H' → IsL K H' x b
def EvI (K : PySem.W.Frag) (H : Hp) (x : V) (b : Bool) : Prop := ∀ H', Same H H' → IsI K H' x b
def spIsList (K : PySem.W.Frag) : Sp := fun vs H Q _ => ∃ (x : V) (b : Bool), vs = [x] ∧ EvL K H x b ∧ ∀ H', Same H H' → Q (.bl b) H'
theorem sc_is_list : FnScope ["value"] ["value"] (defScope s_is_list) := ⟨rfl, rfl, rfl, by decide +kernel, rfl, by decide +kernel, by decide +kernel⟩
theorem ok_is_list {f : Addr} {fd : FuncData} (F : Fun K "is_list" "is_list" s_is_list f fd) (T : Blt mg) : FnOk P w K mg base CX0 1 f fd ["value"] (spIsList K) := by
  refine F.ok sc_is_list (fun vs H Q E h => ?_) (fun cdv A outer s H vs Q E hr h => ?_)
  · obtain ⟨x, b, rfl, _⟩ := h
    rfl
  · obtain ⟨x, b, rfl, hL, k⟩ := h
    refine ⟨_, (pss_one (ps_ret (pe_callB call_isiT (by rfl) T.n_isinstance (by decide +kernel) (pa_cons (pv 0) (pa_cons (pe_tup (pa_cons (pe_bltn (v := .ty "list") (by rfl) T.n_list (by decide +kernel) rfl) (pa_cons (pe_bltn (v := .ty "tuple") (by rfl) T.n_tuple (by decide +kernel) rfl) pa_nil))) pa_nil))))), ?_⟩
    refine ⟨_, rfl, (by show 2 ≤ sizeLine; decide), fun t ht => ?_⟩
    have S := same_new (o := .tup [.ty "list", .ty "tuple"]) ht
    obtain ⟨ty, hty, hk⟩ := isL_any (hL _ S)
    exact ⟨_, t, _, ty, _, b, rfl, upd_same, .cons (.ty _) (.cons (.ty _) .nil), hty, hk, k _ S⟩
theorem sc__is_meaning : FnScope ["value"] ["value"] (defScope s__is_meaning) := ⟨rfl, rfl, rfl, by decide +kernel, rfl, by decide +kernel, by decide +kernel⟩
abbrev N__is_meaning : List Str := ["value"]
theorem ok__is_meaning {f f1 f2 : Addr} {fd fd1 fd2 : FuncData} (F : Fun K "_is_meaning" "_is_meaning" s__is_meaning f fd) (T : Blt mg) (D_is_within : Df K mg "is_within" s_is_within ["value", "least", "most"] f1 fd1) (D_is_integer : Df K mg "is_integer" s_is_integer ["value"] f2 fd2) : FnOk P w K mg base CX0 3 f fd ["value"] (spIsMean K) := by
  have G_is_within : FnOk P w K mg base CX0 2 f1 fd1 ["value", "least", "most"] (spWithin K) := ok_is_within D_is_within.F D_is_integer T
  refine F.ok sc__is_meaning (fun vs H Q E h => ?_) (fun cdv A outer s H vs Q E hr h => ?_)
  · obtain ⟨x, b, rfl, _⟩ := h
    rfl
  · obtain ⟨x, b, rfl, hI, k⟩ := h
    refine ⟨_, (pss_one (ps_ret (pe_or (pe_cmpR op_isN (pv 0) pe_non (nomark _)) (pe_one (pe_call G_is_within (hr.mono (by decide)) (by rfl) D_is_within.g D_is_within.F.kp D_is_within.b .nil pass0 (pa_cons (pv 0) (pa_cons pe_int (pa_cons (pe_glob (v := .int 63) rfl T.g_MOST_STATE.choose_spec ⟨_, rfl⟩) pa_nil)))))))), ?_⟩
    refine ⟨_, rfl, rfl, _, rfl, ?_⟩
    refine iteB (fun c => ?_) (fun c => ?_)
    · rw [c, Bool.true_or] at k
      exact k
    · rw [c, Bool.false_or] at k
      exact ⟨_, rfl, x, some 0, some 63, b, rfl, hI, k⟩
theorem sc_Layout_init : FnScope ["self", "bits", "means", "item"] ["self", "bits", "means"] (defScope s_Layout_init) := ⟨rfl, rfl, rfl, by decide +kernel, rfl, by decide +kernel, by decide +kernel⟩
abbrev N_Layout_init : List Str := ["self", "bits", "means", "item"]
theorem lay_all {K : PySem.W.Frag} {H : Hp} {b : Nat} {ms : List (Option Nat)} (ok : LayOk b ms) {i : Nat} {x : V} (h : (ms.map mv)[i]? = some x) : ∃ c, IsI K H x c ∧ (decide (x = .non) || (c && inB (some 0) (some 63) x)) = true := by
  rw [List.getElem?_map] at h
  cases e : ms[i]? with
  | none => rw [e] at h; cases h
  | some m =>
    rw [e] at h
    cases h
    cases m with
    | none => exact ⟨false, isI_non, by decide⟩
    | some n =>
      have := ok.small n (List.mem_of_getElem? e)
      refine ⟨true, isI_int _, ?_⟩
      show (decide (V.int (n : Int) = .non) || (true && inB (some 0) (some 63) (.int (n : Int)))) = true
      rw [in_bounds (by omega) (by omega), Bool.or_true]
theorem ok_Layout_init {f f1 f2 f3 f4 C : Addr} {fd fd1 fd2 fd3 fd4 : FuncData} (F : Fun K "__init__" "Layout.__init__" s_Layout_init f fd) (T : Blt mg) (O_Layout : OwnC K mg "Layout" C f) (n1 : NoAttr K C "bits") (n2 : NoAttr K C "means") (D_is_within : Df K mg "is_within" s_is_within ["value", "least", "most"] f1 fd1) (D_is_integer : Df K mg "is_integer" s_is_integer ["value"] f2 fd2) (D_is_list : Df K mg "is_list" s_is_list ["value"] f3 fd3) (D__is_meaning : Df K mg "_is_meaning" s__is_meaning ["value"] f4 fd4) :
    FnOk P w K mg base CX0 4 f fd ["self", "bits", "means"] (spLayInit C) := by
  have G_is_within : FnOk P w K mg base CX0 2 f1 fd1 ["value", "least", "most"] (spWithin K) := ok_is_within D_is_within.F D_is_integer T
  have G_is_list : FnOk P w K mg base CX0 1 f3 fd3 ["value"] (spIsList K) := ok_is_list D_is_list.F T
  have G__is_meaning : FnOk P w K mg base CX0 3 f4 fd4 ["value"] (spIsMean K) := ok__is_meaning D__is_meaning.F T D_is_within D_is_integer
  refine F.ok sc_Layout_init (fun vs H Q E h => ?_) (fun cdv A outer s H vs Q E hr h => ?_)
  · obtain ⟨p, dx, q, b, ms, rfl, _⟩ := h
    rfl
  · obtain ⟨p, dx, q, b, ms, rfl, ok, hq, hp, k⟩ := h
    have b1 := ok.b1
    have b8 := ok.b8
    have hlen : (ms.map mv).length = 2 ^ b := by rw [List.length_map]; exact ok.len
    have p8 := pow8 b8
    refine ⟨_, (pss_cons (ps_if (pt_not (pt_val (pe_call G_is_within (hr.mono (by decide)) (by rfl) D_is_within.g D_is_within.F.kp D_is_within.b .nil pass0 (pa_cons (pv 1) (pa_cons pe_int (pa_cons (pe_glob (v := .int 8) rfl T.g_MOST_BITS.choose_spec ⟨_, rfl⟩) pa_nil)))))) (pss_one ps_never) pss_nil)
  (pss_cons (ps_if (PW.pt (pw_or (pt_not (pt_val (pe_call G_is_list (hr.mono (by decide)) (by rfl) D_is_list.g D_is_list.F.kp D_is_list.b .nil pass0 (pa_cons (pv 2) pa_nil)))) (pw_or (pt_cmpR op_ne (pe_callB call_len_seq (by rfl) T.n_len (by decide +kernel) (pa_cons (pv 2) pa_nil)) (pe_op op_oneN pe_int (pv 1)) (nomark _)) (pw_or1 (pt_not (pt_val (pe_callB (cr_all rfl) (by rfl) T.n_all (by decide +kernel) (pa_cons (pe_lc (own := [("item", 3)]) (g := (gName 3)) (tt := tYes) rfl sc_Layout_init.nd (pi_seqA (pv 2)) (blkOk_by (N := N_Layout_init) (own := [("item", 3)]) (sc := defScope s_Layout_init) (by decide +kernel)) (fun _ _ _ _ _ => (pg_name (i := 3) sc_Layout_init.nd rfl (Or.inl rfl))) (fun _ _ _ _ _ => pts_nil) (fun _ _ _ _ _ => (pe_call G__is_meaning (hr.mono (by decide)) (by rfl) D__is_meaning.g D__is_meaning.F.kp D__is_meaning.b .nil pass0 (pa_cons (pv 3) pa_nil)))) pa_nil)))))))) (pss_one ps_never) pss_nil)
  (pss_cons (ps_fld (pv 0) (pv 1) rfl)
  (pss_one (ps_fld (pv 0) (pe_callTy call_tuple_of (by rfl) T.n_tuple (by decide +kernel) (pa_cons (pv 2) pa_nil)) rfl))))), ?_⟩
    refine ⟨_, rfl, _, some 1, some 8, true, rfl, isI_int _, _, rfl, ?_⟩
    rw [in_bounds (show (1 : Int) ≤ (b : Int) by omega) (show (b : Int) ≤ 8 by omega)]
    refine iteF ?_
    have hL : EvL K H (.ref q) true := fun H' S => hq.elim (fun h => isL_lst (S _ _ h)) fun h => isL_tup (S _ _ h)
    refine ⟨_, rfl, _, true, rfl, hL, fun H1 S1 => ⟨_, rfl, iteF ?_⟩⟩
    have hq1 : SqL K H1 q (ms.map mv) ∨ SqT K H1 q (ms.map mv) := hq.elim (fun h => .inl (SqL.of (S1 _ _ h))) fun h => .inr (SqT.of (S1 _ _ h))
    refine ⟨_, rfl, q, _, rfl, hq1, _, rfl, b, rfl, rfl, by omega, rfl, _, rfl, ?_⟩
    rw [hlen]
    refine iteB (fun c => absurd c (by simp)) (fun _ => ?_)
    refine ⟨_, rfl, q, rfl, lc_seqA hq1 (fun D i H' => Same H1 H' ∧ H' D = some (.lst (List.replicate i (V.bl true)))) (fun D hD => ⟨same_new hD, upd_same⟩) (fun D i H' _ _ h => h.1) ?_ ?_⟩
    · rintro D i x H' hD hx ⟨S2, hl⟩
      obtain ⟨c, hI, e⟩ := lay_all (K := K) (H := H') ok hx
      have hi := (List.getElem?_eq_some_iff.mp hx).1
      refine ⟨rfl, _, rfl, x, c, rfl, hI, _, hl, by rw [List.length_replicate, sizeLine_eq]; omega, fun a o ea => ?_, ?_⟩
      · rw [upd_ne (ne_of_none ea hD)]
        exact S2 a o ea
      · rw [upd_same, e, List.replicate_succ']
    · rintro D H2 hD ⟨S2, hl⟩
      refine ⟨D, List.replicate (ms.map mv).length true, rfl, SqL.of (by rw [List.map_replicate]; exact hl), _, rfl, ?_⟩
      rw [show (List.replicate (ms.map mv).length true).all id = true by simp]
      refine iteF ?_
      have S := S1.trans S2
      refine ⟨_, rfl, _, rfl, p, C, dx, [], rfl, S _ _ hp, O_Layout.cl, n1, (by show 0 < 1000; decide), ?_⟩
      have npq : q ≠ p := by
        rcases hq with h | h
        · exact ne_of h hp (by intro z; cases z)
        · exact ne_of h hp (by intro z; cases z)
      have fin : ∀ (H3 : Hp) (t : Addr), (∀ a o, H a = some o → a ≠ p → H3 a = some o) → H3 t = some (.tup (ms.map mv)) → t ≠ p → Q .non (upd H3 p (.ins C dx (putF ("means" : Str) (.ref t) (putF ("bits" : Str) (.int (b : Int)) [])))) := fun H3 t keep ht hn => by
        refine k _ ⟨dx, _, t, upd_same, ?_, ?_, ?_⟩ fun a o e na => ?_
        · rfl
        · rfl
        · rw [upd_ne hn]
          exact ht
        · rw [upd_ne na]
          exact keep a o e na
      have few : (putF ("bits" : Str) (V.int (b : Int)) []).length < 1000 := by show 1 < 1000; decide
      have keep : ∀ a o, H a = some o → a ≠ p → (upd H2 p (.ins C dx (putF ("bits" : Str) (V.int (b : Int)) []))) a = some o := fun a o e na => by
        rw [upd_ne na]
        exact S a o e
      rcases hq with hq | hq
      · refine ⟨_, rfl, q, _, rfl, .inl ⟨SqL.of (keep _ _ hq npq), fun l hl => ?_⟩⟩
        have nlp : p ≠ l := ne_of_none upd_same hl
        refine ⟨_, rfl, p, C, dx, _, rfl, ?_, O_Layout.cl, n2, few, ?_⟩
        · rw [upd_ne nlp, upd_same]
        · refine fin _ l (fun a o e na => ?_) upd_same nlp.symm
          rw [upd_ne (ne_of_none (keep a o e na) hl)]
          exact keep a o e na
      · refine ⟨_, rfl, q, _, rfl, .inr ⟨SqT.of (keep _ _ hq npq), ?_⟩⟩
        exact ⟨_, rfl, p, C, dx, _, rfl, upd_same, O_Layout.cl, n2, few, fin _ q keep (keep _ _ hq npq) npq⟩
theorem sc_Layout_eq : FnScope ["self", "other"] ["self", "other"] (defScope s_Layout_eq) := ⟨rfl, rfl, rfl, by decide +kernel, rfl, by decide +kernel, by decide +kernel⟩
abbrev N_Layout_eq : List Str := ["self", "other"]
theorem ok_Layout_eq {f fI C : Addr} {fd : FuncData} (F : Fun K "__eq__" "Layout.__eq__" s_Layout_eq f fd) (T : Blt mg) (O_Layout : OwnC K mg "Layout" C fI) (n1 : NoAttr K C "bits") (n2 : NoAttr K C "means") : FnOk P w K mg base CX0 1 f fd ["self", "other"] (spLayEq K C) := by
  refine F.ok sc_Layout_eq (fun vs H Q E h => ?_) (fun cdv A outer s H vs Q E hr h => ?_)
  · obtain ⟨x, y, b, ms, rfl, _⟩ := h
    rfl
  · obtain ⟨x, y, b, ms, rfl, hx, h⟩ := h
    refine ⟨_, (pss_one (ps_ret (pe_and (pe_callB call_isi (by rfl) T.n_isinstance (by decide +kernel) (pa_cons (pv 1) (pa_cons (pe_glob (v := .ref _) (by rfl) O_Layout.g rfl) pa_nil))) (pe_and (pe_cmpR op_eq (pe_fld (pv 0) rfl) (pe_fld (pv 1) rfl) (nomark _)) (pe_one (pe_cmpR (op_eqD hr.units) (pe_fld (pv 0) rfl) (pe_fld (pv 1) rfl) (nomark _))))))), ?_⟩
    rcases h with ⟨y', b', ns, rfl, hy, k⟩ | ⟨⟨t, ty, ht⟩, k⟩
    · obtain ⟨dx, fs, t, h1, h2, h3, h4⟩ := hx
      obtain ⟨dy, gs, u, g1, g2, g3, g4⟩ := hy
      refine ⟨_, rfl, _, .ref C, .ref C, .ref C, true, rfl, .own C, O_Layout.ty g1, O_Layout.self, true, rfl, ?_⟩
      refine iteT ?_
      refine ⟨_, rfl, x, C, dx, _, _, rfl, h1, O_Layout.cl, n1, h2, _, rfl, y', C, dy, _, _, rfl, g1, O_Layout.cl, n1, g2, rfl, _, rfl, ?_⟩
      refine iteB (fun c => ?_) (fun c => ?_)
      · have e : b = b' := by
          have := V.int.inj (of_decide_eq_true c)
          omega
        refine ⟨_, rfl, x, C, dx, _, _, rfl, h1, O_Layout.cl, n2, h3, _, rfl, y', C, dy, _, _, rfl, g1, O_Layout.cl, n2, g3, ?_⟩
        refine ⟨.tuple (ms.map md), .tuple (ns.map md), Dp.tup (SqT.of h4) (dp_means ms), Dp.tup (SqT.of g4) (dp_means ns), shaped_means ms, shaped_means ns, ?_⟩
        rw [eqv_tup]
        rw [show decide (b = b' ∧ ms = ns) = decide (ms = ns) by simp [e]] at k
        exact k
      · have e : ¬ b = b' := fun z => of_decide_eq_false c (by rw [z])
        rw [show decide (b = b' ∧ ms = ns) = false by simp [e]] at k
        exact k
    · exact ⟨_, rfl, y, .ref C, t, .ref C, false, rfl, .own C, ty, ht, false, rfl, iteF k⟩
end
section
variable {P : Program} {w : World} {K : PySem.W.Frag} {mg : Str → Option Value} {base : Heap}
theorem sc_Layout_str : FnScope ["self", "state"] ["self"] (defScope s_Layout_str) := ⟨rfl, rfl, rfl, by decide +kernel, rfl, by decide +kernel, by decide +kernel⟩
abbrev N_Layout_str : List Str := ["self", "state"]
theorem txt_join (y : Str) (a : Str) (r : List Str) : Txt.join y (a :: r) = Txt.join y (a :: r) := rfl
theorem mtx_len {m : Option Nat} (h : ∀ n, m = some n → n ≤ 63) : (mtx m).length ≤ 3 := by
  cases m with
  | none => show (Str.ofString "-").length ≤ 3; decide +kernel
  | some n => exact (ds_small n (by have := h n rfl; omega)).2.2.2.1
theorem sum_le : ∀ l : List Nat, (∀ x ∈ l, x ≤ 3) → l.sum ≤ 3 * l.length
  | [], _ => by simp
  | a :: r, h => by
    have h1 := h a List.mem_cons_self
    have h2 := sum_le r fun x hx => h x (List.mem_cons_of_mem _ hx)
    rw [List.sum_cons, List.length_cons]
    omega
theorem lay_room {b : Nat} {ms : List (Option Nat)} (ok : LayOk b ms) : ((ds b :: ms.map mtx).map (·.length)).sum + (ds b :: ms.map mtx).length * (" " : Str).length ≤ 2000 := by
  have h1 : ∀ x ∈ (ds b :: ms.map mtx).map (·.length), x ≤ 3 := by
    intro x hx
    obtain ⟨y, hy, rfl⟩ := List.mem_map.mp hx
    rcases List.mem_cons.mp hy with rfl | hy
    · exact (ds_small b (by have := ok.b8; omega)).2.2.2.1
    · obtain ⟨m, hm, rfl⟩ := List.mem_map.mp hy
      exact mtx_len fun n e => ok.small n (e ▸ hm)
  have h2 := sum_le _ h1
  rw [List.length_map] at h2
  have h3 : (ds b :: ms.map mtx).length ≤ 257 := by
    rw [List.length_cons, List.length_map, ok.len]
    have := pow8 ok.b8
    omega
  rw [show (" " : Str).length = 1 by decide +kernel]
  omega
theorem log_small {n : Nat} (h : n < 256) : ((n : Int)).natAbs.log2 < 1920 := by
  rw [Int.natAbs_natCast]
  by_cases e : n = 0
  · rw [e]
    decide
  · have := (Nat.log2_lt e).mpr (show n < 2 ^ 8 from h)
    omega
theorem ok_Layout_str {f fI C : Addr} {fd : FuncData} (F : Fun K "__str__" "Layout.__str__" s_Layout_str f fd) (T : Blt mg) (O_Layout : OwnC K mg "Layout" C fI) (n1 : NoAttr K C "bits") (n2 : NoAttr K C "means") : FnOk P w K mg base CX0 1 f fd ["self"] (spLayStr C) := by
  refine F.ok sc_Layout_str (fun vs H Q E h => ?_) (fun cdv A outer s H vs Q E hr h => ?_)
  · obtain ⟨x, b, ms, rfl, _⟩ := h
    rfl
  · obtain ⟨x, b, ms, rfl, ⟨dx, fs, t, h1, h2, h3, h4⟩, ok, k⟩ := h
    have b8 := ok.b8
    refine ⟨_, (pss_one (ps_ret (pe_join pe_str (pe_op op_cat (pe_lst (pa_cons (pe_callTy call_str_int (by rfl) T.n_str (by decide +kernel) (pa_cons (pe_fld (pv 0) rfl) pa_nil)) pa_nil)) (pe_lc (own := [("state", 1)]) (g := (gName 1)) (tt := tYes) rfl sc_Layout_str.nd (pi_tup (pe_fld (pv 0) rfl)) (blkOk_by (N := N_Layout_str) (own := [("state", 1)]) (sc := defScope s_Layout_str) (by decide +kernel)) (fun _ _ _ _ _ => (pg_name (i := 1) sc_Layout_str.nd rfl (Or.inl rfl))) (fun _ _ _ _ _ => pts_nil) (fun _ _ _ _ _ => (pe_ifExp (pt_cmpR op_isN (pv 1) pe_non (nomark _)) (pe_glob (v := .str "-") rfl T.g_NOTHING_layouts.choose_spec ⟨_, rfl⟩) (pe_callTy call_str_int (by rfl) T.n_str (by decide +kernel) (pa_cons (pv 1) pa_nil))))))))), ?_⟩
    refine ⟨⟨_, rfl⟩, _, rfl, x, C, dx, _, _, rfl, h1, O_Layout.cl, n1, h2, _, rfl, log_small (by omega), ?_⟩
    refine ⟨by show 1 ≤ sizeLine; decide, fun l hl => ?_⟩
    have S1 := same_new (o := .lst [.str (ds b)]) hl
    refine ⟨_, rfl, x, C, dx, _, _, rfl, S1 _ _ h1, O_Layout.cl, n2, h3, t, rfl, ⟨_, SqT.of (S1 _ _ h4)⟩, fun D hD => ?_⟩
    have nlD : l ≠ D := ne_of_none upd_same hD
    refine lc_tup (K := K) (a := t) (xs := ms.map mv) (fun i H' => Same (upd H l (.lst [.str (ds b)])) H' ∧ H' D = some (.lst (((ms.take i).map mtx).map V.str))) ⟨same_new hD, upd_same⟩ (fun i H' _ h => SqT.of (h.1 _ _ (S1 _ _ h4))) ?_ ?_
    · rintro i y H' hy ⟨S2, hD2⟩
      obtain ⟨m, hm, rfl⟩ : ∃ m, ms[i]? = some m ∧ y = mv m := by
        rw [List.getElem?_map] at hy
        cases e : ms[i]? with
        | none => rw [e] at hy; cases hy
        | some m => rw [e] at hy; exact ⟨m, rfl, (Option.some.inj hy).symm⟩
      have hi := (List.getElem?_eq_some_iff.mp hm).1
      have p8 := pow8 b8
      have size : (((ms.take i).map mtx).map V.str).length < sizeLine := by
        rw [List.length_map, List.length_map, List.length_take, sizeLine_eq]
        have := ok.len
        omega
      have fin : ∃ acc, H' D = some (.lst acc) ∧ acc.length < sizeLine ∧ Same (upd H l (.lst [.str (ds b)])) (upd H' D (.lst (acc ++ [.str (mtx m)]))) ∧ (upd H' D (.lst (acc ++ [.str (mtx m)]))) D = some (.lst (((ms.take (i + 1)).map mtx).map V.str)) := by
        refine ⟨_, hD2, size, fun a o e => ?_, ?_⟩
        · rw [upd_ne (ne_of_none e hD)]
          exact S2 a o e
        · rw [upd_same, List.take_add_one, hm]
          simp
      refine ⟨rfl, _, rfl, rfl, _, rfl, ?_⟩
      cases m with
      | none => exact iteT fin
      | some n =>
        have := ok.small n (List.mem_of_getElem? hm)
        exact iteF ⟨_, rfl, _, rfl, log_small (by omega), fin⟩
    · rintro H' ⟨S2, hD2⟩
      rw [List.length_map, List.take_length] at hD2
      have hl2 := S2 _ _ (upd_same (H := H) (a := l) (o := .lst [.str (ds b)]))
      refine ⟨l, D, [.str (ds b)], (ms.map mtx).map V.str, rfl, rfl, hl2, hD2, ?_, fun q hq => ?_⟩
      · have p8 := pow8 b8
        have := ok.len
        simp only [List.length_map, List.length_cons, List.length_nil]
        rw [sizeLine_eq]
        omega
      · refine ⟨_, q, ds b :: ms.map mtx, rfl, rfl, .inl (SqL.of upd_same), ?_, ?_⟩
        · have := lay_room ok
          omega
        · exact k _ ((S1.trans S2).trans (same_new hq))
end
end K70
namespace K70
open PySem PySem.Spec PyProof.Rows L2 OB SkE
/-- a value that is no list or tuple of unlike numbers within bounds, or one -/
def NoLot (K : PySem.W.Frag) (H : Hp) (x : V) (lo hi : Option Int) : Prop := EvL K H x false ∨
  ∃ (a : Addr) (xs : List V) (bs : List Bool), x = .ref a ∧ (SqL K H a xs ∨ SqT K H a xs) ∧ xs.length ≤ 1050 ∧ EvL K H x true ∧ bs.length = xs.length ∧
    (∀ (i : Nat) (v : V) (b : Bool), xs[i]? = some v → bs[i]? = some b → ∃ c, EvI K H v c ∧ b = (c && inB lo hi v)) ∧ (bs.all id = true → ∃ ns : List Int, xs = ns.map V.int ∧ ¬ ns.Nodup)
def IsLot (K : PySem.W.Frag) (H : Hp) (x : V) (lo hi : Option Int) (ns : List Int) : Prop := ∃ a : Addr, x = .ref a ∧ (SqL K H a (ns.map V.int) ∨ SqT K H a (ns.map V.int)) ∧ ns.length ≤ 1050 ∧ EvL K H x true ∧ (∀ n ∈ ns, inB lo hi (.int n) = true) ∧ ns.Nodup
def spUnlike (K : PySem.W.Frag) : Sp := fun vs H Q _ => ∃ (x : V) (lo hi : Option Int), vs = [x, oV lo, oV hi] ∧
  ((NoLot K H x lo hi ∧ ∀ H', Same H H' → Q (.bl false) H') ∨ (∃ ns, IsLot K H x lo hi ns ∧ ∀ H', Same H H' → Q (.bl true) H'))
section
variable {P : Program} {w : World} {K : PySem.W.Frag} {mg : Str → Option Value} {base : Heap}
theorem sc_are_unlike : FnScope ["value", "least", "most", "item"] ["value", "least", "most"] (defScope s_are_unlike) := ⟨rfl, rfl, rfl, by decide +kernel, rfl, by decide +kernel, by decide +kernel⟩
abbrev N_are_unlike : List Str := ["value", "least", "most", "item"]
theorem ok_are_unlike {f f1 f2 f3 : Addr} {fd fd1 fd2 fd3 : FuncData} (F : Fun K "are_unlike" "are_unlike" s_are_unlike f fd) (T : Blt mg) (D_is_list : Df K mg "is_list" s_is_list ["value"] f1 fd1) (D_is_within : Df K mg "is_within" s_is_within ["value", "least", "most"] f2 fd2) (D_is_integer : Df K mg "is_integer" s_is_integer ["value"] f3 fd3) :
    FnOk P w K mg base CX0 4 f fd ["value", "least", "most"] (spUnlike K) := by
  have G_is_list : FnOk P w K mg base CX0 1 f1 fd1 ["value"] (spIsList K) := ok_is_list D_is_list.F T
  have G_is_within : FnOk P w K mg base CX0 2 f2 fd2 ["value", "least", "most"] (spWithin K) := ok_is_within D_is_within.F D_is_integer T
  refine F.ok sc_are_unlike (fun vs H Q E h => ?_) (fun cdv A outer s H vs Q E hr h => ?_)
  · obtain ⟨x, lo, hi, rfl, _⟩ := h
    rfl
  · obtain ⟨x, lo, hi, rfl, h⟩ := h
    refine ⟨_, (pss_cons (ps_if (pt_not (pt_val (pe_call G_is_list (hr.mono (by decide)) (by rfl) D_is_list.g D_is_list.F.kp D_is_list.b .nil pass0 (pa_cons (pv 0) pa_nil)))) (pss_one (ps_ret pe_bl)) pss_nil)
  (pss_one (ps_ret (pe_and (pe_callB (cr_all rfl) (by rfl) T.n_all (by decide +kernel) (pa_cons (pe_lc (own := [("item", 3)]) (g := (gName 3)) (tt := tYes) rfl sc_are_unlike.nd (pi_seqA (pv 0)) (blkOk_by (N := N_are_unlike) (own := [("item", 3)]) (sc := defScope s_are_unlike) (by decide +kernel)) (fun _ _ _ _ _ => (pg_name (i := 3) sc_are_unlike.nd rfl (Or.inl rfl))) (fun _ _ _ _ _ => pts_nil) (fun _ _ _ _ _ => (pe_call G_is_within (hr.mono (by decide)) (by rfl) D_is_within.g D_is_within.F.kp D_is_within.b .nil pass0 (pa_cons (pv 3) (pa_cons (pv 1) (pa_cons (pv 2) pa_nil)))))) pa_nil)) (pe_one (pe_cmpR op_eq (pe_lenSet2 (by rfl) T.n_len (by rfl) T.n_set (pv 0)) (pe_callB call_len_seq (by rfl) T.n_len (by decide +kernel) (pa_cons (pv 0) pa_nil)) (nomark _))))))), ?_⟩
    have h2 : (EvL K H x false ∧ ∀ H', Same H H' → Q (.bl false) H') ∨ ∃ (a : Addr) (xs : List V) (bs : List Bool), x = .ref a ∧ (SqL K H a xs ∨ SqT K H a xs) ∧ xs.length ≤ 1050 ∧ EvL K H x true ∧ bs.length = xs.length ∧
        (∀ (i : Nat) (v : V) (b : Bool), xs[i]? = some v → bs[i]? = some b → ∃ c, EvI K H v c ∧ b = (c && inB lo hi v)) ∧ (∀ H', Same H H' → (bs.all id = false → Q (.bl false) H') ∧ (bs.all id = true → ∃ ns : List Int, xs = ns.map V.int ∧ Q (.bl (decide ns.Nodup)) H')) := by
      rcases h with ⟨hn | ⟨a, xs, bs, e1, e2, e3, e4, e5, e6, e7⟩, q⟩ | ⟨ns, ⟨a, e1, e2, e3, e4, e5, e6⟩, q⟩
      · exact .inl ⟨hn, q⟩
      · refine .inr ⟨a, xs, bs, e1, e2, e3, e4, e5, e6, fun H' S => ⟨fun _ => q H' S, fun c => ?_⟩⟩
        obtain ⟨ns, e, nd⟩ := e7 c
        refine ⟨ns, e, ?_⟩
        rw [decide_eq_false nd]
        exact q H' S
      · refine .inr ⟨a, ns.map V.int, ns.map fun _ => true, e1, e2, by rw [List.length_map]; exact e3, e4, by rw [List.length_map, List.length_map], fun i v b hv hb => ?_, fun H' S => ⟨fun c => ?_, fun _ => ⟨ns, rfl, ?_⟩⟩⟩
        · rw [List.getElem?_map] at hv hb
          cases e : ns[i]? with
          | none => rw [e] at hv; cases hv
          | some n =>
            rw [e] at hv hb
            cases hv
            cases hb
            exact ⟨true, fun H' _ => isI_int n, by rw [e5 n (List.mem_of_getElem? e)]; rfl⟩
        · rw [show (ns.map fun _ => true).all id = true by simp] at c
          cases c
        · rw [decide_eq_true e6]
          exact q H' S
    rcases h2 with ⟨hL, q⟩ | ⟨a, xs, bs, rfl, hq, hlen, hL, hbl, hb, k⟩
    · exact ⟨_, rfl, x, false, rfl, hL, fun H1 S1 => ⟨_, rfl, q H1 S1⟩⟩
    refine ⟨_, rfl, _, true, rfl, hL, fun H1 S1 => ⟨_, rfl, ?_⟩⟩
    have hq1 : SqL K H1 a xs ∨ SqT K H1 a xs := hq.elim (fun z => .inl (sqL_same z S1)) fun z => .inr (sqT_same z S1)
    refine ⟨_, rfl, a, rfl, lc_seqA hq1 (fun D i H' => Same H1 H' ∧ H' D = some (.lst ((bs.take i).map V.bl))) (fun D hD => ⟨same_new hD, upd_same⟩) (fun D i H' _ _ p => p.1) ?_ ?_⟩
    · rintro D i v H' hD hx ⟨S2, hl⟩
      have hib : i < bs.length := by
        rw [hbl]
        exact (List.getElem?_eq_some_iff.mp hx).1
      obtain ⟨c, hI, ec⟩ := hb i v bs[i] hx (List.getElem?_eq_getElem hib)
      refine ⟨rfl, _, rfl, _, rfl, _, rfl, v, lo, hi, c, rfl, hI _ (S1.trans S2), _, hl, ?_, ?_, ?_⟩
      · rw [List.length_map, List.length_take]
        rw [sizeLine_eq]; omega
      · intro q o e
        rw [upd_ne (ne_of_none e hD)]
        exact S2 q o e
      · rw [upd_same, ← ec, List.take_add_one, List.getElem?_eq_getElem hib, List.map_append]
        rfl
    · rintro D H2 hD ⟨S2, hl⟩
      rw [← hbl, List.take_length] at hl
      refine ⟨D, bs, rfl, SqL.of hl, _, rfl, ?_⟩
      obtain ⟨kf, kt⟩ := k H2 (S1.trans S2)
      refine iteB (fun c => ?_) (fun c => kf c)
      obtain ⟨ns, ens, q⟩ := kt c
      subst ens
      have hq2 : SqL K H2 a (ns.map V.int) ∨ SqT K H2 a (ns.map V.int) := hq1.elim (fun z => .inl (sqL_same z S2)) fun z => .inr (sqT_same z S2)
      rw [List.length_map] at hlen
      refine ⟨_, rfl, a, ns, rfl, hq2, by omega, fun c hc hcn => ⟨_, rfl, a, _, rfl, hq2, rfl, ?_⟩⟩
      have e : decide (V.int (c : Int) = V.int (((ns.map V.int).length : Nat) : Int)) = decide ns.Nodup := by
        rw [List.length_map]
        by_cases z : ns.Nodup
        · rw [hcn.mpr z, decide_eq_true z]
          simp
        · rw [decide_eq_false z]
          refine decide_eq_false fun y => z (hcn.mp ?_)
          have y := V.int.inj y
          omega
      rw [e]
      exact q
end
def spNeedLayX (K : PySem.W.Frag) (C CB : Addr) : Sp := fun vs H Q E => ∃ (x : V) (part : Str), vs = [x, .str part] ∧ ((NotO K C H x ∧ RaisesP CB part E H) ∨ ∃ (y : Addr) (b : Nat) (ms : List (Option Nat)), x = .ref y ∧ IsLay H C y b ms ∧ Q .non H)
/-- a natural number, or what is none -/
def spGray (K : PySem.W.Frag) (C : Addr) : Sp := fun vs H Q E => ∃ (x : V) (b : Bool), vs = [x] ∧ IsI K H x b ∧
  ((b && inB (some 0) none x) = true → ∃ n : Nat, x = .int n ∧ Q (.int (M07.gray n)) H) ∧ ((b && inB (some 0) none x) = false → RaisesP C "number" E H)
def spPlaceOf (K : PySem.W.Frag) (C : Addr) : Sp := fun vs H Q E => ∃ (x : V) (b : Bool), vs = [x] ∧ IsI K H x b ∧
  ((b && inB (some 0) none x) = true → ∃ p : Nat, x = .int (M07.gray p) ∧ Q (.int p) H) ∧ ((b && inB (some 0) none x) = false → RaisesP C "word" E H)
theorem two_one : (2 : Int) ^ (1 : Int).toNat = 2 := by decide
theorem shr_nat (n s : Nat) : (n : Int) / 2 ^ (s : Int).toNat = ((n >>> s : Nat) : Int) := by
  rw [Int.toNat_natCast, Nat.shiftRight_eq_div_pow, Int.natCast_ediv, Int.natCast_pow]
  rfl
theorem xor_nat (a b : Nat) : Builtin.bitXor (a : Int) (b : Int) = ((a ^^^ b : Nat) : Int) := by
  rw [Bits.bitXor_pp (Int.natCast_nonneg _) (Int.natCast_nonneg _), Int.toNat_natCast, Int.toNat_natCast]
section
variable {P : Program} {w : World} {K : PySem.W.Frag} {mg : Str → Option Value} {base : Heap}
theorem sc_gray : FnScope ["number"] ["number"] (defScope s_gray) := ⟨rfl, rfl, rfl, by decide +kernel, rfl, by decide +kernel, by decide +kernel⟩
theorem ok_gray {f f3 C : Addr} {fd fd3 : FuncData} (F : Fun K "gray" "gray" s_gray f fd) (D_need_number : Df K mg "need_number" s_need_number ["value", "part", "least", "most"] f3 fd3)
    (G_need_number : FnOk P w K mg base (L2.CX P w) 4 f3 fd3 ["value", "part", "least", "most"] (spNeedNumber K C)) : FnOk P w K mg base (L2.CX P w) 5 f fd ["number"] (spGray K C) := by
  refine F.okX sc_gray (fun vs H Q E h => ?_) (fun cdv A outer s H vs Q E hr h => ?_)
  · obtain ⟨x, b, rfl, _⟩ := h
    rfl
  · obtain ⟨x, b, rfl, hI, k1, k2⟩ := h
    refine ⟨_, (pss_cons (ps_expr (pe_callS G_need_number (hr.mono (by decide)) (by rfl) D_need_number.g D_need_number.F.kp D_need_number.b (fun σ => passAt (takes_of rfl rfl rfl rfl) σ) (pa_cons (pv 0) (pa_cons pe_str (pa_cons pe_int (pa_cons pe_non pa_nil))))))
  (pss_one (ps_ret (pe_op op_xor (pv 0) (pe_op op_shr (pv 0) pe_int))))), ?_⟩
    refine ⟨x, rfl, x, "number", some 0, none, b, rfl, hI, fun c => ?_, fun c d hd => k2 c d hd⟩
    obtain ⟨n, rfl, k⟩ := k1 c
    refine ⟨_, rfl, _, rfl, _, _, rfl, rfl, (by show (0 : Int) ≤ 1; decide), _, _, rfl, rfl, ?_⟩
    show Q (.int (Builtin.bitXor (n : Int) ((n : Int) / 2 ^ (1 : Int).toNat))) H
    have e : Builtin.bitXor (n : Int) ((n : Int) / 2 ^ (1 : Int).toNat) = (M07.gray n : Int) := by
      rw [show (1 : Int) = ((1 : Nat) : Int) from rfl, shr_nat, xor_nat]
      rfl
    rw [e]
    exact k
theorem sc_need_layout : FnScope ["value", "part"] ["value", "part"] (defScope s_need_layout) := ⟨rfl, rfl, rfl, by decide +kernel, rfl, by decide +kernel, by decide +kernel⟩
abbrev N_need_layout : List Str := ["value", "part"]
theorem ok_need_layout {f fI CB fB C : Addr} {fd fdB : FuncData} (F : Fun K "need_layout" "need_layout" s_need_layout f fd) (T : Blt mg) (O_Layout : OwnC K mg "Layout" C fI) (R_BadLayout : Err P w K mg base "BadLayout" "part" CB fB fdB) : FnOk P w K mg base (L2.CX P w) 4 f fd ["value", "part"] (spNeedLayX K C CB) := by
  refine F.okX sc_need_layout (fun vs H Q E h => ?_) (fun cdv A outer s H vs Q E hr h => ?_)
  · obtain ⟨x, part, rfl, _⟩ := h
    rfl
  · obtain ⟨x, part, rfl, h⟩ := h
    refine ⟨_, (pss_one (ps_if (pt_not (pt_val (pe_callB call_isi (by rfl) T.n_isinstance (by decide +kernel) (pa_cons (pv 0) (pa_cons (pe_glob (v := .ref _) (by rfl) O_Layout.g rfl) pa_nil))))) (pss_one (ps_raise1 rfl (takes_of rfl rfl rfl rfl) R_BadLayout (hr.mono (by decide)) (by rfl) (pv 1))) pss_nil)), ?_⟩
    rcases h with ⟨⟨t, ty, ht⟩, kx⟩ | ⟨y, b, ms, rfl, ⟨dx, fs, t, h1, h2, h3, h4⟩, k⟩
    · refine ⟨_, rfl, x, .ref C, t, .ref C, false, rfl, .own C, ty, ht, false, rfl, iteT ?_⟩
      refine ⟨.str part, rfl, ?_⟩
      refine raise1_of (W := fun cls d _ H => E cls d H) R_BadLayout.T R_BadLayout.no ?_
      exact fun d hd => kx d hd
    · exact ⟨_, rfl, _, .ref C, .ref C, .ref C, true, rfl, .own C, O_Layout.ty h1, O_Layout.self, true, rfl, iteF k⟩
end
end K70
namespace K70
open PySem PySem.Spec PyProof.Rows L2 OB SkE
/-- all words of so many bits, each next to the one ahead -/
def rowL : Nat → List Nat
  | 0 => [0]
  | b + 1 => rowL b ++ (rowL b).reverse.map fun w => w + 2 ^ b
theorem row_facts : ∀ b < 9, (rowL b).length = 2 ^ b ∧ (∀ w ∈ rowL b, w < 2 ^ b) ∧ (rowL b).Nodup := by decide +kernel
theorem row_gray : ∀ b < 9, rowL b = (List.range (2 ^ b)).map M07.gray := by decide +kernel
def iv (ns : List Nat) : List V := ns.map fun (x : Nat) => V.int (x : Int)
theorem iv_len (ns : List Nat) : (iv ns).length = ns.length := List.length_map _
theorem iv_at {ns : List Nat} {i x : Nat} (h : ns[i]? = some x) : (iv ns)[i]? = some (V.int (x : Int)) := by
  unfold iv
  rw [List.getElem?_map, h]
  rfl
theorem iv_of {ns : List Nat} {i : Nat} {y : V} (h : (iv ns)[i]? = some y) : ∃ x, ns[i]? = some x ∧ y = V.int (x : Int) := by
  unfold iv at h
  rw [List.getElem?_map] at h
  cases e : ns[i]? with
  | none => rw [e] at h; cases h
  | some x => rw [e] at h; exact ⟨x, rfl, (Option.some.inj h).symm⟩
theorem iv_app (a b : List Nat) : iv (a ++ b) = iv a ++ iv b := List.map_append
def spRow : Sp := fun vs H Q _ => ∃ b : Nat, vs = [.int (b : Int)] ∧ b ≤ 8 ∧ ∀ (q : Addr) (H' : Hp), H q = none → Same H H' → H' q = some (.lst (iv (rowL b))) → Q (.ref q) H'
/-- a state's sign in a table -/
def SG : Str := "0123456789abcdefghijklmnopqrstuvwxyzABCDEFGHIJKLMNOPQRSTUVWXYZ+="
def sg : Option Nat → Str
  | none => "."
  | some n => ⟨#[SG.cps.getD n 0]⟩
def LET : Str := "abcdefghijklmnopqrstuvwxyz"
theorem sgn_a : ∀ n < 64, n < 10 → ds n = sg (some n) := by decide +kernel
theorem sgn_b : ∀ n : Nat, n < 64 → 10 ≤ n → n < 36 → atI LET.cps.toList ((n : Int) - 10) = some (SG.cps.getD n 0) := fun n h => (by decide +kernel : ∀ n < 64, 10 ≤ n → n < 36 → atI LET.cps.toList (Int.ofNat n - 10) = some (SG.cps.getD n 0)) n h
theorem sgn_c : ∀ n : Nat, n < 64 → 36 ≤ n → n < 62 → atI LET.cps.toList ((n : Int) - 36) = some (LET.cps.getD (n - 36) 0) ∧ Txt.upper ⟨#[LET.cps.getD (n - 36) 0]⟩ = sg (some n) := fun n h => (by decide +kernel : ∀ n < 64, 36 ≤ n → n < 62 → atI LET.cps.toList (Int.ofNat n - 36) = some (LET.cps.getD (n - 36) 0) ∧ Txt.upper ⟨#[LET.cps.getD (n - 36) 0]⟩ = sg (some n)) n h
theorem let_len : LET.length ≤ sizeLine := by
  rw [sizeLine_eq]
  exact Nat.le_trans (show LET.length ≤ 26 by decide +kernel) (by decide)
def spSign : Sp := fun vs H Q _ => ∃ m : Option Nat, vs = [mv m] ∧ (∀ n, m = some n → n ≤ 63) ∧ Q (.str (sg m)) H
section
variable {P : Program} {w : World} {K : PySem.W.Frag} {mg : Str → Option Value} {base : Heap}
theorem sc__law_ordered : FnScope ["many", "found", "bit", "word"] ["many"] (defScope s__law_ordered) := ⟨rfl, rfl, rfl, by decide +kernel, rfl, by decide +kernel, by decide +kernel⟩
abbrev N__law_ordered : List Str := ["many", "found", "bit", "word"]
theorem ok__law_ordered {f : Addr} {fd : FuncData} (F : Fun K "_law_ordered" "_law_ordered" s__law_ordered f fd) (T : Blt mg) : FnOk P w K mg base CX0 1 f fd ["many"] spRow := by
  refine F.ok sc__law_ordered (fun vs H Q E h => ?_) (fun cdv A outer s H vs Q E hr h => ?_)
  · obtain ⟨b, rfl, _⟩ := h
    rfl
  · obtain ⟨b, rfl, hb, k⟩ := h
    refine ⟨_, (pss_cons (ps_set (i := 1) sc__law_ordered.nd rfl (Or.inl rfl) (pe_lst (pa_cons pe_int pa_nil)))
  (pss_cons (ps_for PassesOwn.never rfl (pi_range1 (by rfl) T.n_range (pa_cons (pv 0) pa_nil)) (pg_name (i := 2) sc__law_ordered.nd rfl (Or.inr rfl)) (pss_one (ps_set (i := 1) sc__law_ordered.nd rfl (Or.inl rfl) (pe_op op_cat (pv 1) (pe_lc (own := [("word", 3)]) (g := (gName 3)) (tt := tYes) rfl sc__law_ordered.nd (pi_list (pe_revL (pv 1))) (blkOk_by (N := N__law_ordered) (own := [("word", 3)]) (sc := defScope s__law_ordered) (by decide +kernel)) (fun _ _ _ _ _ => (pg_name (i := 3) sc__law_ordered.nd rfl (Or.inl rfl))) (fun _ _ _ _ _ => pts_nil) (fun _ _ _ _ _ => (pe_op op_add (pv 3) (pe_op op_oneN pe_int (pv 2)))))))))
  (pss_one (ps_ret (pv 1))))), ?_⟩
    refine ⟨by show 1 ≤ sizeLine; decide, fun l hl => ?_⟩
    refine ⟨_, rfl, _, rfl, by omega, by omega, ?_⟩
    rw [Int.toNat_natCast]
    refine for_range (lo := 0) (n := b) (fun i σ H' => Same H H' ∧ ∃ (q : Addr) (u v : Option V), H q = none ∧ H' q = some (.lst (iv (rowL i))) ∧ σ = [some (.int (b : Int)), some (.ref q), u, v]) ⟨same_new hl, l, none, none, hl, upd_same, rfl⟩ ?_ ?_
    · rintro i σ H' hi ⟨S2, q, u, v, nq, hq, rfl⟩
      obtain ⟨l1, l2, l3⟩ := row_facts i (by omega)
      have p64 : 2 ^ i ≤ 256 := Nat.le_trans (Nat.pow_le_pow_right (by decide) (show i ≤ 8 by omega)) (by decide)
      refine ⟨_, rfl, _, rfl, q, _, rfl, SqL.of hq, fun l4 w4 => ?_⟩
      have erev : (iv (rowL i)).reverse = iv (rowL i).reverse := (List.map_reverse ..).symm
      rw [erev]
      have S3 := same_new (o := .lst (iv (rowL i).reverse)) w4
      have h4 := upd_same (H := H') (a := l4) (o := .lst (iv (rowL i).reverse))
      refine ⟨l4, rfl, ⟨_, SqL.of h4⟩, fun D hD => ?_⟩
      refine lc_list (K := K) (a := l4) (xs := iv (rowL i).reverse) (fun j H3 => Same (upd H' l4 (.lst (iv (rowL i).reverse))) H3 ∧ H3 D = some (.lst (iv (((rowL i).reverse.take j).map fun w => w + 2 ^ i)))) ⟨same_new hD, upd_same⟩ (fun j H3 _ h => SqL.of (h.1 _ _ h4)) ?_ ?_
      · rintro j y H3 hy ⟨S4, h5⟩
        obtain ⟨m, hm, rfl⟩ := iv_of hy
        refine ⟨rfl, _, rfl, _, rfl, i, rfl, ?_, by omega, _, _, rfl, rfl, _, h5, ?_, fun a o e => ?_, ?_⟩
        · rw [Int.zero_add]
        · rw [iv_len, List.length_map, List.length_take, List.length_reverse, sizeLine_eq]
          omega
        · rw [upd_ne (ne_of_none e hD)]
          exact S4 a o e
        · rw [upd_same, List.take_add_one, hm, List.map_append, iv_app]
          show some (HO.lst (_ ++ [V.int ((m : Int) + ((2 ^ i : Nat) : Int))])) = some (HO.lst (_ ++ [V.int (((m + 2 ^ i : Nat)) : Int)]))
          rw [Int.natCast_add]
      · rintro H3 ⟨S4, h5⟩
        rw [iv_len, List.take_length] at h5
        have hq3 := S4 _ _ (S3 _ _ hq)
        refine ⟨q, D, _, _, rfl, rfl, hq3, h5, ?_, fun l6 w6 => ?_⟩
        · rw [iv_len, iv_len, List.length_map, List.length_reverse, sizeLine_eq]
          omega
        have S6 := (S2.trans S3).trans S4
        refine ⟨S6.trans (same_new w6), l6, _, _, S6.free w6, ?_, rfl⟩
        rw [upd_same, ← iv_app]
        rfl
    · rintro σ H' ⟨S2, q, u, v, nq, hq, rfl⟩
      exact ⟨_, rfl, k q H' nq S2 hq⟩
theorem sc__law_sign : FnScope ["state", "letters"] ["state"] (defScope s__law_sign) := ⟨rfl, rfl, rfl, by decide +kernel, rfl, by decide +kernel, by decide +kernel⟩
abbrev N__law_sign : List Str := ["state", "letters"]
theorem ok__law_sign {f : Addr} {fd : FuncData} (F : Fun K "_law_sign" "_law_sign" s__law_sign f fd) (T : Blt mg) : FnOk P w K mg base CX0 1 f fd ["state"] spSign := by
  refine F.ok sc__law_sign (fun vs H Q E h => ?_) (fun cdv A outer s H vs Q E hr h => ?_)
  · obtain ⟨m, rfl, _⟩ := h
    rfl
  · obtain ⟨m, rfl, hm, k⟩ := h
    refine ⟨_, (pss_cons (ps_if (pt_cmpR op_isN (pv 0) pe_non (nomark _)) (pss_one (ps_ret pe_str)) pss_nil)
  (pss_cons (ps_if (pt_cmpR op_lt (pv 0) pe_int (nomark _)) (pss_one (ps_ret (pe_callTy call_str_int (by rfl) T.n_str (by decide +kernel) (pa_cons (pv 0) pa_nil)))) pss_nil)
  (pss_cons (ps_set (i := 1) sc__law_sign.nd rfl (Or.inl rfl) pe_str)
  (pss_one (ps_ret (pe_ifExp (pt_cmpR op_lt (pv 0) pe_int (nomark _)) (pe_ix ix_str (pv 1) (pe_op op_sub (pv 0) pe_int) (fun _ _ => rfl)) (pe_ifExp (pt_cmpR op_lt (pv 0) pe_int (nomark _)) (pe_bm0 PySem.F.plainAttrs_str PySem.F.slot_str_upper PySem.F.type_str_upper mt_upper (pe_ix ix_str (pv 1) (pe_op op_sub (pv 0) pe_int) (fun _ _ => rfl))) (pe_ifExp (pt_cmpR op_eq (pv 0) pe_int (nomark _)) pe_str pe_str)))))))), ?_⟩
    cases m with
    | none =>
      refine ⟨_, rfl, rfl, _, rfl, iteT ?_⟩
      exact k
    | some n =>
      have hn := hm n rfl
      rw [show mv (some n) = V.int (n : Int) from rfl]
      refine ⟨_, rfl, rfl, _, rfl, iteF ?_⟩
      have la := sgn_a n (by omega)
      have lb := sgn_b n (by omega)
      have lc := sgn_c n (by omega)
      by_cases a : n < 10
      · repeat (first | (with_reducible refine st_tC ?_) | (with_reducible refine st_tOp ?_) | ((with_reducible apply st_n); rfl; rfl; (first | trivial | (show _ ≤ _; omega) | (show _ < _; omega) | (show _ ∨ _; omega) | assumption | exact ⟨by assumption, by omega⟩ | exact ⟨W30.one, by omega⟩ | fail); rfl) | (with_reducible refine st_i0 rfl rfl rfl ?_) | ((with_reducible refine st_i rfl rfl ?_ rfl ?_); first | omega | exact ⟨by decide, by decide, by decide⟩ | exact .inl ⟨by decide, by decide⟩ | exact .inl ⟨by omega, by omega⟩ | exact .inr ⟨by omega, by omega⟩ | fail) | ((fail_if_success refine Exists.intro (α := Nat → Nat → L2.St → Hp → Prop) ?_ ?_); (fail_if_success refine Exists.intro (α := L2.St → Hp → Prop) ?_ ?_); (fail_if_success refine Exists.intro (α := Nat → L2.St → Hp → Prop) ?_ ?_); apply Exists.intro) | ((refine And.intro ?_ ?_); first | with_reducible rfl | with_reducible assumption | rfl | ((with_reducible apply SqL.of); assumption) | ((with_reducible apply SqT.of); assumption) | ((with_reducible apply OwnC.cl); assumption) | (with_reducible exact isI_int _) | exact within_args | (with_reducible exact upd_same) | ((with_reducible apply Mid.o); assumption) | ((with_reducible apply Mid.t); assumption) | exact .inl ⟨rfl, _, SqL.of (by assumption)⟩ | (with_reducible exact ⟨_, SqT.of (by assumption)⟩) | (with_reducible exact ⟨_, SqL.of (by assumption)⟩) | omega | exact Nat.le_of_ble_eq_true rfl | exact nat9 (by omega) | exact ⟨_, rfl⟩ | (show _ ≤ sizeLine; decide) | exact ⟨by decide, by decide, by decide⟩ | exact .inl ⟨by decide, by decide⟩ | exact .inl ⟨by omega, by omega⟩ | exact .inr ⟨by omega, by omega⟩ | assumption | fail) | ((with_reducible refine iteF' ?_ ?_); first | rfl | exact decide_eq_false (by omega) | exact in_no (by omega) (by omega) | exact in_no (by omega) (by assumption) | (simp <;> fail) | fail) | ((with_reducible refine iteT' ?_ ?_); first | rfl | exact decide_eq_true (by omega) | (simp <;> fail) | fail))
        refine ⟨log_small (by omega), ?_⟩
        rw [← la a] at k
        exact k
      by_cases b : n < 36
      · repeat (first | (with_reducible refine st_tC ?_) | (with_reducible refine st_tOp ?_) | ((with_reducible apply st_n); rfl; rfl; (first | trivial | (show _ ≤ _; omega) | (show _ < _; omega) | (show _ ∨ _; omega) | assumption | exact ⟨by assumption, by omega⟩ | exact ⟨W30.one, by omega⟩ | fail); rfl) | (with_reducible refine st_i0 rfl rfl rfl ?_) | ((with_reducible refine st_i rfl rfl ?_ rfl ?_); first | omega | exact ⟨by decide, by decide, by decide⟩ | exact .inl ⟨by decide, by decide⟩ | exact .inl ⟨by omega, by omega⟩ | exact .inr ⟨by omega, by omega⟩ | fail) | ((fail_if_success refine Exists.intro (α := Nat → Nat → L2.St → Hp → Prop) ?_ ?_); (fail_if_success refine Exists.intro (α := L2.St → Hp → Prop) ?_ ?_); (fail_if_success refine Exists.intro (α := Nat → L2.St → Hp → Prop) ?_ ?_); apply Exists.intro) | ((refine And.intro ?_ ?_); first | with_reducible rfl | with_reducible assumption | rfl | ((with_reducible apply SqL.of); assumption) | ((with_reducible apply SqT.of); assumption) | ((with_reducible apply OwnC.cl); assumption) | (with_reducible exact isI_int _) | exact within_args | (with_reducible exact upd_same) | ((with_reducible apply Mid.o); assumption) | ((with_reducible apply Mid.t); assumption) | exact .inl ⟨rfl, _, SqL.of (by assumption)⟩ | (with_reducible exact ⟨_, SqT.of (by assumption)⟩) | (with_reducible exact ⟨_, SqL.of (by assumption)⟩) | omega | exact Nat.le_of_ble_eq_true rfl | exact nat9 (by omega) | exact ⟨_, rfl⟩ | (show _ ≤ sizeLine; decide) | exact ⟨by decide, by decide, by decide⟩ | exact .inl ⟨by decide, by decide⟩ | exact .inl ⟨by omega, by omega⟩ | exact .inr ⟨by omega, by omega⟩ | assumption | fail) | ((with_reducible refine iteF' ?_ ?_); first | rfl | exact decide_eq_false (by omega) | exact in_no (by omega) (by omega) | exact in_no (by omega) (by assumption) | (simp <;> fail) | fail) | ((with_reducible refine iteT' ?_ ?_); first | rfl | exact decide_eq_true (by omega) | (simp <;> fail) | fail))
        exact ⟨lb (by omega) b, k⟩
      by_cases c : n < 62
      · obtain ⟨c1, c2⟩ := lc (by omega) c
        repeat (first | (with_reducible refine st_tC ?_) | (with_reducible refine st_tOp ?_) | ((with_reducible apply st_n); rfl; rfl; (first | trivial | (show _ ≤ _; omega) | (show _ < _; omega) | (show _ ∨ _; omega) | assumption | exact ⟨by assumption, by omega⟩ | exact ⟨W30.one, by omega⟩ | fail); rfl) | (with_reducible refine st_i0 rfl rfl rfl ?_) | ((with_reducible refine st_i rfl rfl ?_ rfl ?_); first | omega | exact ⟨by decide, by decide, by decide⟩ | exact .inl ⟨by decide, by decide⟩ | exact .inl ⟨by omega, by omega⟩ | exact .inr ⟨by omega, by omega⟩ | fail) | ((fail_if_success refine Exists.intro (α := Nat → Nat → L2.St → Hp → Prop) ?_ ?_); (fail_if_success refine Exists.intro (α := L2.St → Hp → Prop) ?_ ?_); (fail_if_success refine Exists.intro (α := Nat → L2.St → Hp → Prop) ?_ ?_); apply Exists.intro) | ((refine And.intro ?_ ?_); first | with_reducible rfl | with_reducible assumption | rfl | ((with_reducible apply SqL.of); assumption) | ((with_reducible apply SqT.of); assumption) | ((with_reducible apply OwnC.cl); assumption) | (with_reducible exact isI_int _) | exact within_args | (with_reducible exact upd_same) | ((with_reducible apply Mid.o); assumption) | ((with_reducible apply Mid.t); assumption) | exact .inl ⟨rfl, _, SqL.of (by assumption)⟩ | (with_reducible exact ⟨_, SqT.of (by assumption)⟩) | (with_reducible exact ⟨_, SqL.of (by assumption)⟩) | omega | exact Nat.le_of_ble_eq_true rfl | exact nat9 (by omega) | exact ⟨_, rfl⟩ | (show _ ≤ sizeLine; decide) | exact ⟨by decide, by decide, by decide⟩ | exact .inl ⟨by decide, by decide⟩ | exact .inl ⟨by omega, by omega⟩ | exact .inr ⟨by omega, by omega⟩ | assumption | fail) | ((with_reducible refine iteF' ?_ ?_); first | rfl | exact decide_eq_false (by omega) | exact in_no (by omega) (by omega) | exact in_no (by omega) (by assumption) | (simp <;> fail) | fail) | ((with_reducible refine iteT' ?_ ?_); first | rfl | exact decide_eq_true (by omega) | (simp <;> fail) | fail))
        rw [← c2] at k
        exact k
      by_cases d : n = 62
      · subst d
        repeat (first | (with_reducible refine st_tC ?_) | (with_reducible refine st_tOp ?_) | ((with_reducible apply st_n); rfl; rfl; (first | trivial | (show _ ≤ _; omega) | (show _ < _; omega) | (show _ ∨ _; omega) | assumption | exact ⟨by assumption, by omega⟩ | exact ⟨W30.one, by omega⟩ | fail); rfl) | (with_reducible refine st_i0 rfl rfl rfl ?_) | ((with_reducible refine st_i rfl rfl ?_ rfl ?_); first | omega | exact ⟨by decide, by decide, by decide⟩ | exact .inl ⟨by decide, by decide⟩ | exact .inl ⟨by omega, by omega⟩ | exact .inr ⟨by omega, by omega⟩ | fail) | ((fail_if_success refine Exists.intro (α := Nat → Nat → L2.St → Hp → Prop) ?_ ?_); (fail_if_success refine Exists.intro (α := L2.St → Hp → Prop) ?_ ?_); (fail_if_success refine Exists.intro (α := Nat → L2.St → Hp → Prop) ?_ ?_); apply Exists.intro) | ((refine And.intro ?_ ?_); first | with_reducible rfl | with_reducible assumption | rfl | ((with_reducible apply SqL.of); assumption) | ((with_reducible apply SqT.of); assumption) | ((with_reducible apply OwnC.cl); assumption) | (with_reducible exact isI_int _) | exact within_args | (with_reducible exact upd_same) | ((with_reducible apply Mid.o); assumption) | ((with_reducible apply Mid.t); assumption) | exact .inl ⟨rfl, _, SqL.of (by assumption)⟩ | (with_reducible exact ⟨_, SqT.of (by assumption)⟩) | (with_reducible exact ⟨_, SqL.of (by assumption)⟩) | omega | exact Nat.le_of_ble_eq_true rfl | exact nat9 (by omega) | exact ⟨_, rfl⟩ | (show _ ≤ sizeLine; decide) | exact ⟨by decide, by decide, by decide⟩ | exact .inl ⟨by decide, by decide⟩ | exact .inl ⟨by omega, by omega⟩ | exact .inr ⟨by omega, by omega⟩ | assumption | fail) | ((with_reducible refine iteF' ?_ ?_); first | rfl | exact decide_eq_false (by omega) | exact in_no (by omega) (by omega) | exact in_no (by omega) (by assumption) | (simp <;> fail) | fail) | ((with_reducible refine iteT' ?_ ?_); first | rfl | exact decide_eq_true (by omega) | (simp <;> fail) | fail))
        exact k
      · have : n = 63 := by omega
        subst this
        repeat (first | (with_reducible refine st_tC ?_) | (with_reducible refine st_tOp ?_) | ((with_reducible apply st_n); rfl; rfl; (first | trivial | (show _ ≤ _; omega) | (show _ < _; omega) | (show _ ∨ _; omega) | assumption | exact ⟨by assumption, by omega⟩ | exact ⟨W30.one, by omega⟩ | fail); rfl) | (with_reducible refine st_i0 rfl rfl rfl ?_) | ((with_reducible refine st_i rfl rfl ?_ rfl ?_); first | omega | exact ⟨by decide, by decide, by decide⟩ | exact .inl ⟨by decide, by decide⟩ | exact .inl ⟨by omega, by omega⟩ | exact .inr ⟨by omega, by omega⟩ | fail) | ((fail_if_success refine Exists.intro (α := Nat → Nat → L2.St → Hp → Prop) ?_ ?_); (fail_if_success refine Exists.intro (α := L2.St → Hp → Prop) ?_ ?_); (fail_if_success refine Exists.intro (α := Nat → L2.St → Hp → Prop) ?_ ?_); apply Exists.intro) | ((refine And.intro ?_ ?_); first | with_reducible rfl | with_reducible assumption | rfl | ((with_reducible apply SqL.of); assumption) | ((with_reducible apply SqT.of); assumption) | ((with_reducible apply OwnC.cl); assumption) | (with_reducible exact isI_int _) | exact within_args | (with_reducible exact upd_same) | ((with_reducible apply Mid.o); assumption) | ((with_reducible apply Mid.t); assumption) | exact .inl ⟨rfl, _, SqL.of (by assumption)⟩ | (with_reducible exact ⟨_, SqT.of (by assumption)⟩) | (with_reducible exact ⟨_, SqL.of (by assumption)⟩) | omega | exact Nat.le_of_ble_eq_true rfl | exact nat9 (by omega) | exact ⟨_, rfl⟩ | (show _ ≤ sizeLine; decide) | exact ⟨by decide, by decide, by decide⟩ | exact .inl ⟨by decide, by decide⟩ | exact .inl ⟨by omega, by omega⟩ | exact .inr ⟨by omega, by omega⟩ | assumption | fail) | ((with_reducible refine iteF' ?_ ?_); first | rfl | exact decide_eq_false (by omega) | exact in_no (by omega) (by omega) | exact in_no (by omega) (by assumption) | (simp <;> fail) | fail) | ((with_reducible refine iteT' ?_ ?_); first | rfl | exact decide_eq_true (by omega) | (simp <;> fail) | fail))
        exact k
end
end K70
/-! isinstance(e, (C1, C2)), e an exception that is kept. -/
namespace OB
open PySem PySem.Spec PyProof.Rows L2
def rIsXT (K : PySem.W.Frag) : List V → Hp → VK → Prop := fun xs H Q => ∃ (a D : Addr) (d : Option Addr) (tp : Addr) (cs : List V) (us : List Value) (b : Bool), xs = [.ref a, .ref tp] ∧ ExcC K D ∧ H a = some (ExA (.ref D) d a) ∧ (∀ dd, d = some dd → ∃ fs, H dd = some (.xd fs)) ∧ H tp = some (.tup cs) ∧ Paired ClsV cs us ∧ PySem.W.kitAny K (.ref D) us = some b ∧ Q (.bl b) H
theorem call_isXT {X : Cx} : CallR X (.builtin "isinstance") (rIsXT X.K) := by
  intro pins s σ H xs us Q I r h
  obtain ⟨a, D, d, tp, cs, ws, b, rfl, C, ha, hd, hT, k, e, q⟩ := h
  obtain ⟨u1, u2, rfl, r1, r2⟩ := vals2 r
  obtain rfl : u1 = Value.ref a := r1
  obtain rfl : u2 = Value.ref tp := r2
  obtain ⟨oe, od, J⟩ := inst_at I ha hd
  have tupOk : ObjOk X.prog X.w H s.heap tp (.tup cs) := I.hok tp _ hT
  obtain ⟨_, its, rv, ob, g1, g2, n, g3⟩ := tupOk
  obtain rfl := ClsV.all k rv
  obtain ⟨oc, odd, dt, sl⟩ := ob
  simp only at g2 g3
  subst g2 g3
  exact PySem.W.kia_tup (exc_kit C) I.kIn J g1 e (fun z => nomatch z) fun tk => ⟨.bl b, H, I.tok tk, rfl, q⟩
end OB
/-! Lambdas by generator: what they bind, and that a call's reading grows with what is wanted. -/
namespace OB
open PySem PySem.Spec PyProof.Rows L2 LamX
def MTA (t : TA) : Prop := ∀ σ H (Q1 Q2 : List V → Hp → Prop), (∀ vs H, Q1 vs H → Q2 vs H) → t σ H Q1 → t σ H Q2
def MTE (t : TE) : Prop := ∀ σ H (Q1 Q2 : VK), (∀ v H, Q1 v H → Q2 v H) → t σ H Q1 → t σ H Q2
theorem mta_nil : MTA tNil := fun σ H Q1 Q2 h z => h _ _ z
theorem mta_cons {a : TE} {r : TA} (ha : MTE a) (hr : MTA r) : MTA (tCons a r) := fun σ H Q1 Q2 h z => ha σ H _ _ (fun x H1 z1 => hr σ H1 _ _ (fun xs H2 z2 => h _ _ z2) z1) z
theorem mte_var {i : Nat} : MTE (tVar i) := fun σ H Q1 Q2 h ⟨v, e, z⟩ => ⟨v, e, h _ _ z⟩
theorem mte_c {v : V} : MTE (tC v) := fun σ H Q1 Q2 h z => h _ _ z
theorem mte_lst {t : TA} (ht : MTA t) : MTE (tLst t) := fun σ H Q1 Q2 h z => ht σ H _ _ (fun xs H1 ⟨l, z1⟩ => ⟨l, fun p hp => h _ _ (z1 p hp)⟩) z
theorem mte_tup {t : TA} (ht : MTA t) : MTE (tTup t) := fun σ H Q1 Q2 h z => ht σ H _ _ (fun xs H1 ⟨l, z1⟩ => ⟨l, fun p hp => h _ _ (z1 p hp)⟩) z
def SpMono (sp : Sp) : Prop := ∀ vs H (Q1 Q2 : VK) (E1 E2 : XK), (∀ c d H, E1 c d H → E2 c d H) → (∀ v H, Q1 v H → Q2 v H) → sp vs H Q1 E1 → sp vs H Q2 E2
theorem mono_S {sp : Sp} {t : TA} (hs : SpMono sp) (ht : MTA t) : ∀ σ : L2.St, MonoL fun E H' Q' => tCallS sp (WE fun cls d _ H => E cls d H) t σ H' Q' :=
  fun σ E1 E2 H Q1 Q2 hE hQ z => ht σ H _ _ (fun vs H1 z1 => hs _ _ _ _ _ _ (fun c d H => hE c d H) (fun v H => hQ v H) z1) z
theorem mono_KS {sp : Sp} {gV : List V → List V → List V} {t : TA} (hs : SpMono sp) (ht : MTA t) : ∀ σ : L2.St, MonoL fun E H' Q' => tCallKS sp gV (WE fun cls d _ H => E cls d H) tNil t σ H' Q' :=
  fun σ E1 E2 H Q1 Q2 hE hQ z => ht σ H _ _ (fun vs H1 z1 => hs _ _ _ _ _ _ (fun c d H => hE c d H) (fun v H => hQ v H) z1) z
theorem bind_0 {pr : Arguments} (h : ∀ (q : Str) (body : Expr) (scope : Scope) (cl : List (Str × Addr)) (pm cv ctv : Value), bindArgs (lFn q pr body scope cl .none pm cv ctv) ⟨[], []⟩ = pure []) : ∀ ds : List Value, Vals (([] : List Int).map V.int) ds → LamB pr [] ds := fun ds rd => by
  cases rd
  exact lamB0 h
theorem bind_1 {pr : Arguments} {a : Str} {n : Int} (h : ∀ (d : Value) (q : Str) (body : Expr) (scope : Scope) (cl : List (Str × Addr)) (T : Addr) (pm cv ctv : Value), ∃ k, bindArgs (lFn q pr body scope cl (.ref T) pm cv ctv) ⟨[], []⟩ = seqItems? (.ref T) >>= k ∧ k (some #[d]) = pure [(a, d)]) :
    ∀ ds : List Value, Vals (([n] : List Int).map V.int) ds → LamB pr [a] ds := fun ds rd => by
  cases rd with
  | cons r rr =>
    cases rr
    exact lamB1 (h _)
theorem hu_0 {P1 : Addr} {q1 : Str} : ∀ p ∈ [(P1, q1)], p.1 = P1 → p.2 = q1 := fun p hp _ => congrArg Prod.snd (List.mem_singleton.mp hp)
theorem hu_1 {P1 P2 : Addr} {q1 q2 : Str} (n : P1 ≠ P2) : ∀ p ∈ [(P1, q1), (P2, q2)], p.1 = P1 → p.2 = q1 := fun p hp e => by
  rcases List.mem_cons.mp hp with rfl | hp
  · rfl
  · rw [List.mem_singleton.mp hp] at e
    exact absurd e.symm n
theorem hu_2 {P1 P2 : Addr} {q1 q2 : Str} (n : P1 ≠ P2) : ∀ p ∈ [(P1, q1), (P2, q2)], p.1 = P2 → p.2 = q2 := fun p hp e => by
  rcases List.mem_cons.mp hp with rfl | hp
  · exact absurd e n
  · exact congrArg Prod.snd (List.mem_singleton.mp hp)
end OB
/-! Three defs with lambdas in one law: which table is whose. -/
namespace OB
open PySem PySem.Spec PyProof.Rows L2
section
variable {P1 P2 P3 : Addr} {q1 q2 q3 : Str}
theorem hu3_1 (n12 : P1 ≠ P2) (n13 : P1 ≠ P3) : ∀ p ∈ [(P1, q1), (P2, q2), (P3, q3)], p.1 = P1 → p.2 = q1 := fun p hp e => by
  rcases List.mem_cons.mp hp with rfl | hp
  · rfl
  rcases List.mem_cons.mp hp with rfl | hp
  · exact absurd e.symm n12
  · rw [List.mem_singleton.mp hp] at e
    exact absurd e.symm n13
theorem hu3_2 (n12 : P1 ≠ P2) (n23 : P2 ≠ P3) : ∀ p ∈ [(P1, q1), (P2, q2), (P3, q3)], p.1 = P2 → p.2 = q2 := fun p hp e => by
  rcases List.mem_cons.mp hp with rfl | hp
  · exact absurd e n12
  rcases List.mem_cons.mp hp with rfl | hp
  · rfl
  · rw [List.mem_singleton.mp hp] at e
    exact absurd e.symm n23
theorem hu3_3 (n13 : P1 ≠ P3) (n23 : P2 ≠ P3) : ∀ p ∈ [(P1, q1), (P2, q2), (P3, q3)], p.1 = P3 → p.2 = q3 := fun p hp e => by
  rcases List.mem_cons.mp hp with rfl | hp
  · exact absurd e n13
  rcases List.mem_cons.mp hp with rfl | hp
  · exact absurd e n23
  · rw [List.mem_singleton.mp hp]
theorem mem3_1 : (P1, q1) ∈ [(P1, q1), (P2, q2), (P3, q3)] := List.mem_cons_self
theorem mem3_2 : (P2, q2) ∈ [(P1, q1), (P2, q2), (P3, q3)] := List.mem_cons_of_mem _ List.mem_cons_self
theorem mem3_3 : (P3, q3) ∈ [(P1, q1), (P2, q2), (P3, q3)] := List.mem_cons_of_mem _ (List.mem_cons_of_mem _ List.mem_cons_self)
end
end OB
/-! A lambda's reading grows with what is wanted: sums of ints, calls within, max of a list. -/
namespace OB
open PySem PySem.Spec PyProof.Rows L2 LamX
theorem mte_i0 {op : Int → Int → V} {a b : TE} (ha : MTE a) (hb : MTE b) : MTE (tOp (rI0 op) a b) := fun σ H Q1 Q2 h z =>
  ha σ H _ _ (fun x H1 z1 => hb σ H1 _ _ (fun y H2 ⟨i, j, e1, e2, q⟩ => ⟨i, j, e1, e2, h _ _ q⟩) z1) z
def SpMonoQ (sp : Sp) : Prop := ∀ vs H (Q1 Q2 : VK), (∀ v H, Q1 v H → Q2 v H) → sp vs H Q1 E0 → sp vs H Q2 E0
theorem mte_call {sp : Sp} {t : TA} (hs : SpMonoQ sp) (ht : MTA t) : MTE (tCall sp [] E0 t) := fun σ H Q1 Q2 h z => ht σ H _ _ (fun vs H1 z1 => hs _ _ _ _ h z1) z
def RMono (r : List V → Hp → VK → Prop) : Prop := ∀ vs H (Q1 Q2 : VK), (∀ v H, Q1 v H → Q2 v H) → r vs H Q1 → r vs H Q2
theorem mte_cb {r : List V → Hp → VK → Prop} {t : TA} (hr : RMono r) (ht : MTA t) : MTE (tCB r t) := fun σ H Q1 Q2 h z => ht σ H _ _ (fun vs H1 z1 => hr _ _ _ _ h z1) z
theorem mono_Max {K : PySem.W.Frag} : RMono (rMax K) := fun vs H Q1 Q2 h ⟨a, ns, e, hl, h0, k⟩ => ⟨a, ns, e, hl, h0, fun m hm hy => h _ _ (k m hm hy)⟩
theorem mono_Min {K : PySem.W.Frag} : RMono (rMin K) := fun vs H Q1 Q2 h ⟨a, ns, e, hl, h0, k⟩ => ⟨a, ns, e, hl, h0, fun m hm hy => h _ _ (k m hm hy)⟩
def R2Mono (r : R2) : Prop := ∀ x y H (Q1 Q2 : VK), (∀ v H, Q1 v H → Q2 v H) → r x y H Q1 → r x y H Q2
theorem mte_op {r : R2} {a b : TE} (hr : R2Mono r) (ha : MTE a) (hb : MTE b) : MTE (tOp r a b) := fun σ H Q1 Q2 h z =>
  ha σ H _ _ (fun x H1 z1 => hb σ H1 _ _ (fun y H2 z2 => hr _ _ _ _ _ h z2) z1) z
theorem mono_Rep : R2Mono rRep := fun x y H Q1 Q2 h ⟨l, k, xs, e1, e2, a, b, c, d, q⟩ => ⟨l, k, xs, e1, e2, a, b, c, d, fun p hp => h _ _ (q p hp)⟩
theorem mono_Cat : R2Mono rCat := fun x y H Q1 Q2 h ⟨l, k, xs, zs, e1, e2, a, b, c, q⟩ => ⟨l, k, xs, zs, e1, e2, a, b, c, fun p hp => h _ _ (q p hp)⟩
theorem mte_make {C : Addr} {sp : Sp} {t : TA} (hs : SpMonoQ sp) (ht : MTA t) : MTE (tMake C sp [] E0 t) := fun σ H Q1 Q2 h z =>
  ht σ H _ _ (fun vs H1 z1 x dx a b c => hs _ _ _ _ (fun v H2 w => ⟨w.1, h _ _ w.2⟩) (z1 x dx a b c)) z
end OB
/-! Steps of a walk, made short. -/
namespace OB
open PySem PySem.Spec PyProof.Rows L2 LamX
section
variable {x y : V} {i j : Int} {H : Hp} {Q : VK}
theorem st_i0 {g : Int → Int → V} {v : V} (ex : x = .int i) (ey : y = .int j) (ev : g i j = v) (k : Q v H) : rI0 g x y H Q := by
  subst ev
  exact ⟨i, j, ex, ey, k⟩
theorem st_i {C : Int → Int → Prop} {g : Int → Int → V} {v : V} (ex : x = .int i) (ey : y = .int j) (hc : C i j) (ev : g i j = v) (k : Q v H) : rI C g x y H Q := by
  subst ev
  exact ⟨i, j, ex, ey, hc, k⟩
end
theorem st_tC {v : V} {σ : L2.St} {H : Hp} {Q : VK} (k : Q v H) : tC v σ H Q := k
theorem st_tOp {r : R2} {a b : TE} {σ : L2.St} {H : Hp} {Q : VK} (k : a σ H fun x H1 => b σ H1 fun y H2 => r x y H2 Q) : tOp r a b σ H Q := k
theorem ixN_of {n j : Nat} (hj : j < n) : ixN n (j : Int) = some j := by
  unfold ixN
  rw [if_pos (by omega), if_pos (by omega)]
  simp
end OB
/-! Operations on naturals, told as naturals. -/
namespace OB
open PySem PySem.Spec PyProof.Rows L2
/-- below a great power: hidden from omega -/
def W30 (a : Nat) : Prop := a < 2 ^ 30000
def rNat2 (C : Nat → Nat → Prop) (g : Nat → Nat → Nat) : R2 := fun x y H Q => ∀ P : Prop, (∀ a b : Nat, x = .int (a : Int) → y = .int (b : Int) → C a b → Q (.int ((g a b : Nat) : Int)) H → P) → P
theorem st_n {C : Nat → Nat → Prop} {g : Nat → Nat → Nat} {x y : V} {a b r : Nat} {H : Hp} {Q : VK} (ex : x = .int (a : Int)) (ey : y = .int (b : Int)) (hc : C a b) (er : g a b = r) (k : Q (.int (r : Int)) H) : rNat2 C g x y H Q := by
  subst er
  exact fun P h => h a b ex ey hc k
theorem bits_le {a k : Nat} (h : a < 2 ^ k) : Builtin.Int.intBits (a : Int) ≤ k + 1 := by
  unfold Builtin.Int.intBits
  by_cases z : a = 0
  · subst z; simp
  · have := (Nat.log2_lt z).mpr h
    simp
    first
      | omega
      | (split <;> omega)
theorem rNat2.ex {C : Nat → Nat → Prop} {g : Nat → Nat → Nat} {x y : V} {H : Hp} {Q : VK} (h : rNat2 C g x y H Q) : ∃ a b : Nat, x = .int (a : Int) ∧ y = .int (b : Int) ∧ C a b ∧ Q (.int ((g a b : Nat) : Int)) H :=
  h _ fun a b e1 e2 c q => ⟨a, b, e1, e2, c, q⟩
/-- a constant, told as a natural -/
theorem pe_intN {X : Cx} {j : Nat} {pos : Pos} (n : Nat) : PE X (.Constant (.int ((n : Nat) : Int)) j pos) (tC (.int ((n : Nat) : Int))) := pe_int
abbrev CT (_ _ : Nat) : Prop := True
section
variable {X : Cx}
theorem nop_add : OpR X (binaryOp .Add) (rNat2 CT fun a b => a + b) := by
  intro pins s σ H x y v u Q I rx ry h
  obtain ⟨a, b, e1, e2, _, q⟩ := h.ex
  exact op_add pins s σ H x y v u Q I rx ry ⟨_, _, e1, e2, by show Q (V.int ((a : Int) + b)) H; rw [← Int.natCast_add]; exact q⟩
theorem nop_sub : OpR X (binaryOp .Sub) (rNat2 (fun a b => b ≤ a) fun a b => a - b) := by
  intro pins s σ H x y v u Q I rx ry h
  obtain ⟨a, b, e1, e2, h, q⟩ := h.ex
  exact op_sub pins s σ H x y v u Q I rx ry ⟨_, _, e1, e2, by show Q (V.int ((a : Int) - b)) H; rw [← Int.ofNat_sub h]; exact q⟩
theorem nop_mul : OpR X (binaryOp .Mult) (rNat2 (fun a b => a < 2 ^ 63 ∨ b < 2 ^ 63) fun a b => a * b) := by
  intro pins s σ H x y v u Q I rx ry h
  obtain ⟨a, b, e1, e2, h, q⟩ := h.ex
  refine op_mul pins s σ H x y v u Q I rx ry ⟨_, _, e1, e2, ?_, by show Q (V.int ((a : Int) * b)) H; rw [← Int.natCast_mul]; exact q⟩
  rcases h with h | h
  · exact .inl ⟨by omega, by omega⟩
  · exact .inr ⟨by omega, by omega⟩
theorem nop_mod : OpR X (binaryOp .Mod) (rNat2 (fun _ b => 0 < b) fun a b => a % b) := by
  intro pins s σ H x y v u Q I rx ry h
  obtain ⟨a, b, e1, e2, h, q⟩ := h.ex
  exact op_mod pins s σ H x y v u Q I rx ry ⟨_, _, e1, e2, by show (0 : Int) < _; omega, by show Q (V.int ((a : Int) % b)) H; rw [← Int.natCast_emod]; exact q⟩
theorem nop_fdiv : OpR X (binaryOp .FloorDiv) (rNat2 (fun _ b => 0 < b ∧ b < 1073741824) fun a b => a / b) := by
  intro pins s σ H x y v u Q I rx ry h
  obtain ⟨a, b, e1, e2, h, q⟩ := h.ex
  exact op_fdiv pins s σ H x y v u Q I rx ry ⟨_, _, e1, e2, ⟨by show (0 : Int) < _; omega, by show (b : Int) < _; omega⟩, by show Q (V.int ((a : Int) / b)) H; rw [← Int.natCast_ediv]; exact q⟩
theorem nop_shr : OpR X (binaryOp .RShift) (rNat2 CT fun a b => a / 2 ^ b) := by
  intro pins s σ H x y v u Q I rx ry h
  obtain ⟨a, b, e1, e2, _, q⟩ := h.ex
  refine op_shrN pins s σ H x y v u Q I rx ry ⟨_, _, e1, e2, ?_⟩
  rw [show (a : Int) / 2 ^ b = ((a / 2 ^ b : Nat) : Int) by rw [Int.natCast_ediv, Int.natCast_pow]; rfl]
  exact q
theorem nop_shl : OpR X (binaryOp .LShift) (rNat2 (fun a b => W30 a ∧ b ≤ 30000) fun a b => a * 2 ^ b) := by
  intro pins s σ H x y v u Q I rx ry h
  obtain ⟨a, b, e1, e2, h, q⟩ := h.ex
  refine op_shlN pins s σ H x y v u Q I rx ry ⟨_, _, e1, e2, ⟨Int.natCast_nonneg _, ?_⟩, ?_⟩
  · have := bits_le h.1
    have h2 := h.2
    show (Builtin.Int.intBits (a : Int) : Int) + (b : Int) ≤ 2 ^ 27
    rw [show (2 : Int) ^ 27 = 134217728 by decide]
    omega
  · rw [show (a : Int) * 2 ^ b = ((a * 2 ^ b : Nat) : Int) by rw [Int.natCast_mul, Int.natCast_pow]; rfl]
    exact q
theorem nop_and : OpR X (binaryOp .BitAnd) (rNat2 CT fun a b => a &&& b) := by
  intro pins s σ H x y v u Q I rx ry h
  obtain ⟨a, b, e1, e2, _, q⟩ := h.ex
  refine op_and pins s σ H x y v u Q I rx ry ⟨_, _, e1, e2, ?_⟩
  show Q (V.int (Builtin.bitAnd (a : Int) b)) H
  rw [bitAnd_pp (Int.natCast_nonneg _) (Int.natCast_nonneg _), Int.toNat_natCast, Int.toNat_natCast]
  exact q
theorem nop_xor : OpR X (binaryOp .BitXor) (rNat2 CT fun a b => a ^^^ b) := by
  intro pins s σ H x y v u Q I rx ry h
  obtain ⟨a, b, e1, e2, _, q⟩ := h.ex
  refine op_xor pins s σ H x y v u Q I rx ry ⟨_, _, e1, e2, ?_⟩
  show Q (V.int (Builtin.bitXor (a : Int) b)) H
  rw [Bits.bitXor_pp (Int.natCast_nonneg _) (Int.natCast_nonneg _), Int.toNat_natCast, Int.toNat_natCast]
  exact q
theorem nop_or : OpR X (binaryOp .BitOr) (rNat2 CT fun a b => a ||| b) := by
  intro pins s σ H x y v u Q I rx ry h
  obtain ⟨a, b, e1, e2, _, q⟩ := h.ex
  refine op_or pins s σ H x y v u Q I rx ry ⟨_, _, e1, e2, ?_⟩
  show Q (V.int (Builtin.bitOr (a : Int) b)) H
  rw [Bits.bitOr_pp (Int.natCast_nonneg _) (Int.natCast_nonneg _), Int.toNat_natCast, Int.toNat_natCast]
  exact q
end
theorem W30.of {a k : Nat} (h : a < 2 ^ k) (hk : k ≤ 30000) : W30 a := Nat.lt_of_lt_of_le h (Nat.pow_le_pow_right (by decide) hk)
theorem W30.le {a b : Nat} (h : W30 b) (hk : a ≤ b) : W30 a := Nat.lt_of_le_of_lt hk h
theorem W30.one : W30 1 := .of (k := 1) (by decide) (by decide)
/-- 1 << k, by a name -/
def rOneR : R2 := fun x y H Q => ∃ k : Nat, x = .int 1 ∧ y = .int (k : Int) ∧ k ≤ 1000000 ∧ Q (.int ((2 ^ k : Nat) : Int)) H
theorem mono_one : R2Mono rOneR := fun x y H Q1 Q2 h ⟨k, a, b, c, q⟩ => ⟨k, a, b, c, h _ _ q⟩
theorem mono_nat {C : Nat → Nat → Prop} {g : Nat → Nat → Nat} : R2Mono (rNat2 C g) := fun x y H Q1 Q2 h z P k => z P fun a b e1 e2 c q => k a b e1 e2 c (h _ _ q)
theorem and_mask (a k : Nat) : a &&& (2 ^ k - 1) = a % 2 ^ k := Nat.and_two_pow_sub_one_eq_mod a k
theorem and_1 (a : Nat) : a &&& 1 = a % 2 := Nat.and_one_is_mod a
end OB
namespace K70
open PySem PySem.Spec PyProof.Rows L2 OB SkE LamX
theorem pick_int {ks : List Int} {j : Nat} {x : V} (h : (ks.map V.int)[j]? = some x) : ∃ k ∈ ks, x = V.int k := by
  rw [List.getElem?_map] at h
  cases e : ks[j]? with
  | none => rw [e] at h; cases h
  | some k => rw [e] at h; exact ⟨k, List.mem_of_getElem? e, (Option.some.inj h).symm⟩
theorem nat9 {k : Int} (h : k.natAbs < 1000) : k.natAbs < 2 ^ 9000 := Nat.lt_of_lt_of_le h (by decide)
theorem two_of {α : Type} : ∀ {l : List α}, l.length = 2 → ∃ a b, l = [a, b]
  | [a, b], _ => ⟨a, b, rfl⟩
/-- what stands between two steps of the law -/
structure Mid (T : List (Addr × Str)) (p b n : Nat) (H : Hp) : Prop where
  o : Orch H p b n
  t : Tabs T H
theorem Mid.same {T : List (Addr × Str)} {p b n : Nat} {H H' : Hp} (m : Mid T p b n H) (s : Same H H') : Mid T p b n H' := ⟨m.o.same s, m.t.ext s⟩
theorem Mid.draw {T : List (Addr × Str)} {p b n k : Nat} {H H' : Hp} (m : Mid T p b n H) (o : Orch H' p b k) (B : But p H H') : Mid T p b k H' := ⟨o, tabs_orchN m.t B m.o⟩
theorem Mid.mono {T : List (Addr × Str)} {p b n k : Nat} {H : Hp} (m : Mid T p b n H) (h : n ≤ k) : Mid T p b k H := ⟨m.o.mono h, m.t⟩
theorem Mid.put {T : List (Addr × Str)} {p b n : Nat} {H : Hp} {D : Addr} {xs ys : List V} (m : Mid T p b n H) (hD : H D = some (.lst xs)) (n1 : D ≠ p) (n2 : b ≠ D) : Mid T p b n (upd H D (.lst ys)) :=
  ⟨m.o.keep (fun u e => by rw [upd_ne n1.symm]; exact e) (fun u e => by rw [upd_ne n2]; exact e), tabs_butN m.t but_at hD⟩
theorem Mid.pD {T : List (Addr × Str)} {p b n : Nat} {H : Hp} {D : Addr} (m : Mid T p b n H) (h : H D = none) : D ≠ p := by
  obtain ⟨u, hu⟩ := m.o.pn
  exact (ne_of_none hu h).symm
theorem Mid.bD {T : List (Addr × Str)} {p b n : Nat} {H : Hp} {D : Addr} (m : Mid T p b n H) (h : H D = none) : b ≠ D := by
  obtain ⟨u, hu⟩ := m.o.bn
  exact ne_of_none hu h
theorem Mid.ext {T : List (Addr × Str)} {p b n : Nat} {H H' : Hp} (m : Mid T p b n H) (e : ExtN H H') (t : Tabs T H') : Mid T p b n H' := ⟨orch_extN m.o e, t⟩
theorem but_put {p D : Addr} {H H' : Hp} {o : HO} (hD : H D = none) (B : But p H H') : But p H (upd H' D o) := fun a u e na => by
  rw [upd_ne (ne_of_none e hD)]
  exact B _ _ e na
theorem new_facts {H H' : Hp} {l : Addr} {o : HO} (h : H l = none) (e : upd H l o = H') : Same H H' ∧ H' l = some o := by
  subst e
  exact ⟨same_new h, upd_same⟩
def wd (b : Nat) : Nat := b / 2 + b % 2
def catS (l : List Str) : Str := l.foldl (· ++ ·) ""
def cell (ms : List (Option Nat)) (sh : List Nat) (w : Nat) : Str := if w ∈ sh then sg (ms.getD w none) else "."
def rowT (ms : List (Option Nat)) (sh : List Nat) (k h : Nat) : List Str := (rowL k).map fun l => cell ms sh (l + h * 2 ^ k)
def tabT (b : Nat) (ms : List (Option Nat)) (sh : List Nat) : List Str := (rowL (b - wd b)).map fun h => catS (rowT ms sh (wd b) h)
theorem catS_snoc (l : List Str) (x : Str) : catS (l ++ [x]) = catS l ++ x := by
  unfold catS
  rw [List.foldl_append]
  rfl
theorem sg_len (m : Option Nat) : (sg m).length = 1 := by
  cases m with
  | none => decide +kernel
  | some n => rfl
theorem cell_len (ms : List (Option Nat)) (sh : List Nat) (w : Nat) : (cell ms sh w).length = 1 := by
  unfold cell
  by_cases h : w ∈ sh
  · rw [if_pos h]; exact sg_len _
  · rw [if_neg h]; decide +kernel
theorem catS_len : ∀ l : List Str, (∀ x ∈ l, x.length = 1) → (catS l).length = l.length := fun l h => by
  have gen : ∀ (l : List Str) (a : Str), (∀ x ∈ l, x.length = 1) → (l.foldl (· ++ ·) a).length = a.length + l.length := by
    intro l
    induction l with
    | nil => intro a _; rfl
    | cons x r ih =>
      intro a h
      rw [List.foldl_cons, ih _ fun y hy => h y (List.mem_cons_of_mem _ hy), Str.length_append, h x List.mem_cons_self, List.length_cons]
      omega
  have := gen l "" h
  rw [show ("" : Str).length = 0 by decide +kernel, Nat.zero_add] at this
  exact this
theorem inV_iv (w : Nat) : ∀ sh : List Nat, inV (.int (w : Int)) (iv sh) = decide (w ∈ sh)
  | [] => by simp [inV, iv]
  | a :: r => by
    have ih := inV_iv w r
    have e : inV (.int (w : Int)) (iv (a :: r)) = (eqV (.int (a : Int)) (.int (w : Int)) || inV (.int (w : Int)) (iv r)) := rfl
    rw [e, ih]
    have : eqV (.int (a : Int)) (.int (w : Int)) = decide (w = a) := by
      show decide ((a : Int) = (w : Int)) = _
      by_cases h : w = a
      · subst h; simp
      · rw [decide_eq_false h]
        exact decide_eq_false fun z => h (by omega)
    rw [this]
    by_cases h : w = a
    · simp [h]
    · simp [h]
theorem flat_iv : ∀ sh : List Nat, (iv sh).all flatV = true
  | [] => rfl
  | a :: r => flat_iv r
def spDue : Sp := fun vs H Q _ => ∃ (b : Nat) (ms : List (Option Nat)) (D S_ : Addr) (sh : List Nat), vs = [.int (b : Int), .ref D, .ref S_] ∧ LayOk b ms ∧ H D = some (.lst (ms.map mv)) ∧ H S_ = some (.lst (iv sh)) ∧
  ∀ q H', H q = none → Same H H' → H' q = some (.tup ((tabT b ms sh).map V.str)) → Q (.ref q) H'
section
variable {P : Program} {w : World} {K : PySem.W.Frag} {mg : Str → Option Value} {base : Heap}
theorem sc__law_due : FnScope ["bits", "means", "shown", "wide", "found", "high", "row", "low", "word"] ["bits", "means", "shown"] (defScope s__law_due) := ⟨rfl, rfl, rfl, by decide +kernel, rfl, by decide +kernel, by decide +kernel⟩
abbrev N__law_due : List Str := ["bits", "means", "shown", "wide", "found", "high", "row", "low", "word"]
theorem ok__law_due {f f1 f2 : Addr} {fd fd1 fd2 : FuncData} (F : Fun K "_law_due" "_law_due" s__law_due f fd) (T : Blt mg) (D__law_ordered : Df K mg "_law_ordered" s__law_ordered ["many"] f1 fd1) (D__law_sign : Df K mg "_law_sign" s__law_sign ["state"] f2 fd2) : FnOk P w K mg base CX0 2 f fd ["bits", "means", "shown"] spDue := by
  have G__law_ordered : FnOk P w K mg base CX0 1 f1 fd1 ["many"] spRow := ok__law_ordered D__law_ordered.F T
  have G__law_sign : FnOk P w K mg base CX0 1 f2 fd2 ["state"] spSign := ok__law_sign D__law_sign.F T
  refine F.ok sc__law_due (fun vs H Q E h => ?_) (fun cdv A outer s H vs Q E hr h => ?_)
  · obtain ⟨b, ms, D, S_, sh, rfl, _⟩ := h
    rfl
  · obtain ⟨b, ms, D, S_, sh, rfl, ok, hD, hS, k⟩ := h
    refine ⟨_, (pss_cons (ps_set (i := 3) sc__law_due.nd rfl (Or.inl rfl) (pe_op nop_add (pe_op nop_fdiv (pv 0) (pe_intN 2)) (pe_op nop_mod (pe_callTy call_int1 (by rfl) T.n_int (by decide +kernel) (pa_cons (pv 0) pa_nil)) (pe_intN 2))))
  (pss_cons (ps_set (i := 4) sc__law_due.nd rfl (Or.inl rfl) (pe_lst pa_nil))
  (pss_cons (ps_for PassesOwn.never rfl (pi_list (pe_call G__law_ordered (hr.mono (by decide)) (by rfl) D__law_ordered.g D__law_ordered.F.kp D__law_ordered.b .nil pass0 (pa_cons (pe_op nop_sub (pv 0) (pv 3)) pa_nil))) (pg_name (i := 5) sc__law_due.nd rfl (Or.inl rfl)) (pss_cons (ps_set (i := 6) sc__law_due.nd rfl (Or.inl rfl) pe_str)
  (pss_cons (ps_for PassesOwn.never rfl (pi_list (pe_call G__law_ordered (hr.mono (by decide)) (by rfl) D__law_ordered.g D__law_ordered.F.kp D__law_ordered.b .nil pass0 (pa_cons (pv 3) pa_nil))) (pg_name (i := 7) sc__law_due.nd rfl (Or.inl rfl)) (pss_cons (ps_set (i := 8) sc__law_due.nd rfl (Or.inl rfl) (pe_op nop_add (pv 7) (pe_op nop_shl (pv 5) (pv 3))))
  (pss_one (ps_set (i := 6) sc__law_due.nd rfl (Or.inl rfl) (pe_op op_add_str (pv 6) (pe_ifExp (pt_cmpR op_in_seq (pv 8) (pv 2) (by rfl)) (pe_call G__law_sign (hr.mono (by decide)) (by rfl) D__law_sign.g D__law_sign.F.kp D__law_sign.b .nil pass0 (pa_cons (pe_ix ix_list (pv 1) (pv 8) (fun _ _ => rfl)) pa_nil)) pe_str))))))
  (pss_one (ps_expr (pe_bm PySem.F.plainAttrs_list PySem.F.slot_list_append PySem.F.type_list_append mt_append (pv 4) (pa_cons (pv 6) pa_nil)))))))
  (pss_one (ps_ret (pe_callTy call_tuple_of (by rfl) T.n_tuple (by decide +kernel) (pa_cons (pv 4) pa_nil))))))), ?_⟩
    have b1 := ok.b1
    have b8 := ok.b8
    obtain ⟨wn, hw⟩ : ∃ wn, wd b = wn := ⟨_, rfl⟩
    have w1 : wn ≤ b ∧ 1 ≤ wn ∧ b = (b - wn) + wn := by unfold wd at hw; omega
    repeat (first | (with_reducible refine st_tC ?_) | (with_reducible refine st_tOp ?_) | ((with_reducible apply st_n); rfl; rfl; (first | trivial | (show _ ≤ _; omega) | (show _ < _; omega) | (show _ ∨ _; omega) | assumption | exact ⟨by assumption, by omega⟩ | exact ⟨W30.one, by omega⟩ | fail); rfl) | (with_reducible refine st_i0 rfl rfl rfl ?_) | ((with_reducible refine st_i rfl rfl ?_ rfl ?_); first | omega | exact ⟨by decide, by decide, by decide⟩ | exact .inl ⟨by decide, by decide⟩ | exact .inl ⟨by omega, by omega⟩ | exact .inr ⟨by omega, by omega⟩ | fail) | ((fail_if_success refine Exists.intro (α := Nat → Nat → L2.St → Hp → Prop) ?_ ?_); (fail_if_success refine Exists.intro (α := L2.St → Hp → Prop) ?_ ?_); (fail_if_success refine Exists.intro (α := Nat → L2.St → Hp → Prop) ?_ ?_); apply Exists.intro) | ((refine And.intro ?_ ?_); first | with_reducible rfl | with_reducible assumption | rfl | ((with_reducible apply SqL.of); assumption) | ((with_reducible apply SqT.of); assumption) | ((with_reducible apply OwnC.cl); assumption) | (with_reducible exact isI_int _) | exact within_args | (with_reducible exact upd_same) | ((with_reducible apply Mid.o); assumption) | ((with_reducible apply Mid.t); assumption) | exact .inl ⟨rfl, _, SqL.of (by assumption)⟩ | (with_reducible exact ⟨_, SqT.of (by assumption)⟩) | (with_reducible exact ⟨_, SqL.of (by assumption)⟩) | omega | exact Nat.le_of_ble_eq_true rfl | exact nat9 (by omega) | exact ⟨_, rfl⟩ | (show _ ≤ sizeLine; decide) | exact ⟨by decide, by decide, by decide⟩ | exact .inl ⟨by decide, by decide⟩ | exact .inl ⟨by omega, by omega⟩ | exact .inr ⟨by omega, by omega⟩ | assumption | fail) | ((with_reducible refine iteF' ?_ ?_); first | rfl | exact decide_eq_false (by omega) | exact in_no (by omega) (by omega) | exact in_no (by omega) (by assumption) | (simp <;> fail) | fail) | ((with_reducible refine iteT' ?_ ?_); first | rfl | exact decide_eq_true (by omega) | (simp <;> fail) | fail))
    refine .inl ⟨_, rfl, ?_⟩
    repeat (first | (with_reducible refine st_tC ?_) | (with_reducible refine st_tOp ?_) | ((with_reducible apply st_n); rfl; rfl; (first | trivial | (show _ ≤ _; omega) | (show _ < _; omega) | (show _ ∨ _; omega) | assumption | exact ⟨by assumption, by omega⟩ | exact ⟨W30.one, by omega⟩ | fail); rfl) | (with_reducible refine st_i0 rfl rfl rfl ?_) | ((with_reducible refine st_i rfl rfl ?_ rfl ?_); first | omega | exact ⟨by decide, by decide, by decide⟩ | exact .inl ⟨by decide, by decide⟩ | exact .inl ⟨by omega, by omega⟩ | exact .inr ⟨by omega, by omega⟩ | fail) | ((fail_if_success refine Exists.intro (α := Nat → Nat → L2.St → Hp → Prop) ?_ ?_); (fail_if_success refine Exists.intro (α := L2.St → Hp → Prop) ?_ ?_); (fail_if_success refine Exists.intro (α := Nat → L2.St → Hp → Prop) ?_ ?_); apply Exists.intro) | ((refine And.intro ?_ ?_); first | with_reducible rfl | with_reducible assumption | rfl | ((with_reducible apply SqL.of); assumption) | ((with_reducible apply SqT.of); assumption) | ((with_reducible apply OwnC.cl); assumption) | (with_reducible exact isI_int _) | exact within_args | (with_reducible exact upd_same) | ((with_reducible apply Mid.o); assumption) | ((with_reducible apply Mid.t); assumption) | exact .inl ⟨rfl, _, SqL.of (by assumption)⟩ | (with_reducible exact ⟨_, SqT.of (by assumption)⟩) | (with_reducible exact ⟨_, SqL.of (by assumption)⟩) | omega | exact Nat.le_of_ble_eq_true rfl | exact nat9 (by omega) | exact ⟨_, rfl⟩ | (show _ ≤ sizeLine; decide) | exact ⟨by decide, by decide, by decide⟩ | exact .inl ⟨by decide, by decide⟩ | exact .inl ⟨by omega, by omega⟩ | exact .inr ⟨by omega, by omega⟩ | assumption | fail) | ((with_reducible refine iteF' ?_ ?_); first | rfl | exact decide_eq_false (by omega) | exact in_no (by omega) (by omega) | exact in_no (by omega) (by assumption) | (simp <;> fail) | fail) | ((with_reducible refine iteT' ?_ ?_); first | rfl | exact decide_eq_true (by omega) | (simp <;> fail) | fail))
    rw [show b / 2 + b % 2 = wn from hw]
    intro F hF
    generalize hE : upd _ F _ = H1
    obtain ⟨SF, gF⟩ := new_facts hF hE
    clear hE
    repeat (first | (with_reducible refine st_tC ?_) | (with_reducible refine st_tOp ?_) | ((with_reducible apply st_n); rfl; rfl; (first | trivial | (show _ ≤ _; omega) | (show _ < _; omega) | (show _ ∨ _; omega) | assumption | exact ⟨by assumption, by omega⟩ | exact ⟨W30.one, by omega⟩ | fail); rfl) | (with_reducible refine st_i0 rfl rfl rfl ?_) | ((with_reducible refine st_i rfl rfl ?_ rfl ?_); first | omega | exact ⟨by decide, by decide, by decide⟩ | exact .inl ⟨by decide, by decide⟩ | exact .inl ⟨by omega, by omega⟩ | exact .inr ⟨by omega, by omega⟩ | fail) | ((fail_if_success refine Exists.intro (α := Nat → Nat → L2.St → Hp → Prop) ?_ ?_); (fail_if_success refine Exists.intro (α := L2.St → Hp → Prop) ?_ ?_); (fail_if_success refine Exists.intro (α := Nat → L2.St → Hp → Prop) ?_ ?_); apply Exists.intro) | ((refine And.intro ?_ ?_); first | with_reducible rfl | with_reducible assumption | rfl | ((with_reducible apply SqL.of); assumption) | ((with_reducible apply SqT.of); assumption) | ((with_reducible apply OwnC.cl); assumption) | (with_reducible exact isI_int _) | exact within_args | (with_reducible exact upd_same) | ((with_reducible apply Mid.o); assumption) | ((with_reducible apply Mid.t); assumption) | exact .inl ⟨rfl, _, SqL.of (by assumption)⟩ | (with_reducible exact ⟨_, SqT.of (by assumption)⟩) | (with_reducible exact ⟨_, SqL.of (by assumption)⟩) | omega | exact Nat.le_of_ble_eq_true rfl | exact nat9 (by omega) | exact ⟨_, rfl⟩ | (show _ ≤ sizeLine; decide) | exact ⟨by decide, by decide, by decide⟩ | exact .inl ⟨by decide, by decide⟩ | exact .inl ⟨by omega, by omega⟩ | exact .inr ⟨by omega, by omega⟩ | assumption | fail) | ((with_reducible refine iteF' ?_ ?_); first | rfl | exact decide_eq_false (by omega) | exact in_no (by omega) (by omega) | exact in_no (by omega) (by assumption) | (simp <;> fail) | fail) | ((with_reducible refine iteT' ?_ ?_); first | rfl | exact decide_eq_true (by omega) | (simp <;> fail) | fail))
    intro q1 H2 nq1 S2 g1
    have nFq : F ≠ q1 := ne_of_none gF nq1
    replace gF := S2 _ _ gF
    have S := SF.trans S2
    refine ⟨q1, rfl, ⟨_, SqL.of g1⟩, ?_⟩
    have hR : tabT b ms sh = (rowL (b - wn)).map fun h => catS (rowT ms sh wn h) := by rw [← hw]; rfl
    generalize hL : rowL (b - wn) = L at *
    have hLen : L.length ≤ 256 ∧ ∀ h ∈ L, h < 2 ^ (b - wn) := by
      obtain ⟨r1, r2, _⟩ := row_facts (b - wn) (by omega)
      rw [hL] at r1 r2
      exact ⟨by rw [r1]; exact pow8 (by omega), r2⟩
    refine for_list (K := K) (a := q1) (xs := iv L) (fun i σ H' => Same H H' ∧ H' q1 = some (.lst (iv L)) ∧ H' F = some (.lst (((L.map fun h => catS (rowT ms sh wn h)).take i).map V.str)) ∧ ∃ u5 u6 u7 u8 : Option V, σ = [some (.int (b : Int)), some (.ref D), some (.ref S_), some (.int (wn : Int)), some (.ref F), u5, u6, u7, u8]) ⟨S, g1, gF, _, _, _, _, rfl⟩ (fun i σ H' _ z => SqL.of z.2.1) ?_ ?_
    · rintro i y σ H3 hy ⟨S3, g3, gF3, u5, u6, u7, u8, rfl⟩
      obtain ⟨h, hh, rfl⟩ := iv_of hy
      have hlt := hLen.2 h (List.mem_of_getElem? hh)
      have hi := (List.getElem?_eq_some_iff.mp hh).1
      repeat (first | (with_reducible refine st_tC ?_) | (with_reducible refine st_tOp ?_) | ((with_reducible apply st_n); rfl; rfl; (first | trivial | (show _ ≤ _; omega) | (show _ < _; omega) | (show _ ∨ _; omega) | assumption | exact ⟨by assumption, by omega⟩ | exact ⟨W30.one, by omega⟩ | fail); rfl) | (with_reducible refine st_i0 rfl rfl rfl ?_) | ((with_reducible refine st_i rfl rfl ?_ rfl ?_); first | omega | exact ⟨by decide, by decide, by decide⟩ | exact .inl ⟨by decide, by decide⟩ | exact .inl ⟨by omega, by omega⟩ | exact .inr ⟨by omega, by omega⟩ | fail) | ((fail_if_success refine Exists.intro (α := Nat → Nat → L2.St → Hp → Prop) ?_ ?_); (fail_if_success refine Exists.intro (α := L2.St → Hp → Prop) ?_ ?_); (fail_if_success refine Exists.intro (α := Nat → L2.St → Hp → Prop) ?_ ?_); apply Exists.intro) | ((refine And.intro ?_ ?_); first | with_reducible rfl | with_reducible assumption | rfl | ((with_reducible apply SqL.of); assumption) | ((with_reducible apply SqT.of); assumption) | ((with_reducible apply OwnC.cl); assumption) | (with_reducible exact isI_int _) | exact within_args | (with_reducible exact upd_same) | ((with_reducible apply Mid.o); assumption) | ((with_reducible apply Mid.t); assumption) | exact .inl ⟨rfl, _, SqL.of (by assumption)⟩ | (with_reducible exact ⟨_, SqT.of (by assumption)⟩) | (with_reducible exact ⟨_, SqL.of (by assumption)⟩) | omega | exact Nat.le_of_ble_eq_true rfl | exact nat9 (by omega) | exact ⟨_, rfl⟩ | (show _ ≤ sizeLine; decide) | exact ⟨by decide, by decide, by decide⟩ | exact .inl ⟨by decide, by decide⟩ | exact .inl ⟨by omega, by omega⟩ | exact .inr ⟨by omega, by omega⟩ | assumption | fail) | ((with_reducible refine iteF' ?_ ?_); first | rfl | exact decide_eq_false (by omega) | exact in_no (by omega) (by omega) | exact in_no (by omega) (by assumption) | (simp <;> fail) | fail) | ((with_reducible refine iteT' ?_ ?_); first | rfl | exact decide_eq_true (by omega) | (simp <;> fail) | fail))
      intro q2 H4 nq2 S4 g4
      refine ⟨q2, rfl, ⟨_, SqL.of g4⟩, ?_⟩
      have S5 := S3.trans S4
      replace g3 := S4 _ _ g3
      replace gF3 := S4 _ _ gF3
      obtain ⟨r1, r2, _⟩ := row_facts wn (by omega)
      have hD4 := S5 _ _ hD
      have hS4 := S5 _ _ hS
      have w30 : W30 h := .of hlt (by omega)
      have p2 := pow8 (show wn ≤ 8 by omega)
      refine for_list (K := K) (a := q2) (xs := iv (rowL wn)) (fun j σ H' => H' = H4 ∧ ∃ u7 u8 : Option V, σ = [some (.int (b : Int)), some (.ref D), some (.ref S_), some (.int (wn : Int)), some (.ref F), some (.int (h : Int)), some (.str (catS ((rowT ms sh wn h).take j))), u7, u8]) ⟨rfl, _, _, rfl⟩ (fun j σ H' _ z => by rw [z.1]; exact SqL.of g4) ?_ ?_
      · rintro j y σ H5 hy ⟨rfl, u7, u8, rfl⟩
        obtain ⟨l, hl, rfl⟩ := iv_of hy
        have llt := r2 l (List.mem_of_getElem? hl)
        have jlt := (List.getElem?_eq_some_iff.mp hl).1
        repeat (first | (with_reducible refine st_tC ?_) | (with_reducible refine st_tOp ?_) | ((with_reducible apply st_n); rfl; rfl; (first | trivial | (show _ ≤ _; omega) | (show _ < _; omega) | (show _ ∨ _; omega) | assumption | exact ⟨by assumption, by omega⟩ | exact ⟨W30.one, by omega⟩ | fail); rfl) | (with_reducible refine st_i0 rfl rfl rfl ?_) | ((with_reducible refine st_i rfl rfl ?_ rfl ?_); first | omega | exact ⟨by decide, by decide, by decide⟩ | exact .inl ⟨by decide, by decide⟩ | exact .inl ⟨by omega, by omega⟩ | exact .inr ⟨by omega, by omega⟩ | fail) | ((fail_if_success refine Exists.intro (α := Nat → Nat → L2.St → Hp → Prop) ?_ ?_); (fail_if_success refine Exists.intro (α := L2.St → Hp → Prop) ?_ ?_); (fail_if_success refine Exists.intro (α := Nat → L2.St → Hp → Prop) ?_ ?_); apply Exists.intro) | ((refine And.intro ?_ ?_); first | with_reducible rfl | with_reducible assumption | rfl | ((with_reducible apply SqL.of); assumption) | ((with_reducible apply SqT.of); assumption) | ((with_reducible apply OwnC.cl); assumption) | (with_reducible exact isI_int _) | exact within_args | (with_reducible exact upd_same) | ((with_reducible apply Mid.o); assumption) | ((with_reducible apply Mid.t); assumption) | exact .inl ⟨rfl, _, SqL.of (by assumption)⟩ | (with_reducible exact ⟨_, SqT.of (by assumption)⟩) | (with_reducible exact ⟨_, SqL.of (by assumption)⟩) | omega | exact Nat.le_of_ble_eq_true rfl | exact nat9 (by omega) | exact ⟨_, rfl⟩ | (show _ ≤ sizeLine; decide) | exact ⟨by decide, by decide, by decide⟩ | exact .inl ⟨by decide, by decide⟩ | exact .inl ⟨by omega, by omega⟩ | exact .inr ⟨by omega, by omega⟩ | assumption | fail) | ((with_reducible refine iteF' ?_ ?_); first | rfl | exact decide_eq_false (by omega) | exact in_no (by omega) (by omega) | exact in_no (by omega) (by assumption) | (simp <;> fail) | fail) | ((with_reducible refine iteT' ?_ ?_); first | rfl | exact decide_eq_true (by omega) | (simp <;> fail) | fail))
        have wlt : l + h * 2 ^ wn < ms.length := by
          rw [ok.len, show 2 ^ b = 2 ^ (b - wn) * 2 ^ wn by rw [← Nat.pow_add]; congr 1; omega]
          have : (h + 1) * 2 ^ wn ≤ 2 ^ (b - wn) * 2 ^ wn := Nat.mul_le_mul_right _ hlt
          rw [Nat.succ_mul] at this
          omega
        obtain ⟨m, hm⟩ : ∃ m, ms[l + h * 2 ^ wn]? = some m := ⟨_, List.getElem?_eq_getElem wlt⟩
        have hgt : ms.getD (l + h * 2 ^ wn) none = m := by rw [List.getD_eq_getElem?_getD, hm]; rfl
        have hstep : catS ((rowT ms sh wn h).take (j + 1)) = catS ((rowT ms sh wn h).take j) ++ cell ms sh (l + h * 2 ^ wn) := by
          rw [List.take_add_one, show (rowT ms sh wn h)[j]? = some (cell ms sh (l + h * 2 ^ wn)) by unfold rowT; rw [List.getElem?_map, hl]; rfl, ← catS_snoc]
          rfl
        have hrl : (catS ((rowT ms sh wn h).take j)).length ≤ 256 := by
          rw [catS_len _ fun x hx => by
            obtain ⟨z, _, rfl⟩ := List.mem_map.mp (List.mem_of_mem_take hx)
            exact cell_len _ _ _]
          rw [List.length_take]
          omega
        refine ⟨.inl (SqL.of hS4), rfl, flat_iv sh, inV (.int ((l + h * 2 ^ wn : Nat) : Int)) (iv sh), rfl, ?_⟩
        by_cases c : l + h * 2 ^ wn ∈ sh
        · have hc : cell ms sh (l + h * 2 ^ wn) = sg m := by unfold cell; rw [if_pos c, hgt]
          refine iteT' (by rw [inV_iv]; exact decide_eq_true c) ?_
          refine ⟨_, rfl, _, rfl, D, _, _, mv m, rfl, rfl, SqL.of hD4, atI_nat (by rw [List.getElem?_map, hm]; rfl), m, rfl, fun n e => ok.small n (List.mem_of_getElem? (e ▸ hm)), ?_⟩
          refine ⟨_, _, rfl, rfl, by rw [sg_len, sizeLine_eq]; omega, ?_⟩
          exact ⟨rfl, _, _, by rw [hstep, hc]; rfl⟩
        · have hc : cell ms sh (l + h * 2 ^ wn) = "." := by unfold cell; rw [if_neg c]
          refine iteF' (by rw [inV_iv]; exact decide_eq_false c) ?_
          refine ⟨_, _, rfl, rfl, by rw [show ("." : Str).length = 1 by decide +kernel, sizeLine_eq]; omega, ?_⟩
          exact ⟨rfl, _, _, by rw [hstep, hc]; rfl⟩
      · rintro σ H5 ⟨rfl, u7, u8, rfl⟩
        repeat (first | (with_reducible refine st_tC ?_) | (with_reducible refine st_tOp ?_) | ((with_reducible apply st_n); rfl; rfl; (first | trivial | (show _ ≤ _; omega) | (show _ < _; omega) | (show _ ∨ _; omega) | assumption | exact ⟨by assumption, by omega⟩ | exact ⟨W30.one, by omega⟩ | fail); rfl) | (with_reducible refine st_i0 rfl rfl rfl ?_) | ((with_reducible refine st_i rfl rfl ?_ rfl ?_); first | omega | exact ⟨by decide, by decide, by decide⟩ | exact .inl ⟨by decide, by decide⟩ | exact .inl ⟨by omega, by omega⟩ | exact .inr ⟨by omega, by omega⟩ | fail) | ((fail_if_success refine Exists.intro (α := Nat → Nat → L2.St → Hp → Prop) ?_ ?_); (fail_if_success refine Exists.intro (α := L2.St → Hp → Prop) ?_ ?_); (fail_if_success refine Exists.intro (α := Nat → L2.St → Hp → Prop) ?_ ?_); apply Exists.intro) | ((refine And.intro ?_ ?_); first | with_reducible rfl | with_reducible assumption | rfl | ((with_reducible apply SqL.of); assumption) | ((with_reducible apply SqT.of); assumption) | ((with_reducible apply OwnC.cl); assumption) | (with_reducible exact isI_int _) | exact within_args | (with_reducible exact upd_same) | ((with_reducible apply Mid.o); assumption) | ((with_reducible apply Mid.t); assumption) | exact .inl ⟨rfl, _, SqL.of (by assumption)⟩ | (with_reducible exact ⟨_, SqT.of (by assumption)⟩) | (with_reducible exact ⟨_, SqL.of (by assumption)⟩) | omega | exact Nat.le_of_ble_eq_true rfl | exact nat9 (by omega) | exact ⟨_, rfl⟩ | (show _ ≤ sizeLine; decide) | exact ⟨by decide, by decide, by decide⟩ | exact .inl ⟨by decide, by decide⟩ | exact .inl ⟨by omega, by omega⟩ | exact .inr ⟨by omega, by omega⟩ | assumption | fail) | ((with_reducible refine iteF' ?_ ?_); first | rfl | exact decide_eq_false (by omega) | exact in_no (by omega) (by omega) | exact in_no (by omega) (by assumption) | (simp <;> fail) | fail) | ((with_reducible refine iteT' ?_ ?_); first | rfl | exact decide_eq_true (by omega) | (simp <;> fail) | fail))
        refine ⟨by rw [List.length_map, List.length_take, sizeLine_eq]; omega, fun a o e => ?_, ?_, ?_, _, _, _, _, rfl⟩
        · rw [upd_ne (ne_of_none e hF)]
          exact S5 a o e
        · rw [upd_ne nFq.symm]
          exact g3
        · rw [upd_same, List.take_add_one, List.getElem?_map, hh, iv_len, show (rowL wn).length = (rowT ms sh wn h).length by unfold rowT; rw [List.length_map], List.take_length, List.map_append]
          rfl
    · rintro σ H3 ⟨S3, g3, gF3, u5, u6, u7, u8, rfl⟩
      repeat (first | (with_reducible refine st_tC ?_) | (with_reducible refine st_tOp ?_) | ((with_reducible apply st_n); rfl; rfl; (first | trivial | (show _ ≤ _; omega) | (show _ < _; omega) | (show _ ∨ _; omega) | assumption | exact ⟨by assumption, by omega⟩ | exact ⟨W30.one, by omega⟩ | fail); rfl) | (with_reducible refine st_i0 rfl rfl rfl ?_) | ((with_reducible refine st_i rfl rfl ?_ rfl ?_); first | omega | exact ⟨by decide, by decide, by decide⟩ | exact .inl ⟨by decide, by decide⟩ | exact .inl ⟨by omega, by omega⟩ | exact .inr ⟨by omega, by omega⟩ | fail) | ((fail_if_success refine Exists.intro (α := Nat → Nat → L2.St → Hp → Prop) ?_ ?_); (fail_if_success refine Exists.intro (α := L2.St → Hp → Prop) ?_ ?_); (fail_if_success refine Exists.intro (α := Nat → L2.St → Hp → Prop) ?_ ?_); apply Exists.intro) | ((refine And.intro ?_ ?_); first | with_reducible rfl | with_reducible assumption | rfl | ((with_reducible apply SqL.of); assumption) | ((with_reducible apply SqT.of); assumption) | ((with_reducible apply OwnC.cl); assumption) | (with_reducible exact isI_int _) | exact within_args | (with_reducible exact upd_same) | ((with_reducible apply Mid.o); assumption) | ((with_reducible apply Mid.t); assumption) | exact .inl ⟨rfl, _, SqL.of (by assumption)⟩ | (with_reducible exact ⟨_, SqT.of (by assumption)⟩) | (with_reducible exact ⟨_, SqL.of (by assumption)⟩) | omega | exact Nat.le_of_ble_eq_true rfl | exact nat9 (by omega) | exact ⟨_, rfl⟩ | (show _ ≤ sizeLine; decide) | exact ⟨by decide, by decide, by decide⟩ | exact .inl ⟨by decide, by decide⟩ | exact .inl ⟨by omega, by omega⟩ | exact .inr ⟨by omega, by omega⟩ | assumption | fail) | ((with_reducible refine iteF' ?_ ?_); first | rfl | exact decide_eq_false (by omega) | exact in_no (by omega) (by omega) | exact in_no (by omega) (by assumption) | (simp <;> fail) | fail) | ((with_reducible refine iteT' ?_ ?_); first | rfl | exact decide_eq_true (by omega) | (simp <;> fail) | fail))
      refine .inl ⟨SqL.of gF3, fun q hq => k q _ (S3.free hq) (S3.trans (same_new hq)) ?_⟩
      rw [upd_same, iv_len, ← List.length_map (f := fun h => catS (rowT ms sh wn h)) (as := L), List.take_length, hR]
end
end K70
namespace K70
open PySem PySem.Spec PyProof.Rows L2 OB SkE LamX
theorem app_empty (a : Str) : a ++ ("" : Str) = a := by
  cases a with
  | mk c => exact congrArg Str.mk (Array.append_empty (xs := c))
theorem empty_app (a : Str) : ("" : Str) ++ a = a := by
  cases a with
  | mk c => exact congrArg Str.mk (Array.empty_append (xs := c))
theorem app_assoc (a b c : Str) : a ++ b ++ c = a ++ (b ++ c) := congrArg Str.mk (Array.append_assoc (xs := a.cps) (ys := b.cps) (zs := c.cps))
theorem join_fold (l : List Str) : Txt.join "" l = catS l := by
  have gen : ∀ (l : List Str) (a : Str), l.foldl (· ++ ·) a = a ++ Str.join "" l := by
    intro l
    induction l with
    | nil => intro a; exact (app_empty a).symm
    | cons x r ih =>
      intro a
      rw [List.foldl_cons, ih]
      cases r with
      | nil =>
        show (a ++ x) ++ ("" : Str) = a ++ x
        exact app_empty _
      | cons y r =>
        show (a ++ x) ++ Str.join "" (y :: r) = a ++ ((x ++ "") ++ Str.join "" (y :: r))
        rw [app_empty, app_assoc]
  rw [TL.join_eq]
  unfold catS
  rw [gen, empty_app]
theorem gray_in {k c : Nat} (hk : k ≤ 8) (h : c < 2 ^ k) : M07.gray c < 2 ^ k := by
  obtain ⟨_, r2, _⟩ := row_facts k (by omega)
  refine r2 _ ?_
  rw [row_gray k (by omega)]
  exact List.mem_map.mpr ⟨c, List.mem_range.mpr h, rfl⟩
def spRowOf : Sp := fun vs H Q _ => ∃ (q : Addr) (ss : List Str) (b k r : Nat), vs = [.ref q, .int (k : Int), .int (r : Int)] ∧ H q = some (.lst (ss.map V.str)) ∧ ss.length = 2 ^ b ∧ b ≤ 8 ∧ k ≤ b ∧ r < 2 ^ (b - k) ∧ (∀ s ∈ ss, s.length = 1) ∧
  ∀ H', Same H H' → Q (.str (catS ((rowL k).map fun l => ss.getD (M07.gray r * 2 ^ k + l) ""))) H'
section
variable {P : Program} {w : World} {K : PySem.W.Frag} {mg : Str → Option Value} {base : Heap}
theorem sc__row_of : FnScope ["signs", "columns", "row", "ahead", "column"] ["signs", "columns", "row"] (defScope s__row_of) := ⟨rfl, rfl, rfl, by decide +kernel, rfl, by decide +kernel, by decide +kernel⟩
abbrev N__row_of : List Str := ["signs", "columns", "row", "ahead", "column"]
theorem ok__row_of {f f1 CN : Addr} {fd fd1 : FuncData} (F : Fun K "_row_of" "_row_of" s__row_of f fd) (T : Blt mg) (D_gray : Df K mg "gray" s_gray ["number"] f1 fd1) (GX_gray : FnOk P w K mg base (L2.CX P w) 5 f1 fd1 ["number"] (spGray K CN)) : FnOk P w K mg base CX0 6 f fd ["signs", "columns", "row"] spRowOf := by
  have G_gray := calm_of GX_gray
  refine F.ok sc__row_of (fun vs H Q E h => ?_) (fun cdv A outer s H vs Q E hr h => ?_)
  · obtain ⟨q, ss, b, k, r, rfl, _⟩ := h
    rfl
  · obtain ⟨q, ss, b, k, r, rfl, hq, len, b8, kb, rlt, one, K0⟩ := h
    refine ⟨_, (pss_cons (ps_set (i := 3) sc__row_of.nd rfl (Or.inr rfl) (pe_op nop_shl (pe_call G_gray (hr.mono (by decide)) (by rfl) D_gray.g D_gray.F.kp D_gray.b .nil pass0 (pa_cons (pv 2) pa_nil)) (pv 1)))
  (pss_one (ps_ret (pe_join pe_str (pe_lc (own := [("column", 4)]) (g := (gName 4)) (tt := tYes) (te := tOp (rIxL K) (tVar 0) (tOp (rNat2 CT fun a b => a + b) (tVar 3) (tCall (fun vs H Q _ => spGray K CN vs H Q fun _ _ _ => False) [] E0 (tCons (tVar 4) tNil)))) rfl sc__row_of.nd (pi_range1 (by rfl) T.n_range (pa_cons (pe_op op_oneN pe_int (pv 1)) pa_nil)) (blkOk_by (N := N__row_of) (own := [("column", 4)]) (sc := defScope s__row_of) (by decide +kernel)) (fun _ _ _ _ _ => (pg_name (i := 4) sc__row_of.nd rfl (Or.inl rfl))) (fun _ _ _ _ _ => pts_nil) (fun _ _ _ _ _ => (pe_ix ix_list (pv 0) (pe_op nop_add (pv 3) (pe_call G_gray (hr.mono (by decide)) (by rfl) D_gray.g D_gray.F.kp D_gray.b .nil pass0 (pa_cons (pv 4) pa_nil))) (fun _ _ => rfl)))))))), ?_⟩
    have gr := gray_in (show b - k ≤ 8 by omega) rlt
    have w30 : W30 (M07.gray r) := .of gr (by omega)
    refine ⟨_, rfl, .int (r : Int), true, rfl, isI_int _, fun _ => ⟨r, rfl, ?_⟩, fun z => absurd z (by show ¬ ((true && (decide ((0 : Int) ≤ (r : Int)) && true)) = false); rw [decide_eq_true (by omega)]; decide)⟩
    have p8 := pow8 (show k ≤ 8 by omega)
    repeat (first | (with_reducible refine st_tC ?_) | (with_reducible refine st_tOp ?_) | ((with_reducible apply st_n); rfl; rfl; (first | trivial | (show _ ≤ _; omega) | (show _ < _; omega) | (show _ ∨ _; omega) | assumption | exact ⟨by assumption, by omega⟩ | exact ⟨W30.one, by omega⟩ | fail); rfl) | (with_reducible refine st_i0 rfl rfl rfl ?_) | ((with_reducible refine st_i rfl rfl ?_ rfl ?_); first | omega | exact ⟨by decide, by decide, by decide⟩ | exact .inl ⟨by decide, by decide⟩ | exact .inl ⟨by omega, by omega⟩ | exact .inr ⟨by omega, by omega⟩ | fail) | ((fail_if_success refine Exists.intro (α := Nat → Nat → L2.St → Hp → Prop) ?_ ?_); (fail_if_success refine Exists.intro (α := L2.St → Hp → Prop) ?_ ?_); (fail_if_success refine Exists.intro (α := Nat → L2.St → Hp → Prop) ?_ ?_); apply Exists.intro) | ((refine And.intro ?_ ?_); first | with_reducible rfl | with_reducible assumption | rfl | ((with_reducible apply SqL.of); assumption) | ((with_reducible apply SqT.of); assumption) | ((with_reducible apply OwnC.cl); assumption) | (with_reducible exact isI_int _) | exact within_args | (with_reducible exact upd_same) | ((with_reducible apply Mid.o); assumption) | ((with_reducible apply Mid.t); assumption) | exact .inl ⟨rfl, _, SqL.of (by assumption)⟩ | (with_reducible exact ⟨_, SqT.of (by assumption)⟩) | (with_reducible exact ⟨_, SqL.of (by assumption)⟩) | omega | exact Nat.le_of_ble_eq_true rfl | exact nat9 (by omega) | exact ⟨_, rfl⟩ | (show _ ≤ sizeLine; decide) | exact ⟨by decide, by decide, by decide⟩ | exact .inl ⟨by decide, by decide⟩ | exact .inl ⟨by omega, by omega⟩ | exact .inr ⟨by omega, by omega⟩ | assumption | fail) | ((with_reducible refine iteF' ?_ ?_); first | rfl | exact decide_eq_false (by omega) | exact in_no (by omega) (by omega) | exact in_no (by omega) (by assumption) | (simp <;> fail) | fail) | ((with_reducible refine iteT' ?_ ?_); first | rfl | exact decide_eq_true (by omega) | (simp <;> fail) | fail))
    have h0 : (0 : Int) ≤ ((2 ^ k : Nat) : Int) := Int.natCast_nonneg _
    refine ⟨by omega, by omega, fun D hD => ?_⟩
    rw [Int.toNat_natCast]
    have hrow : ∀ c, c < 2 ^ k → (rowL k)[c]? = some (M07.gray c) := fun c hc => by
      rw [row_gray k (by omega), List.getElem?_map, List.getElem?_range hc]
      rfl
    have rlen : (rowL k).length = 2 ^ k := (row_facts k (by omega)).1
    refine lc_range (n := 2 ^ k) (fun i H' => Same H H' ∧ H' D = some (.lst ((((rowL k).map fun l => ss.getD (M07.gray r * 2 ^ k + l) "").take i).map V.str))) ⟨same_new hD, upd_same⟩ ?_ ?_
    · rintro i H' hi ⟨S2, h2⟩
      have gi := gray_in (show k ≤ 8 by omega) hi
      have wlt : M07.gray r * 2 ^ k + M07.gray i < ss.length := by
        rw [len, show 2 ^ b = 2 ^ (b - k) * 2 ^ k by rw [← Nat.pow_add]; congr 1; omega]
        have : (M07.gray r + 1) * 2 ^ k ≤ 2 ^ (b - k) * 2 ^ k := Nat.mul_le_mul_right _ gr
        rw [Nat.succ_mul] at this
        omega
      obtain ⟨z, hz⟩ : ∃ z, ss[M07.gray r * 2 ^ k + M07.gray i]? = some z := ⟨_, List.getElem?_eq_getElem wlt⟩
      have hq2 := S2 _ _ hq
      refine ⟨rfl, ?_⟩
      repeat (first | (with_reducible refine st_tC ?_) | (with_reducible refine st_tOp ?_) | ((with_reducible apply st_n); rfl; rfl; (first | trivial | (show _ ≤ _; omega) | (show _ < _; omega) | (show _ ∨ _; omega) | assumption | exact ⟨by assumption, by omega⟩ | exact ⟨W30.one, by omega⟩ | fail); rfl) | (with_reducible refine st_i0 rfl rfl rfl ?_) | ((with_reducible refine st_i rfl rfl ?_ rfl ?_); first | omega | exact ⟨by decide, by decide, by decide⟩ | exact .inl ⟨by decide, by decide⟩ | exact .inl ⟨by omega, by omega⟩ | exact .inr ⟨by omega, by omega⟩ | fail) | ((fail_if_success refine Exists.intro (α := Nat → Nat → L2.St → Hp → Prop) ?_ ?_); (fail_if_success refine Exists.intro (α := L2.St → Hp → Prop) ?_ ?_); (fail_if_success refine Exists.intro (α := Nat → L2.St → Hp → Prop) ?_ ?_); apply Exists.intro) | ((refine And.intro ?_ ?_); first | with_reducible rfl | with_reducible assumption | rfl | ((with_reducible apply SqL.of); assumption) | ((with_reducible apply SqT.of); assumption) | ((with_reducible apply OwnC.cl); assumption) | (with_reducible exact isI_int _) | exact within_args | (with_reducible exact upd_same) | ((with_reducible apply Mid.o); assumption) | ((with_reducible apply Mid.t); assumption) | exact .inl ⟨rfl, _, SqL.of (by assumption)⟩ | (with_reducible exact ⟨_, SqT.of (by assumption)⟩) | (with_reducible exact ⟨_, SqL.of (by assumption)⟩) | omega | exact Nat.le_of_ble_eq_true rfl | exact nat9 (by omega) | exact ⟨_, rfl⟩ | (show _ ≤ sizeLine; decide) | exact ⟨by decide, by decide, by decide⟩ | exact .inl ⟨by decide, by decide⟩ | exact .inl ⟨by omega, by omega⟩ | exact .inr ⟨by omega, by omega⟩ | assumption | fail) | ((with_reducible refine iteF' ?_ ?_); first | rfl | exact decide_eq_false (by omega) | exact in_no (by omega) (by omega) | exact in_no (by omega) (by assumption) | (simp <;> fail) | fail) | ((with_reducible refine iteT' ?_ ?_); first | rfl | exact decide_eq_true (by omega) | (simp <;> fail) | fail))
      refine ⟨fun _ => ⟨i, congrArg V.int (Int.zero_add _), ?_⟩, fun z => absurd z (by show ¬ ((true && (decide ((0 : Int) ≤ 0 + (i : Int)) && true)) = false); rw [decide_eq_true (by omega)]; decide)⟩
      repeat (first | (with_reducible refine st_tC ?_) | (with_reducible refine st_tOp ?_) | ((with_reducible apply st_n); rfl; rfl; (first | trivial | (show _ ≤ _; omega) | (show _ < _; omega) | (show _ ∨ _; omega) | assumption | exact ⟨by assumption, by omega⟩ | exact ⟨W30.one, by omega⟩ | fail); rfl) | (with_reducible refine st_i0 rfl rfl rfl ?_) | ((with_reducible refine st_i rfl rfl ?_ rfl ?_); first | omega | exact ⟨by decide, by decide, by decide⟩ | exact .inl ⟨by decide, by decide⟩ | exact .inl ⟨by omega, by omega⟩ | exact .inr ⟨by omega, by omega⟩ | fail) | ((fail_if_success refine Exists.intro (α := Nat → Nat → L2.St → Hp → Prop) ?_ ?_); (fail_if_success refine Exists.intro (α := L2.St → Hp → Prop) ?_ ?_); (fail_if_success refine Exists.intro (α := Nat → L2.St → Hp → Prop) ?_ ?_); apply Exists.intro) | ((refine And.intro ?_ ?_); first | with_reducible rfl | with_reducible assumption | rfl | ((with_reducible apply SqL.of); assumption) | ((with_reducible apply SqT.of); assumption) | ((with_reducible apply OwnC.cl); assumption) | (with_reducible exact isI_int _) | exact within_args | (with_reducible exact upd_same) | ((with_reducible apply Mid.o); assumption) | ((with_reducible apply Mid.t); assumption) | exact .inl ⟨rfl, _, SqL.of (by assumption)⟩ | (with_reducible exact ⟨_, SqT.of (by assumption)⟩) | (with_reducible exact ⟨_, SqL.of (by assumption)⟩) | omega | exact Nat.le_of_ble_eq_true rfl | exact nat9 (by omega) | exact ⟨_, rfl⟩ | (show _ ≤ sizeLine; decide) | exact ⟨by decide, by decide, by decide⟩ | exact .inl ⟨by decide, by decide⟩ | exact .inl ⟨by omega, by omega⟩ | exact .inr ⟨by omega, by omega⟩ | assumption | fail) | ((with_reducible refine iteF' ?_ ?_); first | rfl | exact decide_eq_false (by omega) | exact in_no (by omega) (by omega) | exact in_no (by omega) (by assumption) | (simp <;> fail) | fail) | ((with_reducible refine iteT' ?_ ?_); first | rfl | exact decide_eq_true (by omega) | (simp <;> fail) | fail))
      have hat : atI (ss.map V.str) ((M07.gray r * 2 ^ k + M07.gray i : Nat) : Int) = some (V.str z) := atI_nat (by rw [List.getElem?_map, hz]; rfl)
      refine ⟨hat, _, h2, ?_, fun a o e => ?_, ?_⟩
      · rw [List.length_map, List.length_take, sizeLine_eq]
        omega
      · rw [upd_ne (ne_of_none e hD)]
        exact S2 a o e
      · rw [upd_same, List.take_add_one, List.getElem?_map, hrow i hi, List.map_append]
        show some (HO.lst (_ ++ [V.str z])) = some (HO.lst (_ ++ [V.str (ss.getD (M07.gray r * 2 ^ k + M07.gray i) "")]))
        rw [List.getD_eq_getElem?_getD, hz]
        rfl
    · rintro H' ⟨S2, h2⟩
      rw [List.take_of_length_le (Nat.le_of_eq (by rw [List.length_map, rlen]))] at h2
      refine ⟨"", D, _, rfl, rfl, .inl (SqL.of h2), ?_, ?_⟩
      · have := sum_le (((rowL k).map fun l => ss.getD (M07.gray r * 2 ^ k + l) "").map (·.length)) fun x hx => by
          obtain ⟨y, hy, rfl⟩ := List.mem_map.mp hx
          obtain ⟨l, _, rfl⟩ := List.mem_map.mp hy
          rw [List.getD_eq_getElem?_getD]
          cases e : ss[M07.gray r * 2 ^ k + l]? with
          | none => show ("" : Str).length ≤ 3; decide +kernel
          | some z =>
            show z.length ≤ 3
            rw [one z (List.mem_of_getElem? e)]
            decide
        rw [show ("" : Str).length = 0 by decide +kernel, Nat.mul_zero]
        rw [List.length_map, List.length_map, rlen] at this
        omega
      · rw [join_fold]
        exact K0 _ S2
end
end K70
/-! Bits flipped one by one. -/
namespace M03
def flN (n : Nat) (ns : List Nat) : Nat := ns.foldl (fun v b => v ^^^ 2 ^ b) n
theorem flN_bit (ns : List Nat) : ∀ (n i : Nat), ns.Nodup → (flN n ns).testBit i = (n.testBit i ^^ decide (i ∈ ns)) := by
  induction ns with
  | nil =>
    intro n i _
    show n.testBit i = _
    simp
  | cons b r ih =>
    intro n i h
    have h2 := List.nodup_cons.mp h
    show (flN (n ^^^ 2 ^ b) r).testBit i = _
    rw [ih _ i h2.2, Nat.testBit_xor, Nat.testBit_two_pow, Bool.xor_assoc]
    congr 1
    by_cases e : b = i
    · subst e
      simp [h2.1]
    · have e' : ¬ i = b := fun z => e z.symm
      simp [e, e']
theorem bits_of_fl {n : Nat} {ns : List Nat} (h : ns.Nodup) (i : Nat) : (n ^^^ flN n ns).testBit i = decide (i ∈ ns) := by
  rw [Nat.testBit_xor, flN_bit ns n i h, ← Bool.xor_assoc, Bool.xor_self, Bool.false_xor]
theorem fl_lt {n k : Nat} {ns : List Nat} (hn : n < 2 ^ k) (h : ∀ b ∈ ns, b < k) : flN n ns < 2 ^ k := by
  induction ns generalizing n with
  | nil => exact hn
  | cons b r ih =>
    show flN (n ^^^ 2 ^ b) r < 2 ^ k
    exact ih (Nat.xor_lt_two_pow hn (Nat.pow_lt_pow_right (by decide) (h b List.mem_cons_self))) fun x hx => h x (List.mem_cons_of_mem _ hx)
/-- the bits of a number, ascending -/
def DB (n c : Nat) : List Nat := (M04.D n c).reverse
theorem DB_mem {n c : Nat} (h : n < 2 ^ c) (i : Nat) : i ∈ DB n c ↔ n.testBit i = true := by
  unfold DB
  rw [M04.D_rev, List.mem_filter, List.mem_range, M07.one_bit]
  refine ⟨fun z => z.2, fun z => ⟨?_, z⟩⟩
  by_cases e : i < c
  · exact e
  · exact absurd z (by rw [Nat.testBit_lt_two_pow (Nat.lt_of_lt_of_le h (Nat.pow_le_pow_right (by decide) (Nat.le_of_not_lt e)))]; decide)
theorem DB_up (n c : Nat) : (DB n c).Pairwise (· < ·) := by
  unfold DB
  rw [M04.D_rev]
  exact List.pairwise_lt_range.filter _
theorem DB_nodup (n c : Nat) : (DB n c).Nodup := (DB_up n c).imp fun h => Nat.ne_of_lt h
/-- the bits of the difference, a drawn lot in order -/
theorem DB_perm {m c : Nat} {ns : List Nat} (hm : m < 2 ^ c) (h : ns.Nodup) (hb : ∀ i, m.testBit i = decide (i ∈ ns)) : (DB m c).Perm ns := by
  rw [List.perm_ext_iff_of_nodup (DB_nodup m c) h]
  intro i
  rw [DB_mem hm, hb, decide_eq_true_eq]
theorem DB_ints_up (m c : Nat) : ((DB m c).map fun (x : Nat) => (x : Int)).Pairwise (· ≤ ·) := by
  rw [List.pairwise_map]
  exact (DB_up m c).imp fun h => by omega
end M03
/-! Words of stores: numbers laid beside one another, rows, what lies in the cells. -/
namespace MS
def num (w i s : Nat) : Nat := w / 2 ^ (i * s) % 2 ^ s
def nums (w n s : Nat) : List Nat := (List.range n).map fun i => num w i s
def cat (s : Nat) : List Nat → Nat
  | [] => 0
  | v :: r => v + 2 ^ s * cat s r
theorem two_pos (k : Nat) : 0 < 2 ^ k := Nat.two_pow_pos k
theorem nums_len (w n s : Nat) : (nums w n s).length = n := by unfold nums; rw [List.length_map, List.length_range]
theorem num_lt (w i s : Nat) : num w i s < 2 ^ s := Nat.mod_lt _ (two_pos s)
theorem nums_lt {w n s v : Nat} (h : v ∈ nums w n s) : v < 2 ^ s := by
  obtain ⟨i, _, rfl⟩ := List.mem_map.mp h
  exact num_lt w i s
theorem nums_at {w n s i : Nat} (h : i < n) : (nums w n s)[i]? = some (num w i s) := by
  unfold nums
  rw [List.getElem?_map, List.getElem?_range h]
  rfl
theorem num_zero (w s : Nat) : num w 0 s = w % 2 ^ s := by unfold num; rw [Nat.zero_mul, Nat.pow_zero, Nat.div_one]
theorem num_succ (w i s : Nat) : num w (i + 1) s = num (w / 2 ^ s) i s := by
  unfold num
  rw [Nat.div_div_eq_div_mul, ← Nat.pow_add, Nat.succ_mul, Nat.add_comm]
theorem nums_succ (w n s : Nat) : nums w (n + 1) s = w % 2 ^ s :: nums (w / 2 ^ s) n s := by
  unfold nums
  rw [List.range_succ_eq_map, List.map_cons, num_zero, List.map_map]
  exact congrArg _ (List.map_congr_left fun i _ => num_succ w i s)
theorem cat_lt (s : Nat) : ∀ vs : List Nat, (∀ v ∈ vs, v < 2 ^ s) → cat s vs < 2 ^ (vs.length * s)
  | [], _ => by simp [cat]
  | v :: r, h => by
    have ih := cat_lt s r fun x hx => h x (List.mem_cons_of_mem _ hx)
    have hv := h v List.mem_cons_self
    show v + 2 ^ s * cat s r < _
    rw [List.length_cons, Nat.succ_mul, Nat.pow_add, Nat.mul_comm (2 ^ _) (2 ^ s)]
    have : 2 ^ s * (cat s r + 1) ≤ 2 ^ s * 2 ^ (r.length * s) := Nat.mul_le_mul_left _ ih
    rw [Nat.mul_add, Nat.mul_one] at this
    omega
theorem nums_cat (s : Nat) : ∀ (vs : List Nat) (x : Nat), (∀ v ∈ vs, v < 2 ^ s) → nums (cat s vs + 2 ^ (vs.length * s) * x) vs.length s = vs
  | [], _, _ => by simp [nums]
  | v :: r, x, h => by
    have hv := h v List.mem_cons_self
    have ih := nums_cat s r x fun y hy => h y (List.mem_cons_of_mem _ hy)
    rw [List.length_cons, nums_succ]
    have e : cat s (v :: r) + 2 ^ ((r.length + 1) * s) * x = v + 2 ^ s * (cat s r + 2 ^ (r.length * s) * x) := by
      show v + 2 ^ s * cat s r + _ = _
      rw [Nat.succ_mul, Nat.pow_add, Nat.mul_comm (2 ^ (r.length * s)) (2 ^ s), Nat.mul_assoc, Nat.mul_add, Nat.add_assoc]
    rw [e, Nat.add_mul_mod_self_left, Nat.mod_eq_of_lt hv, Nat.add_mul_div_left _ _ (two_pos s), Nat.div_eq_of_lt hv, Nat.zero_add, ih]
theorem cat_nums (s : Nat) : ∀ (n w : Nat), cat s (nums w n s) = w % 2 ^ (n * s)
  | 0, w => by rw [Nat.zero_mul, Nat.pow_zero, Nat.mod_one]; rfl
  | n + 1, w => by
    rw [nums_succ]
    show w % 2 ^ s + 2 ^ s * cat s (nums (w / 2 ^ s) n s) = _
    rw [cat_nums s n, Nat.succ_mul, Nat.add_comm (n * s), Nat.pow_add, Nat.mod_mul]
/-- the sum of shifted numbers -/
theorem cat_sum (s : Nat) (vs : List Nat) : (vs.mapIdx fun i v => v * 2 ^ (i * s)).sum = cat s vs := by
  have key : ∀ (vs : List Nat) (k : Nat), (vs.mapIdx fun i v => v * 2 ^ ((i + k) * s)).sum = 2 ^ (k * s) * cat s vs := by
    intro vs
    induction vs with
    | nil => intro k; simp [cat]
    | cons v r ih =>
      intro k
      rw [List.mapIdx_cons, List.sum_cons]
      have := ih (k + 1)
      rw [show (fun i v => v * 2 ^ ((i + 1 + k) * s)) = fun i v => v * 2 ^ ((i + (k + 1)) * s) from funext fun i => by rw [Nat.add_right_comm, Nat.add_assoc], this]
      show v * 2 ^ ((0 + k) * s) + _ = 2 ^ (k * s) * (v + 2 ^ s * cat s r)
      rw [Nat.zero_add, Nat.succ_mul, Nat.pow_add, Nat.mul_add, Nat.mul_comm v, Nat.mul_assoc]
  have := key vs 0
  simpa using this
/-- a word is its low part and the rest -/
theorem split (w k : Nat) : w / 2 ^ k * 2 ^ k + w % 2 ^ k = w := by rw [Nat.mul_comm]; exact Nat.div_add_mod w (2 ^ k)
theorem or_low {a b k : Nat} (h : b < 2 ^ k) : a * 2 ^ k ||| b = a * 2 ^ k + b := by
  rw [Nat.mul_comm]
  exact (Nat.two_pow_add_eq_or_of_lt h a).symm
theorem xor_low {a b k : Nat} (h : b < 2 ^ k) : a * 2 ^ k ^^^ b = a * 2 ^ k + b := by
  rw [← or_low h]
  refine Nat.eq_of_testBit_eq fun i => ?_
  rw [Nat.testBit_xor, Nat.testBit_or, Nat.testBit_mul_two_pow]
  by_cases hi : k ≤ i
  · rw [Nat.testBit_lt_two_pow (Nat.lt_of_lt_of_le h (Nat.pow_le_pow_right (by decide) hi))]
    simp
  · rw [decide_eq_false hi]
    simp
structure Sh (c s m pb : Nat) : Prop where
  c1 : 1 ≤ c
  c2 : c ≤ 256
  s1 : 1 ≤ s
  s2 : s ≤ 48
  m1 : 1 ≤ m
  m2 : m ≤ 8
  mc : m ≤ c
  pc : c ≤ 2 ^ pb
  p8 : pb ≤ 8
abbrev top (c s : Nat) : Nat := c * s
abbrev bitsS (c s m pb : Nat) : Nat := c * s + 1 + m * (pb + s)
def op (c s w : Nat) : Bool := decide (w / 2 ^ (c * s) % 2 = 1)
def row (c s pb w i : Nat) : Nat × Nat := (num (w / 2 ^ (c * s + 1)) i (pb + s) % 2 ^ pb, num (w / 2 ^ (c * s + 1)) i (pb + s) / 2 ^ pb)
def rowL (c s m pb w : Nat) : List (Nat × Nat) := (List.range m).map (row c s pb w)
def put (vs : List Nat) (rs : List (Nat × Nat)) : List Nat := rs.foldl (fun vs r => vs.set r.1 r.2) vs
def vals (c s m pb w : Nat) : List Nat := if op c s w then put (nums w c s) (rowL c s m pb w) else nums w c s
theorem put_len : ∀ (rs : List (Nat × Nat)) (vs : List Nat), (put vs rs).length = vs.length
  | [], _ => rfl
  | r :: rs, vs => by
    show (put (vs.set r.1 r.2) rs).length = _
    rw [put_len rs, List.length_set]
theorem vals_len (c s m pb w : Nat) : (vals c s m pb w).length = c := by
  unfold vals
  split
  · rw [put_len, nums_len]
  · exact nums_len _ _ _
theorem put_mem {b : Nat} : ∀ (rs : List (Nat × Nat)) (vs : List Nat), (∀ v ∈ vs, v < b) → (∀ r ∈ rs, r.2 < b) → ∀ v ∈ put vs rs, v < b
  | [], _, h, _ => h
  | r :: rs, vs, h, h2 => put_mem rs _ (fun v hv => by
    rcases List.mem_or_eq_of_mem_set hv with z | z
    · exact h v z
    · rw [z]; exact h2 r List.mem_cons_self) fun x hx => h2 x (List.mem_cons_of_mem _ hx)
theorem row_lt (c s pb w i : Nat) : (row c s pb w i).1 < 2 ^ pb ∧ (row c s pb w i).2 < 2 ^ s := by
  refine ⟨Nat.mod_lt _ (two_pos pb), Nat.div_lt_of_lt_mul ?_⟩
  rw [← Nat.pow_add]
  exact num_lt (w / 2 ^ (c * s + 1)) i (pb + s)
theorem rowL_lt {c s m pb w : Nat} {r : Nat × Nat} (h : r ∈ rowL c s m pb w) : r.1 < 2 ^ pb ∧ r.2 < 2 ^ s := by
  obtain ⟨i, _, rfl⟩ := List.mem_map.mp h
  exact row_lt c s pb w i
theorem vals_lt {c s m pb w : Nat} : ∀ v ∈ vals c s m pb w, v < 2 ^ s := by
  unfold vals
  split
  · exact put_mem _ _ (fun v hv => nums_lt hv) fun r hr => (rowL_lt hr).2
  · exact fun v hv => nums_lt hv
theorem cat_vals (c s m pb w : Nat) : cat s (vals c s m pb w) < 2 ^ (c * s) := by
  have := cat_lt s (vals c s m pb w) vals_lt
  rwa [vals_len] at this
/-- the word mended -/
def mended (c s m pb w : Nat) : Nat := w / 2 ^ (c * s + 1) * 2 ^ (c * s + 1) + cat s (vals c s m pb w)
theorem cat_vals1 (c s m pb w : Nat) : cat s (vals c s m pb w) < 2 ^ (c * s + 1) := Nat.lt_of_lt_of_le (cat_vals c s m pb w) (Nat.pow_le_pow_right (by decide) (Nat.le_succ _))
theorem op_of {c s x lo : Nat} (h : lo < 2 ^ (c * s)) : op c s (x * 2 ^ (c * s + 1) + lo) = false := by
  unfold op
  refine decide_eq_false ?_
  rw [Nat.pow_succ, Nat.mul_comm (2 ^ (c * s)) 2, ← Nat.mul_assoc, Nat.mul_comm, Nat.mul_add_div (two_pos _), Nat.div_eq_of_lt h]
  omega
theorem nums_of {c s x lo : Nat} (vs : List Nat) (h : ∀ v ∈ vs, v < 2 ^ s) (hl : vs.length = c) : nums (x * 2 ^ (c * s + 1) + cat s vs) c s = vs := by
  have := nums_cat s vs (2 * x) h
  rw [hl] at this
  rw [show x * 2 ^ (c * s + 1) + cat s vs = cat s vs + 2 ^ (c * s) * (2 * x) by rw [Nat.pow_succ, Nat.add_comm, Nat.mul_comm x, Nat.mul_assoc]]
  exact this
theorem op_mended (c s m pb w : Nat) : op c s (mended c s m pb w) = false := op_of (cat_vals c s m pb w)
theorem vals_mended (c s m pb w : Nat) : vals c s m pb (mended c s m pb w) = vals c s m pb w := by
  rw [vals, if_neg (by rw [op_mended]; decide)]
  exact nums_of (lo := 0) _ vals_lt (vals_len c s m pb w)
theorem mended_shut {c s m pb w : Nat} (h : op c s w = false) : mended c s m pb w = w := by
  unfold mended vals
  rw [if_neg (by rw [h]; decide), cat_nums]
  have e := split w (c * s + 1)
  have hb : w / 2 ^ (c * s) % 2 = 0 := by
    have := of_decide_eq_false h
    omega
  have e2 : w % 2 ^ (c * s + 1) = w % 2 ^ (c * s) := by
    rw [Nat.pow_succ, Nat.mod_mul, hb, Nat.mul_zero, Nat.add_zero]
  rw [e2] at e
  exact e
theorem mended_lt {c s m pb w : Nat} (h : w < 2 ^ bitsS c s m pb) : mended c s m pb w < 2 ^ bitsS c s m pb := by
  unfold mended
  have h1 := cat_vals1 c s m pb w
  have h2 : w / 2 ^ (c * s + 1) < 2 ^ (m * (pb + s)) := by
    refine Nat.div_lt_of_lt_mul ?_
    rwa [← Nat.pow_add]
  have e : 2 ^ bitsS c s m pb = 2 ^ (m * (pb + s)) * 2 ^ (c * s + 1) := by rw [← Nat.pow_add]; exact congrArg _ (Nat.add_comm _ _)
  rw [e]
  generalize 2 ^ (c * s + 1) = T at *
  have : (w / T + 1) * T ≤ 2 ^ (m * (pb + s)) * T := Nat.mul_le_mul_right _ h2
  rw [Nat.succ_mul] at this
  omega
end MS
/-! enumerate of a text, enumerate of a list from its end. -/
namespace OB
open PySem PySem.Spec PyProof.Rows L2
/-- enumerate(text): each sign in a new pair -/
def Ites (x : Str) : It :=
  ⟨fun i _ => i < x.cps.size, fun i H v H' => ∃ T c, v = .ref T ∧ H T = none ∧ x.cps[i]? = some c ∧ H' = upd H T (.tup [.int (i : Nat), .str ⟨#[c]⟩]), fun i _ => x.cps.size ≤ i⟩
theorem turn_enumS {P : Program} {w : World} {K : PySem.W.Frag} {elts : List Expr} {kk : Nat} {tpos : Pos} (x : Str) (t : Tok) (e it : Addr) :
    Turn P w K (.Tuple elts kk tpos) (Ites x) [e, it] e (fun i h => (∃ old, IsEnum h e it ((i : Nat) : Int) old) ∧ h.IsStrIter it (strIterType x) x t i ∧ e ≠ it ∧ i ≤ x.cps.size) where
  mem := by simp
  obj := fun i h st b hb => by
    obtain ⟨⟨old, he⟩, ⟨o, ho, hc, hd⟩, _⟩ := st
    have e' : b = e ∨ b = it := by simpa using hb
    rcases e' with z | z
    · rw [z]; exact ⟨_, he, fun v q => nomatch q⟩
    · rw [z]; exact ⟨o, ho, fun v q => by rw [hd] at q; cases q⟩
  keep := fun i h h' st k => let ⟨⟨old, he⟩, ⟨o, ho, r⟩, hne⟩ := st; ⟨⟨old, k e (by simp) _ he⟩, ⟨o, k it (by simp) o ho, r⟩, hne⟩
  item := by
    intro X hP hw hK hc i pins s σ H E I hf st hg
    subst hP hw hK
    obtain ⟨⟨old, he⟩, hit, hne, hle⟩ := st
    have hg : i < x.cps.size := hg
    have hel : e < s.heap.objs.size := Heap.lt_size he
    have hil : it < s.heap.objs.size := by obtain ⟨_, q, _⟩ := hit; exact Heap.lt_size q
    have D : Draws X.prog X.w X.A.in1 it [it] x.cps.size (fun i v => ∃ c u, x.cps[i]? = some c ∧ v = .str ⟨#[c]⟩ u) (fun i h => h.IsStrIter it (strIterType x) x t i) := by
      unfold strIterType
      split
      · exact Draws.strAscii (A := X.A.in1) (I.ok.hd hc) it x t
      · exact Draws.strWide (A := X.A.in1) (I.ok.hd hc) it x t
    refine wpAny_pyNext_enum_itemD D he hit hg hne (by simpa using hne) fun v h' tk hv ho hit' hT hsz hk => ?_
    obtain ⟨c, u, hcx, rfl⟩ := hv
    refine ⟨_, rfl, wpAny_letOwnedTupleGo_enum (s := { s with heap := h', toks := tk + 1 }) ho fun h'' he' sb => ?_⟩
    have hT2 : h''.get? s.heap.objs.size = some { cls := .type "tuple", data := .seq #[.int i tk, .str ⟨#[c]⟩ u] } := (sb.2 _ (Nat.ne_of_gt hel)).trans hT
    have new : ObjOk X.prog X.w (upd H s.heap.objs.size (.tup [.int (i : Nat), .str ⟨#[c]⟩])) h'' s.heap.objs.size (.tup [.int (i : Nat), .str ⟨#[c]⟩]) :=
      ⟨by show 2 ≤ sizeLine; decide, [.int i tk, .str ⟨#[c]⟩ u], .cons ⟨_, rfl⟩ (.cons ⟨_, rfl⟩ .nil), ⟨_, hT2, rfl, _, rfl⟩⟩
    have I1 : Inv X pins σ (upd H s.heap.objs.size (.tup [.int (i : Nat), .str ⟨#[c]⟩])) { s with heap := h'', toks := tk + 1 } :=
      I.turnedNew (ch := [e, it]) (fun b ob hb q => (sb.2 b (fun z => hb (by simp [z]))).trans (hk b ob (fun z => hb (by simp [z])) (fun z => hb (by simp [z])) q)) hf (Nat.le_refl _) new
    refine ⟨.ref s.heap.objs.size, _, I1, rfl, ⟨_, c, rfl, I.hok.fresh (Nat.le_refl _), hcx, rfl⟩, ⟨⟨.str ⟨#[c]⟩ u, ?_⟩, ?_, hne, hg⟩, fun b hb => ?_⟩
    · have e1 : ((i + 1 : Nat) : Int) = (i : Int) + 1 := by omega
      rw [e1]; exact he'
    · obtain ⟨o, q, r⟩ := hit'
      exact ⟨o, (sb.2 it (Ne.symm hne)).trans q, r⟩
    · have hb' : b < s.heap.objs.size := by
        have e' : b = e ∨ b = it := by simpa using hb
        rcases e' with z | z
        · rw [z]; exact hel
        · rw [z]; exact hil
      rw [upd_ne (Nat.ne_of_lt hb')]
      exact (hf b hb).1
  done := by
    intro X hP hw hK hc i pins s σ H E I hf st hg
    subst hP hw hK
    obtain ⟨⟨old, he⟩, hit, hne, hle⟩ := st
    have hg : x.cps.size ≤ i := hg
    have ei : i = x.cps.size := Nat.le_antisymm hle hg
    subst ei
    obtain ⟨f0, f1, f2, f3, f4, f5⟩ := hf it (by simp)
    have D : Draws X.prog X.w X.A.in1 it [it] x.cps.size (fun i v => ∃ c u, x.cps[i]? = some c ∧ v = .str ⟨#[c]⟩ u) (fun i h => h.IsStrIter it (strIterType x) x t i) := by
      unfold strIterType
      split
      · exact Draws.strAscii (A := X.A.in1) (I.ok.hd hc) it x t
      · exact Draws.strWide (A := X.A.in1) (I.ok.hd hc) it x t
    exact wpAny_pyNext_enum_endD D he hit fun h' eb => ⟨rfl, I.turned (t' := s.toks) (fun b o hb q => eb b o hb q) f0 f1 f3 f4 f5⟩
  self := fun A i s Q E st h => let ⟨⟨_, he⟩, _⟩ := st; wpAny_pyIter_enum he h
def iEnumS (ta : TA) : TI := fun σ H R => ta σ H fun vs H1 => ∃ x, vs = [.str x] ∧ R (Ites x) H1
theorem pi_enumS {X : Cx} {e : Expr} {ta : TA} {p pos tpos : Pos} {elts : List Expr} {kk : Nat} (hg : Gl X "enumerate") (hm : X.mg "enumerate" = none) (ha : PA X [e] ta) (hs : starEach [e] X.env = [(false, eval e X.env)] := by rfl) :
    PI X (.Tuple elts kk tpos) (.Call (.Name "enumerate" p) [e] [] pos) (iEnumS ta) := by
  refine ⟨fun pins s σ H R I h => ?_⟩
  refine Call_ (ld_blt I hg hm boot_enumerate (PyProof.Rows.callWith_type1 (thn (ha.run pos pins s σ H _ I h) fun us s1 ⟨vs, H1, I1, r1, q1⟩ => ?_) hs rfl))
  obtain ⟨x, ex, q⟩ := q1
  subst ex
  cases r1 with
  | cons r rr =>
    cases rr
    obtain ⟨t, rfl⟩ := r
    refine call_enumerate_str fun h' he hit hsz hk => wpAny_pyIter_enum he ?_
    have I2 : Inv X pins σ H1 { s1 with heap := h' } := I1.kept (t' := s1.toks) hk
    refine ⟨s1.heap.objs.size + 1, [s1.heap.objs.size + 1, s1.heap.objs.size], _, _, H1, rfl, I2, turn_enumS x t (s1.heap.objs.size + 1) s1.heap.objs.size, ⟨⟨.none, he⟩, hit, Nat.succ_ne_self _, Nat.zero_le _⟩, fun b hb => ?_, q⟩
    have e' : b = s1.heap.objs.size + 1 ∨ b = s1.heap.objs.size := by simpa using hb
    have hle : s1.heap.objs.size ≤ b := by
      rcases e' with z | z
      · rw [z]; exact Nat.le_add_right _ _
      · rw [z]; exact Nat.le_refl _
    exact I1.fpOk hle (I1.hok.fresh hle)
theorem walk_enumS {x : Str} : Walk (Ites x) x.cps.size (fun _ => True) (YPair (fun i => some (.int (i : Nat))) (fun i => x.cps[i]?.map fun c => .str ⟨#[c]⟩)) := by
  refine ⟨fun i _ hi _ => hi, fun _ _ => Nat.le_refl _, fun i H v H' _ _ y => ?_⟩
  obtain ⟨T, c, h1, h2, h3, h4⟩ := y
  exact ⟨T, .int (i : Nat), .str ⟨#[c]⟩, h1, h2, h4, rfl, by show x.cps[i]?.map _ = _; rw [h3]; rfl⟩
end OB
namespace OB
open PySem PySem.Spec PyProof.Rows L2
open AutoSeq1 (wpAny_loadPart')
section
variable {prog : Program} {w : World} {A : Around} {E : Value → Shared → Prop} {s : Shared}
theorem nextOf_rev_item {it l : Addr} {i : Nat} {items : Array Value} {x : Value} {Q : Value → Shared → Prop} (hit : s.heap.IsRevIter it l (i : Int)) (hl : s.heap.IsList l items) (hx : items[i]? = some x)
    (hQ : ∀ h', h'.IsRevIter it l ((i : Int) - 1) → Heap.SameBut it s.heap h' → Q x { s with heap := h' }) : wpAny (model prog w) A (Builtin.SmallTypes.nextOf (.ref it)) Q E s := by
  obtain ⟨o, ho, hc, hd⟩ := id hit
  obtain ⟨ol, hol, _, nl, hdl⟩ := hl
  unfold Builtin.SmallTypes.nextOf
  refine wpAny_bind (wpAny_callSpecial?_slot (name := Str.ofString "__next__") hit.typeIs F.slot_lri_next
    (wpAny_call_entry F.slot_lri_next hit.typeIs F.entry_lri_next ?_ (F.args_lri_next_1 _)))
  unfold Builtin.«list_reverseiterator.__next__»
  refine wpAny_bind (wpAny_of_eq (a := (Value.ref it, [])) rfl ?_)
  try dsimp only
  refine wpAny_bind (wpAny_field ho hd (x := rawInt (i : Int)) rfl ?_)
  show wpAny _ _ (if (i : Int) < 0 then _ else _) _ _ s
  rw [if_neg (by omega)]
  show wpAny _ _ (field (.ref it) 0 >>= _) _ _ s
  refine wpAny_bind (wpAny_field ho hd (x := .ref l) rfl ?_)
  show wpAny _ _ (seqItems? (.ref l) >>= _) _ _ s
  refine wpAny_bind (wpAny_seqItems hol hdl ?_)
  simp only [Int.toNat_natCast, hx]
  refine wpAny_bind (wpAny_setField ho hd (by simp) ?_)
  first
  | refine wpAny_pure ⟨x, rfl, wpAny_pure (hQ _ ?_ (Heap.SameBut.update ..))⟩
  | refine wpAny_bind (wpAny_pure (wpAny_pure ⟨x, rfl, wpAny_pure (hQ _ ?_ (Heap.SameBut.update ..))⟩))
  exact ⟨_, Heap.get?_update_self _ ho (Obj.isFreed_of_fields (Obj.data_mapFields hd _)), (Obj.cls_mapFields ..).trans hc, by
    rw [Obj.data_mapFields hd]; simp⟩
theorem nextOf_rev_end {it l : Addr} {Q : Value → Shared → Prop} (hh : A.handled = none) (hit : s.heap.IsRevIter it l (-1))
    (hE : ∀ h' e, Heap.ExtBut it s.heap h' → (∃ o, h'.get? e = some o ∧ o.cls = .type "StopIteration") → E (.ref e) { s with heap := h' }) :
    wpAny (model prog w) A (Builtin.SmallTypes.nextOf (.ref it)) Q E s := by
  obtain ⟨o, ho, hc, hd⟩ := id hit
  unfold Builtin.SmallTypes.nextOf
  refine wpAny_bind (wpAny_callSpecial?_slot (name := Str.ofString "__next__") hit.typeIs F.slot_lri_next
    (wpAny_call_entry F.slot_lri_next hit.typeIs F.entry_lri_next ?_ (F.args_lri_next_1 _)))
  unfold Builtin.«list_reverseiterator.__next__»
  refine wpAny_bind (wpAny_of_eq (a := (Value.ref it, [])) rfl ?_)
  try dsimp only
  refine wpAny_bind (wpAny_field ho hd (x := rawInt (-1)) rfl ?_)
  show wpAny _ _ (if (-1 : Int) < 0 then _ else _) _ _ s
  rw [if_pos (by decide)]
  refine wpAny_bind (wpAny_rule ?_)
  first
  | show wpAny _ _ (newExc (.type "StopIteration") [] >>= _) _ _ _
  | (refine wpAny_bind ?_; show wpAny _ _ (newExc (.type "StopIteration") [] >>= _) _ _ _)
  refine wpAny_bind ?_
  simp only [newExc, newTuple]
  refine wpAny_bind (wpAny_newObj_type ?_ (by size_fits))
  refine wpAny_bind (m := firstArgMember _ _) (wpAny_of_eq (a := Value.none) (by first | rfl | (simp only [firstArgMember]; rfl)) ?_)
  refine wpAny_newObj_type ?_ (by size_fits)
  simp only [raiseNew]
  refine wpAny_bind (wpAny_handled ?_)
  first | rw [show A.in1.handled = none from hh] | rw [hh]
  refine wpAny_bind (wpAny_pure (wpAny_throw ?_))
  exact hE _ _ (((Heap.ExtBut.refl _ _).push _).push _) ⟨_, Heap.get?_push_size _ rfl, rfl⟩
end
theorem drawsRev {prog : Program} {w : World} {A : Around} (hh : A.handled = none) (it l : Addr) (hne : l ≠ it) (items : Array Value) :
    Draws prog w A it [it, l] items.size (fun i v => items[items.size - 1 - i]? = some v) (fun i h => i ≤ items.size ∧ h.IsRevIter it l ((items.size : Int) - 1 - (i : Int)) ∧ h.IsList l items) where
  live := fun _ _ st => let ⟨_, ⟨o, ho, _⟩, _⟩ := st; ⟨o, ho⟩
  frame := fun _ _ _ x hk => ⟨x.1, x.2.1.at fun o e => hk it (by simp) o e, x.2.2.at fun o e => hk l (by simp) o e⟩
  item := fun i s Q E hi x hQ => by
    have e : (items.size : Int) - 1 - (i : Int) = ((items.size - 1 - i : Nat) : Int) := by omega
    have hit := x.2.1
    rw [e] at hit
    have hx : items[items.size - 1 - i]? = some (items[items.size - 1 - i]'(by omega)) := Array.getElem?_eq_getElem (by omega)
    refine nextOf_rev_item hit x.2.2 hx fun h' hit' hs' => ?_
    have e2 : ((items.size - 1 - i : Nat) : Int) - 1 = (items.size : Int) - 1 - ((i + 1 : Nat) : Int) := by omega
    rw [e2] at hit'
    exact hQ _ h' s.toks hx ⟨hi, hit', x.2.2.at fun o eo => (hs'.2 l hne).trans eo⟩ hs'
  done := fun s Q E x hE => by
    have e : (items.size : Int) - 1 - (items.size : Int) = -1 := by omega
    have hit := x.2.1
    rw [e] at hit
    exact nextOf_rev_end hh hit hE
theorem meets_enumerate_newR (l it : Addr) (i : Int) :
    Meets (Builtin.«enumerate.__new__» ⟨[.type "enumerate", .ref it], []⟩) (fun _ R s => s.heap.get? it = some (revObj l i) ∧
      R (.ok (.ret (.ref s.heap.objs.size)))
        { s with heap := s.heap.push { cls := .type "enumerate", data := .fields #[.none, .bool false, .ref it, rawInt 0, .none, .none] } }) :=
  .of_wp fun prog w A R s h => by
    obtain ⟨hp, g, d, tk, os⟩ := s; obtain ⟨hl, h⟩ := h
    have hsub := sub_enumerate
    have hL : Heap.IsRevIter (Shared.heap ⟨hp, g, d, tk, os⟩) it l i := ⟨_, hl, rfl, rfl⟩
    wp_walk using wpAny_loadPart' hl
    refine wpAny_stack_any fun st => wpAny_pure ?_
    split
    · rename_i c _ _ _ _ _
      cases (c == Value.type "enumerate")
      · wp_walk using wpAny_loadPart' hl, wpAny_pyIter_revIter hL
        exact ⟨_, rfl, h⟩
      · wp_walk using wpAny_loadPart' hl, wpAny_pyIter_revIter hL
        exact ⟨_, rfl, h⟩
    · wp_walk using wpAny_loadPart' hl, wpAny_pyIter_revIter hL
      exact ⟨_, rfl, h⟩
end OB
namespace OB
open PySem PySem.Spec PyProof.Rows L2
/-- enumerate(reversed(list)): the list at a keeps its n items -/
def Iter (K : PySem.W.Frag) (a : Addr) (n : Nat) : It :=
  ⟨fun i H => ∃ (xs : List V) (x : V), SqL K H a xs ∧ xs.length = n ∧ i < n ∧ xs[n - 1 - i]? = some x, fun i H v H' => ∃ T x, v = .ref T ∧ H T = none ∧ H' = upd H T (.tup [.int (i : Nat), x]) ∧ ∀ xs, SqL K H a xs → xs[n - 1 - i]? = some x,
    fun i H => ∃ xs : List V, SqL K H a xs ∧ xs.length = n ∧ n ≤ i⟩
theorem turn_enumR {P : Program} {w : World} {K : PySem.W.Frag} {elts : List Expr} {kk : Nat} {tpos : Pos} (a e it : Addr) (n : Nat) (hae : a ≠ e) (hai : a ≠ it) :
    Turn P w K (.Tuple elts kk tpos) (Iter K a n) [e, it] e (fun i h => (∃ old, IsEnum h e it ((i : Nat) : Int) old) ∧ h.IsRevIter it a ((n : Int) - 1 - (i : Nat)) ∧ e ≠ it ∧ i ≤ n) where
  mem := by simp
  obj := fun i h st b hb => by
    obtain ⟨⟨old, he⟩, ⟨o, ho, hc, hd⟩, _⟩ := st
    have e' : b = e ∨ b = it := by simpa using hb
    rcases e' with z | z
    · rw [z]; exact ⟨_, he, fun v q => nomatch q⟩
    · rw [z]; exact ⟨o, ho, fun v q => by rw [hd] at q; cases q⟩
  keep := fun i h h' st k => let ⟨⟨old, he⟩, hi, hne⟩ := st; ⟨⟨old, k e (by simp) _ he⟩, hi.at fun o q => k it (by simp) o q, hne⟩
  item := by
    intro X hP hw hK hc i pins s σ H E I hf st hg
    subst hP hw hK
    obtain ⟨⟨old, he⟩, hit, hne, hle⟩ := st
    obtain ⟨xs, x, hq, hn, hin, hx⟩ := hg
    subst hn
    obtain ⟨its, rv, p, hz⟩ := I.list hq
    have hlen := rv.length
    obtain ⟨u, hu, ru⟩ := rv.get hx
    have hel : e < s.heap.objs.size := Heap.lt_size he
    have hil : it < s.heap.objs.size := by obtain ⟨_, q, _⟩ := hit; exact Heap.lt_size q
    have hsz : its.toArray.size = xs.length := by rw [List.size_toArray, hlen]
    have D := drawsRev (prog := X.prog) (w := X.w) (A := X.A.in1) (I.ok.hd hc) it a hai its.toArray
    refine wpAny_pyNext_enum_itemD D he ⟨by omega, by rw [hsz]; exact hit, p.isList⟩ (by omega) hne (by simp [hne, hae.symm]) fun v h' tk hv ho hit' hT hsz' hk => ?_
    have ev : v = u := by
      rw [hsz] at hv
      have h2 : its.toArray[xs.length - 1 - i]? = some u := by simpa using hu
      exact Option.some.inj (hv.symm.trans h2)
    subst ev
    refine ⟨_, rfl, wpAny_letOwnedTupleGo_enum (s := { s with heap := h', toks := tk + 1 }) ho fun h'' he' sb => ?_⟩
    have hT2 : h''.get? s.heap.objs.size = some { cls := .type "tuple", data := .seq #[.int i tk, v] } := (sb.2 _ (Nat.ne_of_gt hel)).trans hT
    have new : ObjOk X.prog X.w (upd H s.heap.objs.size (.tup [.int (i : Nat), x])) h'' s.heap.objs.size (.tup [.int (i : Nat), x]) :=
      ⟨by show 2 ≤ sizeLine; decide, [.int i tk, v], .cons ⟨_, rfl⟩ (.cons ru .nil), ⟨_, hT2, rfl, _, rfl⟩⟩
    have I1 : Inv X pins σ (upd H s.heap.objs.size (.tup [.int (i : Nat), x])) { s with heap := h'', toks := tk + 1 } :=
      I.turnedNew (ch := [e, it]) (fun b ob hb q => (sb.2 b (fun z => hb (by simp [z]))).trans (hk b ob (fun z => hb (by simp [z])) (fun z => hb (by simp [z])) q)) hf (Nat.le_refl _) new
    refine ⟨.ref s.heap.objs.size, _, I1, rfl, ⟨_, x, rfl, I.hok.fresh (Nat.le_refl _), rfl, fun ys hy => by rw [I.list_inj hy hq]; exact hx⟩, ⟨⟨v, ?_⟩, ?_, hne, hin⟩, fun b hb => ?_⟩
    · have e1 : ((i + 1 : Nat) : Int) = (i : Int) + 1 := by omega
      rw [e1]; exact he'
    · have h3 := hit'.2.1
      rw [hsz] at h3
      exact h3.at fun o q => (sb.2 it (Ne.symm hne)).trans q
    · have hb' : b < s.heap.objs.size := by
        have e' : b = e ∨ b = it := by simpa using hb
        rcases e' with z | z
        · rw [z]; exact hel
        · rw [z]; exact hil
      rw [upd_ne (Nat.ne_of_lt hb')]
      exact (hf b hb).1
  done := by
    intro X hP hw hK hc i pins s σ H E I hf st hg
    subst hP hw hK
    obtain ⟨⟨old, he⟩, hit, hne, hle⟩ := st
    obtain ⟨xs, hq, hn, hge⟩ := hg
    subst hn
    obtain ⟨its, rv, p, hz⟩ := I.list hq
    have hlen := rv.length
    have ei : i = xs.length := Nat.le_antisymm hle hge
    subst ei
    have hsz : its.toArray.size = xs.length := by rw [List.size_toArray, hlen]
    obtain ⟨f0, f1, f2, f3, f4, f5⟩ := hf it (by simp)
    have D := drawsRev (prog := X.prog) (w := X.w) (A := X.A.in1) (I.ok.hd hc) it a hai its.toArray
    exact wpAny_pyNext_enum_endD D he ⟨Nat.le_refl _, by rw [hsz]; exact hit, p.isList⟩ fun h' eb => ⟨rfl, I.turned (t' := s.toks) (fun b o hb q => eb b o hb q) f0 f1 f3 f4 f5⟩
  self := fun A i s Q E st h => let ⟨⟨_, he⟩, _⟩ := st; wpAny_pyIter_enum he h
section
variable {prog : Program} {w : World} {A : Around} {E : Value → Shared → Prop} {s : Shared}
theorem call_enumerate_rev {l it : Addr} {i : Int} {Q : Value → Shared → Prop} (hL : s.heap.get? it = some (revObj l i))
    (h : Q (.ref s.heap.objs.size) { s with heap := s.heap.push { cls := .type "enumerate", data := .fields #[.none, .bool false, .ref it, rawInt 0, .none, .none] } }) :
    wpAny (model prog w) A (call (.type "enumerate") [.ref it]) Q E s := by
  refine callType_new F.called_enumerate (by decide) (F.typeCall_enumerate_1 _) (F.newCall_enumerate_1 _) (fun obj => F.args_object_init_2 obj _) F.entry_enumerate_new
    (meets_enumerate_newR l it i) ⟨hL, ?_⟩
  exact ⟨⟨_, Heap.get?_push_size _ rfl, rfl⟩, h⟩
end
def iEnumR (K : PySem.W.Frag) (te : TE) : TI := fun σ H R => te σ H fun v H1 => ∃ (a : Addr) (xs : List V), v = .ref a ∧ SqL K H1 a xs ∧ R (Iter K a xs.length) H1
theorem pi_enumR {X : Cx} {e : Expr} {te : TE} {p pos p2 pos2 tpos : Pos} {elts : List Expr} {kk : Nat} (hg : Gl X "enumerate") (hm : X.mg "enumerate" = none) (hg2 : Gl X "reversed") (hm2 : X.mg "reversed" = none) (he : PE X e te)
    (hs : starEach [e] X.env = (false, eval e X.env) :: starEach [] X.env := by rfl)
    (hs2 : starEach [.Call (.Name "reversed" p2) [e] [] pos2] X.env = (false, eval (.Call (.Name "reversed" p2) [e] [] pos2) X.env) :: starEach [] X.env := by rfl) :
    PI X (.Tuple elts kk tpos) (.Call (.Name "enumerate" p) [.Call (.Name "reversed" p2) [e] [] pos2] [] pos) (iEnumR X.K te) := by
  refine ⟨fun pins s σ H R I h => ?_⟩
  refine Call_ (ld_blt I hg hm boot_enumerate (PyProof.Rows.callWith_type1 (args_cons ?_ hs2) hs2 rfl))
  refine Call_ (ld_blt I hg2 hm2 PyProof.Rows.boot_reversed (PyProof.Rows.callWith_type1 (args_cons (thn (he.run pins s σ H _ I h) fun u s1 ⟨v, H1, I1, r1, q1⟩ => args_nil ?_) hs) hs rfl))
  obtain ⟨a, xs, ev, hq, q⟩ := q1
  subst ev
  obtain rfl : u = Value.ref a := r1
  obtain ⟨its, rv, p', hz⟩ := I1.list hq
  have hl := rv.length
  have hal : a < s1.heap.objs.size := by obtain ⟨_, z, _⟩ := p'.isList; exact Heap.lt_size z
  have e1 : ((its.toArray.size : Nat) : Int) - 1 = (xs.length : Int) - 1 - ((0 : Nat) : Int) := by simp only [List.size_toArray]; omega
  refine call_reversed_list p'.isList (args_nil ?_)
  refine call_enumerate_rev (l := a) (i := ((its.toArray.size : Nat) : Int) - 1) (Heap.get?_push_size _ rfl) ?_
  have hz1 : (s1.heap.push (revObj a ((its.toArray.size : Nat) - 1))).objs.size = s1.heap.objs.size + 1 := Heap.size_push ..
  have he1 : IsEnum ((s1.heap.push (revObj a (((its.toArray.size : Nat) : Int) - 1))).push { cls := .type "enumerate", data := .fields #[.none, .bool false, .ref s1.heap.objs.size, rawInt 0, .none, .none] }) (s1.heap.objs.size + 1) s1.heap.objs.size 0 .none := by
    have := Heap.get?_push_size (s1.heap.push (revObj a (((its.toArray.size : Nat) : Int) - 1))) (o := { cls := .type "enumerate", data := .fields #[.none, .bool false, .ref s1.heap.objs.size, rawInt 0, .none, .none] }) rfl
    rw [hz1] at this; exact this
  show wpAny _ _ (pyIter (.ref (s1.heap.push (revObj a (((its.toArray.size : Nat) : Int) - 1))).objs.size)) _ _ _
  rw [hz1]
  refine wpAny_pyIter_enum he1 ?_
  have I2 := I1.kept (t' := s1.toks) (h' := (s1.heap.push (revObj a (((its.toArray.size : Nat) : Int) - 1))).push { cls := .type "enumerate", data := .fields #[.none, .bool false, .ref s1.heap.objs.size, rawInt 0, .none, .none] }) fun b ob z => Heap.get?_push_of_some _ (Heap.get?_push_of_some _ z)
  refine ⟨s1.heap.objs.size + 1, [s1.heap.objs.size + 1, s1.heap.objs.size], _, _, H1, rfl, I2, turn_enumR a (s1.heap.objs.size + 1) s1.heap.objs.size xs.length (Nat.ne_of_lt (Nat.lt_succ_of_lt hal)) (Nat.ne_of_lt hal), ⟨⟨.none, he1⟩, ?_, Nat.succ_ne_self _, Nat.zero_le _⟩, fun b hb => ?_, q⟩
  · rw [← e1]
    exact ⟨_, Heap.get?_push_of_some _ (Heap.get?_push_size _ rfl), rfl, rfl⟩
  · have e' : b = s1.heap.objs.size + 1 ∨ b = s1.heap.objs.size := by simpa using hb
    have hle : s1.heap.objs.size ≤ b := by
      rcases e' with z | z
      · rw [z]; exact Nat.le_add_right _ _
      · rw [z]; exact Nat.le_refl _
    exact I1.fpOk hle (I1.hok.fresh hle)
theorem walk_enumR {K : PySem.W.Frag} {a : Addr} {xs : List V} : Walk (Iter K a xs.length) xs.length (fun H => SqL K H a xs) (YPair (fun i => some (.int (i : Nat))) (fun i => xs[xs.length - 1 - i]?)) := by
  refine ⟨fun i _ hi q => ⟨xs, xs[xs.length - 1 - i]'(by omega), q, rfl, hi, by simp [show xs.length - 1 - i < xs.length by omega]⟩, fun _ q => ⟨xs, q, rfl, Nat.le_refl _⟩, fun i H v H' _ q y => ?_⟩
  obtain ⟨T, x, h1, h2, h3, h4⟩ := y
  exact ⟨T, .int (i : Nat), x, h1, h2, h3, rfl, h4 xs q⟩
end OB
namespace K70
open PySem PySem.Spec PyProof.Rows L2 OB SkE LamX
theorem sgn_s : ∀ n : Nat, n < 64 → atI SG.cps.toList (n : Int) = some (SG.cps.getD n 0) := fun n h => (by decide +kernel : ∀ n < 64, atI SG.cps.toList (Int.ofNat n) = some (SG.cps.getD n 0)) n h
theorem SG_len : SG.length ≤ sizeLine := by
  rw [sizeLine_eq]
  exact Nat.le_trans (show SG.length ≤ 64 by decide +kernel) (by decide)
def ssL (ms : List (Option Nat)) (sh : List Nat) : List Str := (List.range ms.length).map (cell ms sh)
theorem ssL_all (ms : List (Option Nat)) : ssL ms (List.range ms.length) = ms.map sg := by
  refine List.ext_getElem? fun i => ?_
  unfold ssL
  rw [List.getElem?_map, List.getElem?_map]
  by_cases h : i < ms.length
  · rw [List.getElem?_range h, List.getElem?_eq_getElem h]
    show some (cell ms _ i) = some (sg ms[i])
    unfold cell
    rw [if_pos (List.mem_range.mpr h), List.getD_eq_getElem?_getD, List.getElem?_eq_getElem h]
    rfl
  · rw [List.getElem?_eq_none (by rw [List.length_range]; omega), List.getElem?_eq_none (by omega)]
    rfl
theorem ssL_at {ms : List (Option Nat)} {sh : List Nat} {w : Nat} (h : w < ms.length) : (ssL ms sh).getD w "" = cell ms sh w := by
  unfold ssL
  rw [List.getD_eq_getElem?_getD, List.getElem?_map, List.getElem?_range h]
  rfl
theorem row_same {b k i : Nat} {ms : List (Option Nat)} {sh : List Nat} (b8 : b ≤ 8) (kb : k ≤ b) (len : ms.length = 2 ^ b) (hi : i < 2 ^ (b - k)) :
    ((rowL k).map fun l => (ssL ms sh).getD (M07.gray i * 2 ^ k + l) "") = rowT ms sh k (M07.gray i) := by
  unfold rowT
  refine List.map_congr_left fun l hl => ?_
  have h1 := (row_facts k (by omega)).2.1 l hl
  have h2 := gray_in (show b - k ≤ 8 by omega) hi
  rw [ssL_at, Nat.add_comm]
  rw [len, show 2 ^ b = 2 ^ (b - k) * 2 ^ k by rw [← Nat.pow_add]; congr 1; omega]
  have : (M07.gray i + 1) * 2 ^ k ≤ 2 ^ (b - k) * 2 ^ k := Nat.mul_le_mul_right _ h2
  rw [Nat.succ_mul] at this
  omega
def hiM (b : Nat) : Int := ((2 ^ b - 1 : Nat) : Int)
def spTable (K : PySem.W.Frag) (C CL CB : Addr) : Sp := fun vs H Q E => ∃ x y : V, vs = [x, y] ∧ ((NotO K C H x ∧ RaisesP CL "layout" E H) ∨ ∃ (a : Addr) (b : Nat) (ms : List (Option Nat)), x = .ref a ∧ IsLay H C a b ms ∧ LayOk b ms ∧
  ((y = .non ∧ ∀ q H', H q = none → Same H H' → H' q = some (.tup ((tabT b ms (List.range (2 ^ b))).map V.str)) → Q (.ref q) H') ∨
   (y ≠ .non ∧ NoLot K H y (some 0) (some (hiM b)) ∧ ∀ H1, Same H H1 → RaisesP CB "words" E H1) ∨
   (∃ sh : List Nat, y ≠ .non ∧ IsLot K H y (some 0) (some (hiM b)) (sh.map Int.ofNat) ∧ ∀ q H', H q = none → Same H H' → H' q = some (.tup ((tabT b ms sh).map V.str)) → Q (.ref q) H')))
section
variable {P : Program} {w : World} {K : PySem.W.Frag} {mg : Str → Option Value} {base : Heap}
theorem sc_table_of : FnScope ["layout", "words", "signs", "state", "word", "sign", "columns", "row"] ["layout", "words"] (defScope s_table_of) := ⟨rfl, rfl, rfl, by decide +kernel, rfl, by decide +kernel, by decide +kernel⟩
abbrev N_table_of : List Str := ["layout", "words", "signs", "state", "word", "sign", "columns", "row"]
theorem ok_table_of {f f1 f2 f3 fI C CL CB fB : Addr} {fd fd1 fd2 fd3 fdB : FuncData} (F : FunD K "table_of" "table_of" (defArgs s_table_of) (defBody s_table_of) (defScope s_table_of) [V.non] [] f fd) (T : Blt mg) (O_Layout : OwnC K mg "Layout" C fI) (n1 : NoAttr K C "bits") (n2 : NoAttr K C "means") (R_BadBits : Err P w K mg base "BadBits" "part" CB fB fdB)
    (D_need_layout : Df K mg "need_layout" s_need_layout ["value", "part"] f1 fd1) (G_need_layout : FnOk P w K mg base (L2.CX P w) 4 f1 fd1 ["value", "part"] (spNeedLayX K C CL)) (D_are_unlike : Df K mg "are_unlike" s_are_unlike ["value", "least", "most"] f2 fd2) (G_are_unlike : FnOk P w K mg base CX0 4 f2 fd2 ["value", "least", "most"] (spUnlike K)) (D__row_of : Df K mg "_row_of" s__row_of ["signs", "columns", "row"] f3 fd3) (G__row_of : FnOk P w K mg base CX0 6 f3 fd3 ["signs", "columns", "row"] spRowOf) :
    FnOk P w K mg base (L2.CX P w) 8 f fd ["layout", "words"] (spTable K C CL CB) := by
  refine F.ok sc_table_of (fun vs H Q E h => ?_) (fun cdv A outer s H vs Q E hr h => ?_)
  · obtain ⟨x, y, rfl, _⟩ := h
    rfl
  · obtain ⟨x, y, rfl, h⟩ := h
    refine ⟨_, (pss_cons (ps_expr (pe_callS G_need_layout (hr.mono (by decide)) (by rfl) D_need_layout.g D_need_layout.F.kp D_need_layout.b (fun σ => passAt (takes_of rfl rfl rfl rfl) σ) (pa_cons (pv 0) (pa_cons pe_str pa_nil))))
  (pss_cons (ps_if (PW.pt (pw_and (pt_cmpR op_notN (pv 1) pe_non (nomark _)) (pw_and1 (pt_not (pt_val (pe_call G_are_unlike (hr.mono (by decide)) (by rfl) D_are_unlike.g D_are_unlike.F.kp D_are_unlike.b .nil pass0 (pa_cons (pv 1) (pa_cons pe_int (pa_cons (pe_op nop_sub (pe_callB call_len_seq (by rfl) T.n_len (by decide +kernel) (pa_cons (pe_fld (pv 0) rfl) pa_nil)) (pe_intN 1)) pa_nil))))))))) (pss_one (ps_raise1 rfl (takes_of rfl rfl rfl rfl) R_BadBits (hr.mono (by decide)) (by rfl) pe_str)) pss_nil)
  (pss_cons (ps_set (i := 2) sc_table_of.nd rfl (Or.inr rfl) (pe_lc (own := [("state", 3)]) (g := (gName 3)) (tt := tYes) rfl sc_table_of.nd (pi_tup (pe_fld (pv 0) rfl)) (blkOk_by (N := N_table_of) (own := [("state", 3)]) (sc := defScope s_table_of) (by decide +kernel)) (fun _ _ _ _ _ => (pg_name (i := 3) sc_table_of.nd rfl (Or.inl rfl))) (fun _ _ _ _ _ => pts_nil) (fun _ _ _ _ _ => (pe_ifExp (pt_cmpR op_isN (pv 3) pe_non (nomark _)) (pe_glob (v := .str ".") rfl T.g_NOTHING_tables.choose_spec ⟨_, rfl⟩) (pe_ix ix_str (pe_glob (v := .str "0123456789abcdefghijklmnopqrstuvwxyzABCDEFGHIJKLMNOPQRSTUVWXYZ+=") rfl T.g_SIGNS.choose_spec ⟨_, rfl⟩) (pv 3) (fun _ _ => rfl))))))
  (pss_cons (ps_if (pt_cmpR op_notN (pv 1) pe_non (nomark _)) (pss_one (ps_set (i := 2) sc_table_of.nd rfl (Or.inr rfl) (pe_lc (own := [("word", 4), ("sign", 5)]) (g := (gTup K 2 (gCons (gName 4) (gCons (gName 5) gNil)))) (tt := tYes) (te := tIf (tTest (tOp (rIn K false) (tVar 4) (tVar 1))) (tVar 5) (tC (.str "."))) rfl sc_table_of.nd (pi_enum (by rfl) T.n_enumerate (pa_cons (pv 2) pa_nil)) (blkOk_by (N := N_table_of) (own := [("word", 4), ("sign", 5)]) (sc := defScope s_table_of) (by decide +kernel)) (fun _ _ _ _ _ => (pg_tup (by rfl) (pgs_cons (pg_name (i := 4) sc_table_of.nd rfl (Or.inl rfl)) (pgs_cons (pg_name (i := 5) sc_table_of.nd rfl (Or.inl rfl)) pgs_nil)))) (fun _ _ _ _ _ => pts_nil) (fun _ _ _ _ _ => (pe_ifExp (pt_cmpR op_in_seq (pv 4) (pv 1) (by rfl)) (pv 5) (pe_glob (v := .str ".") rfl T.g_NOTHING_tables.choose_spec ⟨_, rfl⟩)))))) pss_nil)
  (pss_cons (ps_set (i := 6) sc_table_of.nd rfl (Or.inr rfl) (pe_op nop_fdiv (pe_op nop_add (pe_fld (pv 0) rfl) (pe_intN 1)) (pe_intN 2)))
  (pss_one (ps_ret (pe_callTy call_tuple_of (by rfl) T.n_tuple (by decide +kernel) (pa_cons (pe_lc (own := [("row", 7)]) (g := (gName 7)) (tt := tYes) rfl sc_table_of.nd (pi_range1 (by rfl) T.n_range (pa_cons (pe_op op_oneN pe_int (pe_op nop_sub (pe_fld (pv 0) rfl) (pv 6))) pa_nil)) (blkOk_by (N := N_table_of) (own := [("row", 7)]) (sc := defScope s_table_of) (by decide +kernel)) (fun _ _ _ _ _ => (pg_name (i := 7) sc_table_of.nd rfl (Or.inl rfl))) (fun _ _ _ _ _ => pts_nil) (fun _ _ _ _ _ => (pe_call G__row_of (hr.mono (by decide)) (by rfl) D__row_of.g D__row_of.F.kp D__row_of.b .nil pass0 (pa_cons (pv 2) (pa_cons (pv 6) (pa_cons (pv 7) pa_nil)))))) pa_nil))))))))), ?_⟩
    refine ⟨_, rfl, x, "layout", rfl, ?_⟩
    rcases h with ⟨no, ra⟩ | ⟨a, b, ms, rfl, hl, ok, h⟩
    · exact .inl ⟨no, ra⟩
    refine .inr ⟨a, b, ms, rfl, hl, ?_⟩
    obtain ⟨dx, fs, tm, hx, fb, fm, ht⟩ := id hl
    have b1 := ok.b1
    have b8 := ok.b8
    have p8 := pow8 b8
    have len : (ms.map mv).length = 2 ^ b := by rw [List.length_map]; exact ok.len
    have pb := MS.two_pos b
    rcases h with ⟨rfl, ans⟩ | ⟨ny, no, ra⟩ | ⟨sh, ny, lot, ans⟩
    · repeat (first | (with_reducible refine st_tC ?_) | (with_reducible refine st_tOp ?_) | ((with_reducible apply st_n); rfl; rfl; (first | trivial | (show _ ≤ _; omega) | (show _ < _; omega) | (show _ ∨ _; omega) | assumption | exact ⟨by assumption, by omega⟩ | exact ⟨W30.one, by omega⟩ | fail); rfl) | (with_reducible refine st_i0 rfl rfl rfl ?_) | ((with_reducible refine st_i rfl rfl ?_ rfl ?_); first | omega | exact ⟨by decide, by decide, by decide⟩ | exact .inl ⟨by decide, by decide⟩ | exact .inl ⟨by omega, by omega⟩ | exact .inr ⟨by omega, by omega⟩ | fail) | ((fail_if_success refine Exists.intro (α := Nat → Nat → L2.St → Hp → Prop) ?_ ?_); (fail_if_success refine Exists.intro (α := L2.St → Hp → Prop) ?_ ?_); (fail_if_success refine Exists.intro (α := Nat → L2.St → Hp → Prop) ?_ ?_); apply Exists.intro) | ((refine And.intro ?_ ?_); first | with_reducible rfl | with_reducible assumption | rfl | ((with_reducible apply SqL.of); assumption) | ((with_reducible apply SqT.of); assumption) | ((with_reducible apply OwnC.cl); assumption) | (with_reducible exact isI_int _) | exact within_args | (with_reducible exact upd_same) | ((with_reducible apply Mid.o); assumption) | ((with_reducible apply Mid.t); assumption) | exact .inl ⟨rfl, _, SqL.of (by assumption)⟩ | (with_reducible exact ⟨_, SqT.of (by assumption)⟩) | (with_reducible exact ⟨_, SqL.of (by assumption)⟩) | omega | exact Nat.le_of_ble_eq_true rfl | exact nat9 (by omega) | exact ⟨_, rfl⟩ | (show _ ≤ sizeLine; decide) | exact ⟨by decide, by decide, by decide⟩ | exact .inl ⟨by decide, by decide⟩ | exact .inl ⟨by omega, by omega⟩ | exact .inr ⟨by omega, by omega⟩ | assumption | fail) | ((with_reducible refine iteF' ?_ ?_); first | rfl | exact decide_eq_false (by omega) | exact in_no (by omega) (by omega) | exact in_no (by omega) (by assumption) | (simp <;> fail) | fail) | ((with_reducible refine iteT' ?_ ?_); first | rfl | exact decide_eq_true (by omega) | (simp <;> fail) | fail))
      intro D hD
      have htc := (Same.refl (H := H)) _ _ ht
      refine lc_tup (K := K) (a := tm) (xs := ms.map mv) (fun i H' => Same H H' ∧ H' D = some (.lst (((ms.map sg).take i).map V.str))) ⟨same_new hD, upd_same⟩ (fun i H' _ z => SqT.of (z.1 _ _ htc)) ?_ ?_
      · rintro i v H' hv ⟨S2, h2⟩
        obtain ⟨m, hm, rfl⟩ : ∃ m, ms[i]? = some m ∧ v = mv m := by
          rw [List.getElem?_map] at hv
          cases e : ms[i]? with
          | none => rw [e] at hv; cases hv
          | some m => rw [e] at hv; exact ⟨m, rfl, (Option.some.inj hv).symm⟩
        have hi := (List.getElem?_eq_some_iff.mp hm).1
        have fin : ∃ acc, H' D = some (.lst acc) ∧ acc.length < sizeLine ∧ Same H (upd H' D (.lst (acc ++ [.str (sg m)]))) ∧ (upd H' D (.lst (acc ++ [.str (sg m)]))) D = some (.lst (((ms.map sg).take (i + 1)).map V.str)) := by
          refine ⟨_, h2, ?_, fun a o e => ?_, ?_⟩
          · rw [List.length_map, List.length_take, sizeLine_eq]
            rw [List.length_map] at len
            omega
          · rw [upd_ne (ne_of_none e hD)]
            exact S2 a o e
          · rw [upd_same, List.take_add_one, List.getElem?_map, hm, List.map_append]
            rfl
        refine ⟨rfl, _, rfl, rfl, _, rfl, ?_⟩
        cases m with
        | none => exact iteT fin
        | some n => exact iteF ⟨_, rfl, SG, _, _, rfl, rfl, SG_len, sgn_s n (by have := ok.small n (List.mem_of_getElem? hm); omega), fin⟩
      · rintro H3 ⟨S3, h3⟩
        rw [List.take_of_length_le (Nat.le_of_eq (by rw [List.length_map, List.length_map])), ← ssL_all] at h3
        have hx3 := S3 _ _ hx
        have ht3 := S3 _ _ ht
        repeat (first | (with_reducible refine st_tC ?_) | (with_reducible refine st_tOp ?_) | ((with_reducible apply st_n); rfl; rfl; (first | trivial | (show _ ≤ _; omega) | (show _ < _; omega) | (show _ ∨ _; omega) | assumption | exact ⟨by assumption, by omega⟩ | exact ⟨W30.one, by omega⟩ | fail); rfl) | (with_reducible refine st_i0 rfl rfl rfl ?_) | ((with_reducible refine st_i rfl rfl ?_ rfl ?_); first | omega | exact ⟨by decide, by decide, by decide⟩ | exact .inl ⟨by decide, by decide⟩ | exact .inl ⟨by omega, by omega⟩ | exact .inr ⟨by omega, by omega⟩ | fail) | ((fail_if_success refine Exists.intro (α := Nat → Nat → L2.St → Hp → Prop) ?_ ?_); (fail_if_success refine Exists.intro (α := L2.St → Hp → Prop) ?_ ?_); (fail_if_success refine Exists.intro (α := Nat → L2.St → Hp → Prop) ?_ ?_); apply Exists.intro) | ((refine And.intro ?_ ?_); first | with_reducible rfl | with_reducible assumption | rfl | ((with_reducible apply SqL.of); assumption) | ((with_reducible apply SqT.of); assumption) | ((with_reducible apply OwnC.cl); assumption) | (with_reducible exact isI_int _) | exact within_args | (with_reducible exact upd_same) | ((with_reducible apply Mid.o); assumption) | ((with_reducible apply Mid.t); assumption) | exact .inl ⟨rfl, _, SqL.of (by assumption)⟩ | (with_reducible exact ⟨_, SqT.of (by assumption)⟩) | (with_reducible exact ⟨_, SqL.of (by assumption)⟩) | omega | exact Nat.le_of_ble_eq_true rfl | exact nat9 (by omega) | exact ⟨_, rfl⟩ | (show _ ≤ sizeLine; decide) | exact ⟨by decide, by decide, by decide⟩ | exact .inl ⟨by decide, by decide⟩ | exact .inl ⟨by omega, by omega⟩ | exact .inr ⟨by omega, by omega⟩ | assumption | fail) | ((with_reducible refine iteF' ?_ ?_); first | rfl | exact decide_eq_false (by omega) | exact in_no (by omega) (by omega) | exact in_no (by omega) (by assumption) | (simp <;> fail) | fail) | ((with_reducible refine iteT' ?_ ?_); first | rfl | exact decide_eq_true (by omega) | (simp <;> fail) | fail))
        rw [ok.len] at h3
        have e0 : (0 : Int) ≤ ((2 ^ (b - (b + 1) / 2) : Nat) : Int) := Int.natCast_nonneg _
        have pq := pow8 (show b - (b + 1) / 2 ≤ 8 by omega)
        refine ⟨by omega, by omega, fun D9 hD9 => ?_⟩
        rw [Int.toNat_natCast]
        have hR : tabT b ms (List.range (2 ^ b)) = (List.range (2 ^ (b - (b + 1) / 2))).map fun i => catS (rowT ms (List.range (2 ^ b)) ((b + 1) / 2) (M07.gray i)) := by
          unfold tabT
          rw [show wd b = (b + 1) / 2 by unfold wd; omega, row_gray _ (by omega), List.map_map]
          rfl
        have hRl : (tabT b ms (List.range (2 ^ b))).length = 2 ^ (b - (b + 1) / 2) := by rw [hR, List.length_map, List.length_range]
        refine lc_range (n := 2 ^ (b - (b + 1) / 2)) (fun i H' => Same H3 H' ∧ H' D9 = some (.lst (((tabT b ms (List.range (2 ^ b))).take i).map V.str))) ⟨same_new hD9, upd_same⟩ ?_ ?_
        · rintro i H' hi ⟨S4, h4⟩
          have hq := S4 _ _ h3
          refine ⟨rfl, ?_⟩
          refine ⟨_, rfl, _, rfl, _, rfl, D, ssL ms (List.range (2 ^ b)), b, (b + 1) / 2, i, by rw [Int.zero_add]; rfl, hq, by unfold ssL; rw [List.length_map, List.length_range]; exact ok.len, b8, by omega, hi, fun s hs => by
            obtain ⟨z, _, rfl⟩ := List.mem_map.mp hs
            exact cell_len _ _ _, fun H5 S5 => ?_⟩
          rw [row_same b8 (by omega) ok.len hi]
          refine ⟨_, S5 _ _ h4, ?_, fun a o e => ?_, ?_⟩
          · rw [List.length_map, List.length_take, sizeLine_eq]
            omega
          · rw [upd_ne (ne_of_none e hD9)]
            exact S5 _ _ (S4 a o e)
          · rw [upd_same, List.take_add_one, List.map_append, show (tabT b ms (List.range (2 ^ b)))[i]? = some (catS (rowT ms (List.range (2 ^ b)) ((b + 1) / 2) (M07.gray i))) by rw [hR, List.getElem?_map, List.getElem?_range hi]; rfl]
            rfl
        · rintro H5 ⟨S5, h5⟩
          rw [List.take_of_length_le (Nat.le_of_eq hRl)] at h5
          refine ⟨_, _, rfl, .inl ⟨SqL.of h5, fun l hl => ans l _ ((S3.trans S5).free hl) ((S3.trans S5).trans (same_new hl)) ?_⟩⟩
          rw [upd_same]
    · repeat (first | (refine iteT' (by rw [decide_eq_false ny]; rfl) ?_) | (refine ⟨a, C, dx, _, _, rfl, hx, O_Layout.cl, n2, fm, ?_⟩) | (refine ⟨.inr (SqT.of ht), ?_⟩) | (refine ⟨y, some 0, some (hiM b), by rw [len]; rfl, ?_⟩) | (with_reducible refine st_tC ?_) | (with_reducible refine st_tOp ?_) | ((with_reducible apply st_n); rfl; rfl; (first | trivial | (show _ ≤ _; omega) | (show _ < _; omega) | (show _ ∨ _; omega) | assumption | exact ⟨by assumption, by omega⟩ | exact ⟨W30.one, by omega⟩ | fail); rfl) | (with_reducible refine st_i0 rfl rfl rfl ?_) | ((with_reducible refine st_i rfl rfl ?_ rfl ?_); first | omega | exact ⟨by decide, by decide, by decide⟩ | exact .inl ⟨by decide, by decide⟩ | exact .inl ⟨by omega, by omega⟩ | exact .inr ⟨by omega, by omega⟩ | fail) | ((fail_if_success refine Exists.intro (α := Nat → Nat → L2.St → Hp → Prop) ?_ ?_); (fail_if_success refine Exists.intro (α := L2.St → Hp → Prop) ?_ ?_); (fail_if_success refine Exists.intro (α := Nat → L2.St → Hp → Prop) ?_ ?_); apply Exists.intro) | ((refine And.intro ?_ ?_); first | with_reducible rfl | with_reducible assumption | rfl | ((with_reducible apply SqL.of); assumption) | ((with_reducible apply SqT.of); assumption) | ((with_reducible apply OwnC.cl); assumption) | (with_reducible exact isI_int _) | exact within_args | (with_reducible exact upd_same) | ((with_reducible apply Mid.o); assumption) | ((with_reducible apply Mid.t); assumption) | exact .inl ⟨rfl, _, SqL.of (by assumption)⟩ | (with_reducible exact ⟨_, SqT.of (by assumption)⟩) | (with_reducible exact ⟨_, SqL.of (by assumption)⟩) | omega | exact Nat.le_of_ble_eq_true rfl | exact nat9 (by omega) | exact ⟨_, rfl⟩ | (show _ ≤ sizeLine; decide) | exact ⟨by decide, by decide, by decide⟩ | exact .inl ⟨by decide, by decide⟩ | exact .inl ⟨by omega, by omega⟩ | exact .inr ⟨by omega, by omega⟩ | assumption | fail) | ((with_reducible refine iteF' ?_ ?_); first | rfl | exact decide_eq_false (by omega) | exact in_no (by omega) (by omega) | exact in_no (by omega) (by assumption) | (simp <;> fail) | fail) | ((with_reducible refine iteT' ?_ ?_); first | rfl | exact decide_eq_true (by omega) | (simp <;> fail) | fail))
      refine .inl ⟨no, fun H1 S1 => ?_⟩
      refine ⟨false, rfl, iteT' rfl ?_⟩
      exact raise1_of (W := fun cls d _ H => E cls d H) (σ := L2.start ["layout", "words", "signs", "state", "word", "sign", "columns", "row"] [.ref a, y]) R_BadBits.T R_BadBits.no fun d hd => ra H1 S1 d hd
    · repeat (first | (refine iteT' (by rw [decide_eq_false ny]; rfl) ?_) | (refine ⟨a, C, dx, _, _, rfl, hx, O_Layout.cl, n2, fm, ?_⟩) | (refine ⟨.inr (SqT.of ht), ?_⟩) | (refine ⟨y, some 0, some (hiM b), by rw [len]; rfl, ?_⟩) | (with_reducible refine st_tC ?_) | (with_reducible refine st_tOp ?_) | ((with_reducible apply st_n); rfl; rfl; (first | trivial | (show _ ≤ _; omega) | (show _ < _; omega) | (show _ ∨ _; omega) | assumption | exact ⟨by assumption, by omega⟩ | exact ⟨W30.one, by omega⟩ | fail); rfl) | (with_reducible refine st_i0 rfl rfl rfl ?_) | ((with_reducible refine st_i rfl rfl ?_ rfl ?_); first | omega | exact ⟨by decide, by decide, by decide⟩ | exact .inl ⟨by decide, by decide⟩ | exact .inl ⟨by omega, by omega⟩ | exact .inr ⟨by omega, by omega⟩ | fail) | ((fail_if_success refine Exists.intro (α := Nat → Nat → L2.St → Hp → Prop) ?_ ?_); (fail_if_success refine Exists.intro (α := L2.St → Hp → Prop) ?_ ?_); (fail_if_success refine Exists.intro (α := Nat → L2.St → Hp → Prop) ?_ ?_); apply Exists.intro) | ((refine And.intro ?_ ?_); first | with_reducible rfl | with_reducible assumption | rfl | ((with_reducible apply SqL.of); assumption) | ((with_reducible apply SqT.of); assumption) | ((with_reducible apply OwnC.cl); assumption) | (with_reducible exact isI_int _) | exact within_args | (with_reducible exact upd_same) | ((with_reducible apply Mid.o); assumption) | ((with_reducible apply Mid.t); assumption) | exact .inl ⟨rfl, _, SqL.of (by assumption)⟩ | (with_reducible exact ⟨_, SqT.of (by assumption)⟩) | (with_reducible exact ⟨_, SqL.of (by assumption)⟩) | omega | exact Nat.le_of_ble_eq_true rfl | exact nat9 (by omega) | exact ⟨_, rfl⟩ | (show _ ≤ sizeLine; decide) | exact ⟨by decide, by decide, by decide⟩ | exact .inl ⟨by decide, by decide⟩ | exact .inl ⟨by omega, by omega⟩ | exact .inr ⟨by omega, by omega⟩ | assumption | fail) | ((with_reducible refine iteF' ?_ ?_); first | rfl | exact decide_eq_false (by omega) | exact in_no (by omega) (by omega) | exact in_no (by omega) (by assumption) | (simp <;> fail) | fail) | ((with_reducible refine iteT' ?_ ?_); first | rfl | exact decide_eq_true (by omega) | (simp <;> fail) | fail))
      refine .inr ⟨sh.map Int.ofNat, lot, fun H1 S1 => ?_⟩
      have hx1 := S1 _ _ hx
      have ht1 := S1 _ _ ht
      refine ⟨true, rfl, iteF' rfl ?_⟩
      repeat (first | (with_reducible refine st_tC ?_) | (with_reducible refine st_tOp ?_) | ((with_reducible apply st_n); rfl; rfl; (first | trivial | (show _ ≤ _; omega) | (show _ < _; omega) | (show _ ∨ _; omega) | assumption | exact ⟨by assumption, by omega⟩ | exact ⟨W30.one, by omega⟩ | fail); rfl) | (with_reducible refine st_i0 rfl rfl rfl ?_) | ((with_reducible refine st_i rfl rfl ?_ rfl ?_); first | omega | exact ⟨by decide, by decide, by decide⟩ | exact .inl ⟨by decide, by decide⟩ | exact .inl ⟨by omega, by omega⟩ | exact .inr ⟨by omega, by omega⟩ | fail) | ((fail_if_success refine Exists.intro (α := Nat → Nat → L2.St → Hp → Prop) ?_ ?_); (fail_if_success refine Exists.intro (α := L2.St → Hp → Prop) ?_ ?_); (fail_if_success refine Exists.intro (α := Nat → L2.St → Hp → Prop) ?_ ?_); apply Exists.intro) | ((refine And.intro ?_ ?_); first | with_reducible rfl | with_reducible assumption | rfl | ((with_reducible apply SqL.of); assumption) | ((with_reducible apply SqT.of); assumption) | ((with_reducible apply OwnC.cl); assumption) | (with_reducible exact isI_int _) | exact within_args | (with_reducible exact upd_same) | ((with_reducible apply Mid.o); assumption) | ((with_reducible apply Mid.t); assumption) | exact .inl ⟨rfl, _, SqL.of (by assumption)⟩ | (with_reducible exact ⟨_, SqT.of (by assumption)⟩) | (with_reducible exact ⟨_, SqL.of (by assumption)⟩) | omega | exact Nat.le_of_ble_eq_true rfl | exact nat9 (by omega) | exact ⟨_, rfl⟩ | (show _ ≤ sizeLine; decide) | exact ⟨by decide, by decide, by decide⟩ | exact .inl ⟨by decide, by decide⟩ | exact .inl ⟨by omega, by omega⟩ | exact .inr ⟨by omega, by omega⟩ | assumption | fail) | ((with_reducible refine iteF' ?_ ?_); first | rfl | exact decide_eq_false (by omega) | exact in_no (by omega) (by omega) | exact in_no (by omega) (by assumption) | (simp <;> fail) | fail) | ((with_reducible refine iteT' ?_ ?_); first | rfl | exact decide_eq_true (by omega) | (simp <;> fail) | fail))
      intro D hD
      have htc := S1 _ _ ht
      refine lc_tup (K := K) (a := tm) (xs := ms.map mv) (fun i H' => Same H1 H' ∧ H' D = some (.lst (((ms.map sg).take i).map V.str))) ⟨same_new hD, upd_same⟩ (fun i H' _ z => SqT.of (z.1 _ _ htc)) ?_ ?_
      · rintro i v H' hv ⟨S2, h2⟩
        obtain ⟨m, hm, rfl⟩ : ∃ m, ms[i]? = some m ∧ v = mv m := by
          rw [List.getElem?_map] at hv
          cases e : ms[i]? with
          | none => rw [e] at hv; cases hv
          | some m => rw [e] at hv; exact ⟨m, rfl, (Option.some.inj hv).symm⟩
        have hi := (List.getElem?_eq_some_iff.mp hm).1
        have fin : ∃ acc, H' D = some (.lst acc) ∧ acc.length < sizeLine ∧ Same H1 (upd H' D (.lst (acc ++ [.str (sg m)]))) ∧ (upd H' D (.lst (acc ++ [.str (sg m)]))) D = some (.lst (((ms.map sg).take (i + 1)).map V.str)) := by
          refine ⟨_, h2, ?_, fun a o e => ?_, ?_⟩
          · rw [List.length_map, List.length_take, sizeLine_eq]
            rw [List.length_map] at len
            omega
          · rw [upd_ne (ne_of_none e hD)]
            exact S2 a o e
          · rw [upd_same, List.take_add_one, List.getElem?_map, hm, List.map_append]
            rfl
        refine ⟨rfl, _, rfl, rfl, _, rfl, ?_⟩
        cases m with
        | none => exact iteT fin
        | some n => exact iteF ⟨_, rfl, SG, _, _, rfl, rfl, SG_len, sgn_s n (by have := ok.small n (List.mem_of_getElem? hm); omega), fin⟩
      · rintro H3 ⟨S3, h3⟩
        rw [List.take_of_length_le (Nat.le_of_eq (by rw [List.length_map, List.length_map]))] at h3
        have hx3 := S3 _ _ hx1
        have ht3 := S3 _ _ ht1
        repeat (first | (refine iteT' (by rw [decide_eq_false ny]; rfl) ?_) | (with_reducible refine st_tC ?_) | (with_reducible refine st_tOp ?_) | ((with_reducible apply st_n); rfl; rfl; (first | trivial | (show _ ≤ _; omega) | (show _ < _; omega) | (show _ ∨ _; omega) | assumption | exact ⟨by assumption, by omega⟩ | exact ⟨W30.one, by omega⟩ | fail); rfl) | (with_reducible refine st_i0 rfl rfl rfl ?_) | ((with_reducible refine st_i rfl rfl ?_ rfl ?_); first | omega | exact ⟨by decide, by decide, by decide⟩ | exact .inl ⟨by decide, by decide⟩ | exact .inl ⟨by omega, by omega⟩ | exact .inr ⟨by omega, by omega⟩ | fail) | ((fail_if_success refine Exists.intro (α := Nat → Nat → L2.St → Hp → Prop) ?_ ?_); (fail_if_success refine Exists.intro (α := L2.St → Hp → Prop) ?_ ?_); (fail_if_success refine Exists.intro (α := Nat → L2.St → Hp → Prop) ?_ ?_); apply Exists.intro) | ((refine And.intro ?_ ?_); first | with_reducible rfl | with_reducible assumption | rfl | ((with_reducible apply SqL.of); assumption) | ((with_reducible apply SqT.of); assumption) | ((with_reducible apply OwnC.cl); assumption) | (with_reducible exact isI_int _) | exact within_args | (with_reducible exact upd_same) | ((with_reducible apply Mid.o); assumption) | ((with_reducible apply Mid.t); assumption) | exact .inl ⟨rfl, _, SqL.of (by assumption)⟩ | (with_reducible exact ⟨_, SqT.of (by assumption)⟩) | (with_reducible exact ⟨_, SqL.of (by assumption)⟩) | omega | exact Nat.le_of_ble_eq_true rfl | exact nat9 (by omega) | exact ⟨_, rfl⟩ | (show _ ≤ sizeLine; decide) | exact ⟨by decide, by decide, by decide⟩ | exact .inl ⟨by decide, by decide⟩ | exact .inl ⟨by omega, by omega⟩ | exact .inr ⟨by omega, by omega⟩ | assumption | fail) | ((with_reducible refine iteF' ?_ ?_); first | rfl | exact decide_eq_false (by omega) | exact in_no (by omega) (by omega) | exact in_no (by omega) (by assumption) | (simp <;> fail) | fail) | ((with_reducible refine iteT' ?_ ?_); first | rfl | exact decide_eq_true (by omega) | (simp <;> fail) | fail))
        obtain ⟨ay, rfl, hin, _⟩ := lot
        have eiv : (sh.map Int.ofNat).map V.int = iv sh := by
          rw [List.map_map]
          rfl
        rw [eiv] at hin
        intro D7 hD7
        refine lc_it (J := Ite K D) (walk_enum (xs := (ms.map sg).map V.str)) (fun i H' => Same H3 H' ∧ H' D7 = some (.lst (((ssL ms sh).take i).map V.str))) ⟨same_new hD7, upd_same⟩ (fun i H' _ z => SqL.of (z.1 _ _ h3)) ?_ ?_
        · rintro i v H4 H5 hi ⟨S4, h4⟩ ⟨q2, e1, e2, rfl, hq2, rfl, ea, eb⟩
          obtain rfl : V.int (i : Int) = e1 := Option.some.inj ea
          have him : i < ms.length := by rw [List.length_map, List.length_map] at hi; exact hi
          obtain ⟨m, hm⟩ : ∃ m, ms[i]? = some m := ⟨_, List.getElem?_eq_getElem him⟩
          obtain rfl : V.str (sg m) = e2 := by
            have z : ((ms.map sg).map V.str)[i]? = some (V.str (sg m)) := by rw [List.getElem?_map, List.getElem?_map, hm]; rfl
            exact Option.some.inj (z.symm.trans eb)
          have Sq := same_new (o := .tup [V.int (i : Int), V.str (sg m)]) hq2
          have S14 := (S1.trans S3).trans (S4.trans Sq)
          have hin4 := hin.imp (fun z => sqL_same z S14) (fun z => sqT_same z S14)
          have hc : cell ms sh i = if i ∈ sh then sg m else "." := by
            unfold cell
            rw [List.getD_eq_getElem?_getD, hm]
            rfl
          have fin : ∃ acc, (upd H4 q2 (.tup [V.int (i : Int), V.str (sg m)])) D7 = some (.lst acc) ∧ acc.length < sizeLine ∧ Same H3 (upd (upd H4 q2 (.tup [V.int (i : Int), V.str (sg m)])) D7 (.lst (acc ++ [.str (cell ms sh i)]))) ∧ (upd (upd H4 q2 (.tup [V.int (i : Int), V.str (sg m)])) D7 (.lst (acc ++ [.str (cell ms sh i)]))) D7 = some (.lst (((ssL ms sh).take (i + 1)).map V.str)) := by
            refine ⟨_, Sq _ _ h4, ?_, fun a o e => ?_, ?_⟩
            · rw [List.length_map, List.length_take, sizeLine_eq]
              have := ok.len
              omega
            · rw [upd_ne (ne_of_none e hD7)]
              exact Sq _ _ (S4 a o e)
            · rw [upd_same, List.take_add_one, List.map_append, show (ssL ms sh)[i]? = some (cell ms sh i) by unfold ssL; rw [List.getElem?_map, List.getElem?_range him]; rfl]
              rfl
          rw [hc] at fin
          refine ⟨q2, _, rfl, SqT.of upd_same, ?_⟩
          repeat (first | (with_reducible refine st_tC ?_) | (with_reducible refine st_tOp ?_) | ((with_reducible apply st_n); rfl; rfl; (first | trivial | (show _ ≤ _; omega) | (show _ < _; omega) | (show _ ∨ _; omega) | assumption | exact ⟨by assumption, by omega⟩ | exact ⟨W30.one, by omega⟩ | fail); rfl) | (with_reducible refine st_i0 rfl rfl rfl ?_) | ((with_reducible refine st_i rfl rfl ?_ rfl ?_); first | omega | exact ⟨by decide, by decide, by decide⟩ | exact .inl ⟨by decide, by decide⟩ | exact .inl ⟨by omega, by omega⟩ | exact .inr ⟨by omega, by omega⟩ | fail) | ((fail_if_success refine Exists.intro (α := Nat → Nat → L2.St → Hp → Prop) ?_ ?_); (fail_if_success refine Exists.intro (α := L2.St → Hp → Prop) ?_ ?_); (fail_if_success refine Exists.intro (α := Nat → L2.St → Hp → Prop) ?_ ?_); apply Exists.intro) | ((refine And.intro ?_ ?_); first | with_reducible rfl | with_reducible assumption | rfl | ((with_reducible apply SqL.of); assumption) | ((with_reducible apply SqT.of); assumption) | ((with_reducible apply OwnC.cl); assumption) | (with_reducible exact isI_int _) | exact within_args | (with_reducible exact upd_same) | ((with_reducible apply Mid.o); assumption) | ((with_reducible apply Mid.t); assumption) | exact .inl ⟨rfl, _, SqL.of (by assumption)⟩ | (with_reducible exact ⟨_, SqT.of (by assumption)⟩) | (with_reducible exact ⟨_, SqL.of (by assumption)⟩) | omega | exact Nat.le_of_ble_eq_true rfl | exact nat9 (by omega) | exact ⟨_, rfl⟩ | (show _ ≤ sizeLine; decide) | exact ⟨by decide, by decide, by decide⟩ | exact .inl ⟨by decide, by decide⟩ | exact .inl ⟨by omega, by omega⟩ | exact .inr ⟨by omega, by omega⟩ | assumption | fail) | ((with_reducible refine iteF' ?_ ?_); first | rfl | exact decide_eq_false (by omega) | exact in_no (by omega) (by omega) | exact in_no (by omega) (by assumption) | (simp <;> fail) | fail) | ((with_reducible refine iteT' ?_ ?_); first | rfl | exact decide_eq_true (by omega) | (simp <;> fail) | fail))
          refine ⟨flat_iv sh, inV (.int (i : Int)) (iv sh), rfl, ?_⟩
          by_cases c : i ∈ sh
          · rw [if_pos c] at fin
            exact iteT' (by rw [inV_iv]; exact decide_eq_true c) ⟨_, rfl, fin⟩
          · rw [if_neg c] at fin
            exact iteF' (by rw [inV_iv]; exact decide_eq_false c) fin
        · rintro H6 ⟨S6, h6⟩
          rw [show ((ms.map sg).map V.str).length = (ssL ms sh).length by unfold ssL; rw [List.length_map, List.length_map, List.length_map, List.length_range], List.take_length] at h6
          have hx6 := S6 _ _ hx3
          have S16 := (S1.trans S3).trans S6
          repeat (first | (with_reducible refine st_tC ?_) | (with_reducible refine st_tOp ?_) | ((with_reducible apply st_n); rfl; rfl; (first | trivial | (show _ ≤ _; omega) | (show _ < _; omega) | (show _ ∨ _; omega) | assumption | exact ⟨by assumption, by omega⟩ | exact ⟨W30.one, by omega⟩ | fail); rfl) | (with_reducible refine st_i0 rfl rfl rfl ?_) | ((with_reducible refine st_i rfl rfl ?_ rfl ?_); first | omega | exact ⟨by decide, by decide, by decide⟩ | exact .inl ⟨by decide, by decide⟩ | exact .inl ⟨by omega, by omega⟩ | exact .inr ⟨by omega, by omega⟩ | fail) | ((fail_if_success refine Exists.intro (α := Nat → Nat → L2.St → Hp → Prop) ?_ ?_); (fail_if_success refine Exists.intro (α := L2.St → Hp → Prop) ?_ ?_); (fail_if_success refine Exists.intro (α := Nat → L2.St → Hp → Prop) ?_ ?_); apply Exists.intro) | ((refine And.intro ?_ ?_); first | with_reducible rfl | with_reducible assumption | rfl | ((with_reducible apply SqL.of); assumption) | ((with_reducible apply SqT.of); assumption) | ((with_reducible apply OwnC.cl); assumption) | (with_reducible exact isI_int _) | exact within_args | (with_reducible exact upd_same) | ((with_reducible apply Mid.o); assumption) | ((with_reducible apply Mid.t); assumption) | exact .inl ⟨rfl, _, SqL.of (by assumption)⟩ | (with_reducible exact ⟨_, SqT.of (by assumption)⟩) | (with_reducible exact ⟨_, SqL.of (by assumption)⟩) | omega | exact Nat.le_of_ble_eq_true rfl | exact nat9 (by omega) | exact ⟨_, rfl⟩ | (show _ ≤ sizeLine; decide) | exact ⟨by decide, by decide, by decide⟩ | exact .inl ⟨by decide, by decide⟩ | exact .inl ⟨by omega, by omega⟩ | exact .inr ⟨by omega, by omega⟩ | assumption | fail) | ((with_reducible refine iteF' ?_ ?_); first | rfl | exact decide_eq_false (by omega) | exact in_no (by omega) (by omega) | exact in_no (by omega) (by assumption) | (simp <;> fail) | fail) | ((with_reducible refine iteT' ?_ ?_); first | rfl | exact decide_eq_true (by omega) | (simp <;> fail) | fail))
          have e0 : (0 : Int) ≤ ((2 ^ (b - (b + 1) / 2) : Nat) : Int) := Int.natCast_nonneg _
          have pq := pow8 (show b - (b + 1) / 2 ≤ 8 by omega)
          refine ⟨by omega, by omega, fun D9 hD9 => ?_⟩
          rw [Int.toNat_natCast]
          have hR : tabT b ms sh = (List.range (2 ^ (b - (b + 1) / 2))).map fun i => catS (rowT ms sh ((b + 1) / 2) (M07.gray i)) := by
            unfold tabT
            rw [show wd b = (b + 1) / 2 by unfold wd; omega, row_gray _ (by omega), List.map_map]
            rfl
          have hRl : (tabT b ms sh).length = 2 ^ (b - (b + 1) / 2) := by rw [hR, List.length_map, List.length_range]
          refine lc_range (n := 2 ^ (b - (b + 1) / 2)) (fun i H' => Same H6 H' ∧ H' D9 = some (.lst (((tabT b ms sh).take i).map V.str))) ⟨same_new hD9, upd_same⟩ ?_ ?_
          · rintro i H' hi ⟨S4, h4⟩
            have hq := S4 _ _ h6
            refine ⟨rfl, ?_⟩
            refine ⟨_, rfl, _, rfl, _, rfl, D7, ssL ms sh, b, (b + 1) / 2, i, by rw [Int.zero_add]; rfl, hq, by unfold ssL; rw [List.length_map, List.length_range]; exact ok.len, b8, by omega, hi, fun s hs => by
              obtain ⟨z, _, rfl⟩ := List.mem_map.mp hs
              exact cell_len _ _ _, fun H5 S5 => ?_⟩
            rw [row_same b8 (by omega) ok.len hi]
            refine ⟨_, S5 _ _ h4, ?_, fun a o e => ?_, ?_⟩
            · rw [List.length_map, List.length_take, sizeLine_eq]
              omega
            · rw [upd_ne (ne_of_none e hD9)]
              exact S5 _ _ (S4 a o e)
            · rw [upd_same, List.take_add_one, List.map_append, show (tabT b ms sh)[i]? = some (catS (rowT ms sh ((b + 1) / 2) (M07.gray i))) by rw [hR, List.getElem?_map, List.getElem?_range hi]; rfl]
              rfl
          · rintro H5 ⟨S5, h5⟩
            rw [List.take_of_length_le (Nat.le_of_eq hRl)] at h5
            refine ⟨_, _, rfl, .inl ⟨SqL.of h5, fun l hl => ans l _ ((S16.trans S5).free hl) ((S16.trans S5).trans (same_new hl)) ?_⟩⟩
            rw [upd_same]
end
end K70
namespace K70
open PySem PySem.Spec PyProof.Rows L2 OB SkE LamX
structure ErrR (K : PySem.W.Frag) (CF C : Addr) : Prop where
  xf : XfC K C
  ec : ExcC K C
  ex : PySem.W.exmOne K (.ref C) (.ref CF) = some true
  no : PySem.W.findIn K (.ref C) "part" = some none
structure Kinds (K : PySem.W.Frag) (mg : Str → Option Value) (CF CB CL : Addr) : Prop where
  gF : mg "FlipError" = some (.ref CF)
  gS : mg "BadBits" = some (.ref CB)
  gW : mg "BadLayout" = some (.ref CL)
  rS : ErrR K CF CB
  rW : ErrR K CF CL
  kSS : PySem.W.kitOne K (.ref CB) (.ref CB) = some true
  kSW : PySem.W.kitOne K (.ref CB) (.ref CL) = some false
  kWS : PySem.W.kitOne K (.ref CL) (.ref CB) = some false
  kWW : PySem.W.kitOne K (.ref CL) (.ref CL) = some true
  zS : PySem.W.kitOne K (.type "NoneType") (.ref CB) = some false
  zW : PySem.W.kitOne K (.type "NoneType") (.ref CL) = some false
theorem kitA1 {K : PySem.W.Frag} {t a b : Value} (h : PySem.W.kitOne K t a = some true) : PySem.W.kitAny K t [a, b] = some true := by
  unfold PySem.W.kitAny
  rw [h]
theorem kitA2 {K : PySem.W.Frag} {t a b : Value} (h : PySem.W.kitOne K t a = some false) (h2 : PySem.W.kitOne K t b = some true) : PySem.W.kitAny K t [a, b] = some true := by
  unfold PySem.W.kitAny
  rw [h]
  show PySem.W.kitAny K t [b] = some true
  unfold PySem.W.kitAny
  rw [h2]
theorem kitA0 {K : PySem.W.Frag} {t a b : Value} (h : PySem.W.kitOne K t a = some false) (h2 : PySem.W.kitOne K t b = some false) : PySem.W.kitAny K t [a, b] = some false := by
  unfold PySem.W.kitAny
  rw [h]
  show PySem.W.kitAny K t [b] = some false
  unfold PySem.W.kitAny
  rw [h2]
  rfl
def spWord (CB CL : Addr) : Sp := fun vs H Q _ => ∃ x : V, vs = [x] ∧ ((x = .non ∧ ∀ H', Same H H' → Q .non H') ∨ ∃ (a D dd : Addr) (part : Str), x = .ref a ∧ H a = some (ExA (.ref D) (some dd) a) ∧ H dd = some (.xd [(("part" : Str), .str part)]) ∧
  ((CB = D ∧ ∀ p H'', Same H H'' → H'' p = some (.tup [.str "bits", .str part]) → Q (.ref p) H'') ∨ (CL = D ∧ ∀ p H'', Same H H'' → H'' p = some (.tup [.str "layout", .str part]) → Q (.ref p) H'')))
section
variable {P : Program} {w : World} {K : PySem.W.Frag} {mg : Str → Option Value} {base : Heap}
theorem sc__law_word : FnScope ["caught"] ["caught"] (defScope s__law_word) := ⟨rfl, rfl, rfl, by decide +kernel, rfl, by decide +kernel, by decide +kernel⟩
abbrev N__law_word : List Str := ["caught"]
theorem ok__law_word {f CF CB CL : Addr} {fd : FuncData} (F : Fun K "_law_word" "_law_word" s__law_word f fd) (T : Blt mg) (Z : Kinds K mg CF CB CL) : FnOk P w K mg base CX0 1 f fd ["caught"] (spWord CB CL) := by
  have g_BadBits := Z.gS
  have g_BadLayout := Z.gW
  refine F.ok sc__law_word (fun vs H Q E h => ?_) (fun cdv A outer s H vs Q E hr h => ?_)
  · obtain ⟨x, rfl, _⟩ := h
    rfl
  · obtain ⟨x, rfl, h⟩ := h
    refine ⟨_, (pss_cons (ps_if (pt_val (pe_callB (call_or call_isXT call_isiT) (by rfl) T.n_isinstance (by decide +kernel) (pa_cons (pv 0) (pa_cons (pe_tup (pa_cons (pe_glob (v := .ref _) (by rfl) g_BadBits rfl) (pa_cons (pe_glob (v := .ref _) (by rfl) g_BadLayout rfl) pa_nil))) pa_nil)))) (pss_one (ps_ret (pe_tup (pa_cons (pe_ifExp (pt_val (pe_callB (call_or call_isX call_isi) (by rfl) T.n_isinstance (by decide +kernel) (pa_cons (pv 0) (pa_cons (pe_glob (v := .ref _) (by rfl) g_BadBits rfl) pa_nil)))) pe_str pe_str) (pa_cons (pe_xa (pv 0)) pa_nil))))) pss_nil)
  (pss_one (ps_ret (pe_ifExp (pt_cmpR op_isN (pv 0) pe_non (nomark _)) pe_non (pe_tup (pa_cons pe_str (pa_cons pe_non pa_nil))))))), ?_⟩
    rcases h with ⟨rfl, k⟩ | ⟨a, D, dd, part, rfl, ha, hd, ⟨rfl, k⟩ | ⟨rfl, k⟩⟩
    · refine ⟨_, rfl, (by show 2 ≤ sizeLine; decide), fun tp htp => ?_⟩
      refine .inr ⟨.non, tp, _, .type "NoneType", [.ref CB, .ref CL], false, rfl, upd_same, .cons (.own CB) (.cons (.own CL) .nil), .base .non, kitA0 Z.zS Z.zW, false, rfl, ?_⟩
      exact ⟨_, rfl, rfl, _, rfl, k _ (same_new htp)⟩
    · refine ⟨_, rfl, (by show 2 ≤ sizeLine; decide), fun tp htp => ?_⟩
      have S1 := same_new (o := .tup [V.ref CB, .ref CL]) htp
      have a1 := S1 _ _ ha
      have d1 := S1 _ _ hd
      refine .inl ⟨a, CB, some dd, tp, _, [.ref CB, .ref CL], true, rfl, Z.rS.ec, a1, (fun z e => by cases e; exact ⟨_, d1⟩), upd_same, .cons (.own CB) (.cons (.own CL) .nil), kitA1 Z.kSS, true, rfl, ?_⟩
      refine ⟨_, rfl, .inl ⟨a, CB, some dd, .ref CB, .ref CB, true, rfl, Z.rS.ec, a1, (fun z e => by cases e; exact ⟨_, d1⟩), .own CB, Z.kSS, ?_⟩⟩
      exact ⟨true, rfl, _, rfl, a, CB, dd, _, _, rfl, Z.rS.xf, Z.rS.no, a1, d1, rfl, (by show 2 ≤ sizeLine; decide), fun p hp => k p _ (S1.trans (same_new hp)) upd_same⟩
    · refine ⟨_, rfl, (by show 2 ≤ sizeLine; decide), fun tp htp => ?_⟩
      have S1 := same_new (o := .tup [V.ref CB, .ref CL]) htp
      have a1 := S1 _ _ ha
      have d1 := S1 _ _ hd
      refine .inl ⟨a, CL, some dd, tp, _, [.ref CB, .ref CL], true, rfl, Z.rW.ec, a1, (fun z e => by cases e; exact ⟨_, d1⟩), upd_same, .cons (.own CB) (.cons (.own CL) .nil), kitA2 Z.kWS Z.kWW, true, rfl, ?_⟩
      refine ⟨_, rfl, .inl ⟨a, CL, some dd, .ref CB, .ref CB, false, rfl, Z.rW.ec, a1, (fun z e => by cases e; exact ⟨_, d1⟩), .own CB, Z.kWS, ?_⟩⟩
      exact ⟨false, rfl, _, rfl, a, CL, dd, _, _, rfl, Z.rW.xf, Z.rW.no, a1, d1, rfl, (by show 2 ≤ sizeLine; decide), fun p hp => k p _ (S1.trans (same_new hp)) upd_same⟩
end
def TTheard (CB CL : Addr) : List V → (XK → Hp → VK → Prop) → Hp → VK → Prop := fun vs tl H Q => vs = [] ∧
  tl (fun cls d H' => ∃ (dd : Addr) (part : Str), d = some dd ∧ H' dd = some (.xd [(("part" : Str), .str part)]) ∧
    ((cls = .ref CB ∧ ∀ p H'', Same H' H'' → H'' p = some (.tup [.str "bits", .str part]) → Q (.ref p) H'') ∨ (cls = .ref CL ∧ ∀ p H'', Same H' H'' → H'' p = some (.tup [.str "layout", .str part]) → Q (.ref p) H''))) H fun _ H' => ∀ H'', Same H' H'' → Q .non H''
section
theorem sc__law_heard : FnScope ["ask", "caught", "error"] ["ask"] (defScope s__law_heard) := ⟨rfl, rfl, rfl, by decide +kernel, rfl, by decide +kernel, by decide +kernel⟩
abbrev N__law_heard : List Str := ["ask", "caught", "error"]
theorem heard_gives {X : Cx} {g CF CB CL f1 : Addr} {fd1 : FuncData} {cdg : Value} {q : Str} {kk : Nat} (Z : Kinds X.K X.mg CF CB CL) (T : Blt X.mg) (hk : 1 ≤ kk) (D__law_word : Df X.K X.mg "_law_word" s__law_word ["caught"] f1 fd1) (G__law_word : FnOk X.prog X.w X.K X.mg X.base CX0 1 f1 fd1 ["caught"] (spWord CB CL)) : Gives X ["ask", "caught", "error"] "_law_heard" (defScope s__law_heard) g cdg (defBody s__law_heard) "ask" q kk (TTheard CB CL) := by
  intro f c' vs s H Q tl hr act hc mono h
  obtain ⟨rfl, h⟩ := h
  have g_FlipError := Z.gF
  refine ⟨_, (pss_cons (ps_set (i := 1) sc__law_heard.nd rfl (Or.inl rfl) pe_non)
  (pss_cons (ps_try_keep (i := 2) (j := 1) (Wout := fun _ _ _ _ => False) rfl rfl rfl sc__law_heard.nd rfl rfl rfl rfl ⟨by rfl, by decide, .inl g_FlipError⟩ L2.takes0 (fun W pn xe tk _ => (pss_one (ps_expr (act W pn xe _ _ tk)))))
  (pss_one (ps_ret (pe_call G__law_word (hr.mono hk) (by rfl) D__law_word.g D__law_word.F.kp D__law_word.b .nil pass0 (pa_cons (pv 1) pa_nil)))))), ?_⟩
  refine ⟨rfl, hc, ?_⟩
  refine mono _ _ _ _ _ ?_ ?_ h
  rotate_left
  · intro v H' k
    exact ⟨_, rfl, _, rfl, .inl ⟨rfl, k⟩⟩
  · rintro cls d H' ⟨dd, part, rfl, hd, ⟨rfl, k⟩ | ⟨rfl, k⟩⟩
    · refine ⟨true, Z.rS.ex, fun _ a ha => ?_, fun z => nomatch z⟩
      have nad : dd ≠ a := ne_of_none hd ha
      have hd1 : (upd H' a (ExA (.ref CB) (some dd) a)) dd = some (.xd [(("part" : Str), .str part)]) := by
        rw [upd_ne nad]
        exact hd
      have S0 := same_new (o := ExA (.ref CB) (some dd) a) ha
      exact ⟨_, rfl, _, rfl, .inr ⟨a, CB, dd, part, rfl, upd_same, hd1, .inl ⟨rfl, fun p H'' S e => k p H'' (S0.trans S) e⟩⟩⟩
    · refine ⟨true, Z.rW.ex, fun _ a ha => ?_, fun z => nomatch z⟩
      have nad : dd ≠ a := ne_of_none hd ha
      have hd1 : (upd H' a (ExA (.ref CL) (some dd) a)) dd = some (.xd [(("part" : Str), .str part)]) := by
        rw [upd_ne nad]
        exact hd
      have S0 := same_new (o := ExA (.ref CL) (some dd) a) ha
      exact ⟨_, rfl, _, rfl, .inr ⟨a, CL, dd, part, rfl, upd_same, hd1, .inr ⟨rfl, fun p H'' S e => k p H'' (S0.trans S) e⟩⟩⟩
end
def Kq (p h : Addr) (H H' : Hp) : Prop := ∀ q o, H q = some o → q ≠ p → q ≠ h → (∀ ps, o ≠ .tbl ps) → H' q = some o
theorem Kq.refl {p h : Addr} {H : Hp} : Kq p h H H := fun _ _ e _ _ _ => e
theorem Kq.trans {p h : Addr} {H H1 H2 : Hp} (a : Kq p h H H1) (b : Kq p h H1 H2) : Kq p h H H2 := fun q o e n m t => b q o (a q o e n m t) n m t
theorem Kq.same {p h : Addr} {H H' : Hp} (s : Same H H') : Kq p h H H' := fun q o e _ _ _ => s q o e
theorem Kq.ext {p h : Addr} {H H' : Hp} (s : ExtN H H') : Kq p h H H' := fun q o e _ _ t => s q o e t
theorem Kq.but {p h : Addr} {H H' : Hp} (s : But p H H') : Kq p h H H' := fun q o e n _ _ => s q o e n
theorem Kq.upd {p h : Addr} {H : Hp} {o : HO} : Kq p h H (upd H h o) := fun q u e _ n _ => by
  rw [upd_ne n]
  exact e
theorem res_tup2 {H H' : Hp} (h : ∀ t xs, H t = some (.tup xs) → H' t = some (.tup xs)) : ∀ {vs : List V} {ks : List (Option (Str × Str))}, Res H vs ks → Res H' vs ks
  | [], [], _ => trivial
  | v :: r, none :: ks, ⟨a, b⟩ => ⟨a, res_tup2 h b⟩
  | v :: r, some k :: ks, ⟨⟨t, e, ht⟩, b⟩ => ⟨⟨t, e, h _ _ ht⟩, res_tup2 h b⟩
/-- what was heard so far, in the list at h; draws may come between -/
structure Lq (T : List (Addr × Str)) (p b0 n h : Addr) (H0 H : Hp) (vs : List V) (ks : List (Option (Str × Str))) : Prop where
  kp : Kq p h H0 H
  mid : Mid T p b0 n H
  at' : H h = some (.lst vs)
  n1 : h ≠ p
  n2 : b0 ≠ h
  res : Res H vs ks
theorem Lq.step {T : List (Addr × Str)} {p b0 n m h : Addr} {H0 H Ha Hb : Hp} {vs : List V} {ks : List (Option (Str × Str))} {v : V} {k : Option (Str × Str)} (s : Lq T p b0 n h H0 H vs ks) (ea : ExtN H Ha) (B : Kq p h Ha Hb) (at1 : Hb h = some (.lst vs)) (M : Mid T p b0 m Hb) (e : Ent Hb v k) :
    Hb h = some (.lst vs) ∧ Lq T p b0 m h H0 (upd Hb h (.lst (vs ++ [v]))) (vs ++ [v]) (ks ++ [k]) := by
  have nt : ∀ {t : Addr} {xs : List V}, Hb t = some (.tup xs) → t ≠ h := fun {t xs} e z => by
    rw [z, at1] at e
    cases e
  have na : ∀ {t : Addr} {xs : List V}, H t = some (.tup xs) → t ≠ h ∧ t ≠ p := fun {t xs} e => by
    refine ⟨fun z => ?_, fun z => ?_⟩
    · rw [z, s.at'] at e
      cases e
    · obtain ⟨_, _, _, hp, _⟩ := s.mid.o
      rw [z, hp] at e
      cases e
  refine ⟨at1, ((s.kp.trans (.ext ea)).trans B).trans .upd, M.put at1 s.n1 s.n2, upd_same, s.n1, s.n2, ?_⟩
  have r1 : Res Hb vs ks := res_tup2 (fun t xs z => B _ _ (ea _ _ z fun _ y => nomatch y) (na z).2 (na z).1 fun _ y => nomatch y) s.res
  refine Res.snoc ?_ (res_tup2 (fun t xs z => by rw [upd_ne (nt z)]; exact z) r1)
  cases k with
  | none => exact e
  | some k =>
    obtain ⟨t, ev, ht⟩ := e
    exact ⟨t, ev, by rw [upd_ne (nt ht)]; exact ht⟩
theorem Lq.sstep {T : List (Addr × Str)} {p b0 n h : Addr} {H0 H Ha Hb : Hp} {vs : List V} {ks : List (Option (Str × Str))} {v : V} {k : Option (Str × Str)} (s : Lq T p b0 n h H0 H vs ks) (ea : ExtN H Ha) (Ta : Tabs T Ha) (S : Same Ha Hb) (e : Ent Hb v k) :
    Hb h = some (.lst vs) ∧ Lq T p b0 n h H0 (upd Hb h (.lst (vs ++ [v]))) (vs ++ [v]) (ks ++ [k]) :=
  s.step ea (.same S) (S _ _ (ea _ _ s.at' fun _ z => nomatch z)) ((s.mid.ext ea Ta).same S) e
theorem Lq.begin {T : List (Addr × Str)} {p b0 n h : Addr} {H0 H : Hp} {v : V} {k : Option (Str × Str)} (S : Kq p h H0 H) (m : Mid T p b0 n H) (hh : H h = none) (e : Ent H v k) : Lq T p b0 n h H0 (upd H h (.lst [v])) [v] [k] :=
  ⟨S.trans .upd, m.same (same_new hh), upd_same, m.pD hh, m.bD hh, ⟨e.keep (.same (same_new hh)), trivial⟩⟩
theorem res_new2 {H : Hp} {q : Addr} {a b : Str} {vs : List V} {ks : List (Option (Str × Str))} (h : H q = none) (r : Res H vs ks) : Res (upd H q (.tup [.str a, .str b])) (vs ++ [.ref q]) (ks ++ [some (a, b)]) :=
  Res.snoc (k := some (a, b)) ⟨q, rfl, upd_same⟩ (r.keep (.same (same_new h)))
end K70
namespace OB
open PySem PySem.Spec PyProof.Rows L2
/-- keywords at a def that has defaults and nothing keyword-only: G lays what is written, the defaults and the keywords' values in the parameters' order -/
theorem kwd_fill {K : PySem.W.Frag} {y q : Str} {pa : Arguments} {bo : List Stmt} {sc : Scope} {dv : List V} {a : Addr} {fn : FuncData} {qs names : List Str} {m : Nat}
    (G : {α : Type} → List α → List α → List α → List α) (F : FunD K y q pa bo sc dv [] a fn) (ne : dv ≠ [])
    (rel : ∀ {as bs cs : List V} {us ds ws : List Value}, Vals as us → Vals bs ds → Vals cs ws → Vals (G as bs cs) (G us ds ws))
    (bd : ∀ (T : Addr) (v1 v2 v3 : Value) (o : Option Addr) (v4 v5 : Value) (us ds ws : List Value), us.length = m ∧ ds.length = dv.length ∧ ws.length = names.length →
      ∃ k, bindArgs (PySem.W.fnOf y q pa bo sc (.ref T) v1 v2 v3 o v4 v5) ⟨us, names.zip ws⟩ = seqItems? (.ref T) >>= k ∧ k (some ds.toArray) = pure (qs.zip (G us ds ws))) :
    ∃ ds : List Value, KBn K fn qs m names (fun us ws => G us ds ws) (fun as cs => G as dv cs) := by
  obtain ⟨_, _, d, v1, v2, v3, o, v4, v5, _, e, _, _, hd, _⟩ := F.ex
  subst e
  obtain ⟨T, ob, ds, cnt, rfl, look, dat, rd⟩ : ∃ (T : Addr) (ob : Obj) (ds : List Value) (cnt : Nat), d = .ref T ∧ K.lookup T = some ob ∧ ob.data = .seq ds.toArray cnt ∧ Vals dv ds := by
    rcases hd with z | ⟨_, z⟩
    · exact absurd z.1 ne
    · exact z
  refine ⟨ds, fun s us ws X n1 n2 => L2.BindsTo.of_looks fun M => ?_, fun r1 r2 => rel r1 rd r2⟩
  obtain ⟨k, g1, g2⟩ := bd T v1 v2 v3 o v4 v5 us ds ws ⟨n1, rd.length.symm, n2⟩
  rw [g1]
  exact looks_items X look dat (.of_pure g2)
/-- the same where every parameter is written -/
theorem kwd_full {K : PySem.W.Frag} {y q : Str} {pa : Arguments} {bo : List Stmt} {sc : Scope} {dv : List V} {a : Addr} {fn : FuncData} {qs names : List Str} {G : List Value → List Value → List Value} {GV : List V → List V → List V}
    (F : FunD K y q pa bo sc dv [] a fn) (ne : dv ≠ []) (rel : ∀ {as cs : List V} {us ws : List Value}, Vals as us → Vals cs ws → Vals (GV as cs) (G us ws))
    (bd : ∀ (T : Addr) (v1 v2 v3 : Value) (o : Option Addr) (v4 v5 : Value) (us ds ws : List Value), (G us ws).length = qs.length ∧ ds.length = dv.length →
      ∃ k, bindArgs (PySem.W.fnOf y q pa bo sc (.ref T) v1 v2 v3 o v4 v5) ⟨us, names.zip ws⟩ = seqItems? (.ref T) >>= k ∧ k (some ds.toArray) = pure (qs.zip (G us ws))) : KBinds K fn qs names G GV := by
  obtain ⟨_, _, d, v1, v2, v3, o, v4, v5, _, e, _, _, hd, _⟩ := F.ex
  subst e
  obtain ⟨T, ob, ds, cnt, rfl, look, dat, rd⟩ : ∃ (T : Addr) (ob : Obj) (ds : List Value) (cnt : Nat), d = .ref T ∧ K.lookup T = some ob ∧ ob.data = .seq ds.toArray cnt ∧ Vals dv ds := by
    rcases hd with z | ⟨_, z⟩
    · exact absurd z.1 ne
    · exact z
  refine ⟨fun s us ws X n1 => L2.BindsTo.of_looks fun M => ?_, fun r1 r2 => rel r1 r2⟩
  obtain ⟨k, g1, g2⟩ := bd T v1 v2 v3 o v4 v5 us ds ws ⟨n1, rd.length.symm⟩
  rw [g1]
  exact looks_items X look dat (.of_pure g2)
end OB
namespace K70
open PySem PySem.Spec PyProof.Rows L2 OB
abbrev TabF (K : PySem.W.Frag) (f : Addr) (fd : FuncData) : Prop := FunD K "table_of" "table_of" (defArgs s_table_of) (defBody s_table_of) (defScope s_table_of) [V.non] [] f fd
theorem tab_one {K : PySem.W.Frag} {f : Addr} {fd : FuncData} (F : TabF K f fd) : ∃ ds, Vals [V.non] ds ∧ Binds K fd ["layout", "words"] ds :=
  F.binds1 1 0 (by decide) rfl fun T v1 v2 v3 o v4 v5 us its h1 h2 => by
    match us, its, h1, h2 with
    | [u], [d], _, _ => exact ⟨_, rfl, rfl⟩
theorem tab_two {K : PySem.W.Frag} {f : Addr} {fd : FuncData} (F : TabF K f fd) : Binds K fd ["layout", "words"] [] := by
  obtain ⟨ds, r, b⟩ := F.binds1 (ps := ["layout", "words"]) 2 1 (by decide) rfl fun T v1 v2 v3 o v4 v5 us its h1 h2 => by
    match us, its, h1, h2 with
    | [u, v], [d], _, _ => exact ⟨_, rfl, rfl⟩
  cases r
  exact b
theorem tab_kw {K : PySem.W.Frag} {f : Addr} {fd : FuncData} (F : TabF K f fd) : KBn K fd ["layout", "words"] 1 ["words"] (fun us ws => us ++ ws) (fun as cs => as ++ cs) := by
  obtain ⟨ds, b⟩ := kwd_fill (qs := ["layout", "words"]) (names := ["words"]) (m := 1) (fun {α} (us : List α) (_ : List α) (ws : List α) => us ++ ws) F (by decide) (fun r1 _ r3 => r1.append r3) fun T v1 v2 v3 o v4 v5 us ds ws h => by
    obtain ⟨h1, h2, h3⟩ := h
    match us, ds, ws, h1, h2, h3 with
    | [u], [d], [x], _, _, _ => exact ⟨_, rfl, rfl⟩
  exact b
theorem tab_all {K : PySem.W.Frag} {f : Addr} {fd : FuncData} (F : TabF K f fd) : KBinds K fd ["layout", "words"] ["words", "layout"] (kg [1, 0]) (kg [1, 0]) :=
  kwd_full F (by decide) kg_vals fun T v1 v2 v3 o v4 v5 us ds ws h => by
    obtain ⟨hl, h2⟩ := h
    match ds, h2 with
    | [d], _ =>
      rcases us with _ | ⟨a, us⟩
      · rcases ws with _ | ⟨x0, _ | ⟨x1, ws⟩⟩
        · exact absurd (show 0 = 2 from hl) (by decide)
        · exact absurd (show 1 = 2 from hl) (by decide)
        · exact ⟨_, rfl, rfl⟩
      · exact absurd (show 0 = 2 from hl) (by decide)
/-- table_of as the law knows it -/
structure DfT (K : PySem.W.Frag) (mg : Str → Option Value) (f : Addr) (fd : FuncData) : Prop where
  F : TabF K f fd
  g : mg "table_of" = some (.ref f)
theorem DfT.b {K : PySem.W.Frag} {mg : Str → Option Value} {f : Addr} {fd : FuncData} (D : DfT K mg f fd) : Binds K fd ["layout", "words"] [] := tab_two D.F
end K70
namespace K70
open PySem PySem.Spec PyProof.Rows L2 OB SkE LamX
def Kp (p : Addr) (H H' : Hp) : Prop := ∀ q o, H q = some o → q ≠ p → (∀ ps, o ≠ .tbl ps) → H' q = some o
theorem Kp.refl {p : Addr} {H : Hp} : Kp p H H := fun _ _ e _ _ => e
theorem Kp.trans {p : Addr} {H H1 H2 : Hp} (a : Kp p H H1) (b : Kp p H1 H2) : Kp p H H2 := fun q o e n t => b q o (a q o e n t) n t
theorem Kp.same {p : Addr} {H H' : Hp} (s : Same H H') : Kp p H H' := fun q o e _ _ => s q o e
theorem Kp.ext {p : Addr} {H H' : Hp} (s : ExtN H H') : Kp p H H' := fun q o e _ t => s q o e t
theorem Kp.upd {p : Addr} {H : Hp} {o : HO} : Kp p H (upd H p o) := fun q u e n _ => by
  rw [upd_ne n]
  exact e
theorem res_tup {H H' : Hp} (h : ∀ t xs, H t = some (.tup xs) → H' t = some (.tup xs)) : ∀ {vs : List V} {ks : List (Option (Str × Str))}, Res H vs ks → Res H' vs ks
  | [], [], _ => trivial
  | v :: r, none :: ks, ⟨a, b⟩ => ⟨a, res_tup h b⟩
  | v :: r, some k :: ks, ⟨⟨t, e, ht⟩, b⟩ => ⟨⟨t, e, h _ _ ht⟩, res_tup h b⟩
/-- what was heard so far, in the list at h -/
structure Lp (T : List (Addr × Str)) (p b0 n h : Addr) (H0 H : Hp) (vs : List V) (ks : List (Option (Str × Str))) : Prop where
  kp : Kp h H0 H
  mid : Mid T p b0 n H
  at' : H h = some (.lst vs)
  n1 : h ≠ p
  n2 : b0 ≠ h
  res : Res H vs ks
theorem Lp.step {T : List (Addr × Str)} {p b0 n h : Addr} {H0 H Ha Hb : Hp} {vs : List V} {ks : List (Option (Str × Str))} {v : V} {k : Option (Str × Str)} (s : Lp T p b0 n h H0 H vs ks) (ea : ExtN H Ha) (Ta : Tabs T Ha) (S : Same Ha Hb) (e : Ent Hb v k) :
    Hb h = some (.lst vs) ∧ Lp T p b0 n h H0 (upd Hb h (.lst (vs ++ [v]))) (vs ++ [v]) (ks ++ [k]) := by
  have hb := S _ _ (ea _ _ s.at' fun _ z => nomatch z)
  have nt : ∀ {t : Addr} {xs : List V}, Hb t = some (.tup xs) → t ≠ h := fun {t xs} e z => by
    rw [z, hb] at e
    cases e
  refine ⟨hb, (s.kp.trans (.ext ea)).trans ((Kp.same S).trans .upd), ((s.mid.ext ea Ta).same S).put hb s.n1 s.n2, upd_same, s.n1, s.n2, ?_⟩
  have r1 : Res Hb vs ks := res_tup (fun t xs z => S _ _ (ea _ _ z fun _ y => nomatch y)) s.res
  refine Res.snoc ?_ (res_tup (fun t xs z => by rw [upd_ne (nt z)]; exact z) r1)
  cases k with
  | none => exact e
  | some k =>
    obtain ⟨t, ev, ht⟩ := e
    exact ⟨t, ev, by rw [upd_ne (nt ht)]; exact ht⟩
theorem Lp.begin {T : List (Addr × Str)} {p b0 n h t : Addr} {H0 H : Hp} {k : Str × Str} (S : Kp h H0 H) (m : Mid T p b0 n H) (hh : H h = none) (e : Ent H (.ref t) (some k)) : Lp T p b0 n h H0 (upd H h (.lst [.ref t])) [.ref t] [some k] :=
  ⟨S.trans .upd, m.same (same_new hh), upd_same, m.pD hh, m.bD hh, ⟨e.keep (.same (same_new hh)), trivial⟩⟩
theorem Lp.empty {T : List (Addr × Str)} {p b0 n h : Addr} {H0 H : Hp} (S : Kp h H0 H) (m : Mid T p b0 n H) (hh : H h = none) : Lp T p b0 n h H0 (upd H h (.lst [])) [] [] :=
  ⟨S.trans .upd, m.same (same_new hh), upd_same, m.pD hh, m.bD hh, trivial⟩
theorem res_new {H : Hp} {q : Addr} {a b : Str} {vs : List V} {ks : List (Option (Str × Str))} (h : H q = none) (r : Res H vs ks) : Res (upd H q (.tup [.str a, .str b])) (vs ++ [.ref q]) (ks ++ [some (a, b)]) :=
  Res.snoc (k := some (a, b)) ⟨q, rfl, upd_same⟩ (r.keep (.same (same_new h)))
theorem lay_ext {H H' : Hp} {C x : Addr} {b : Nat} {ms : List (Option Nat)} (h : IsLay H C x b ms) (e : ExtN H H') : IsLay H' C x b ms := by
  obtain ⟨dx, fs, t, h1, h2, h3, h4⟩ := h
  exact ⟨dx, fs, t, e _ _ h1 (fun _ z => nomatch z), h2, h3, e _ _ h4 (fun _ z => nomatch z)⟩
theorem IsLay.kq {H H' : Hp} {C x p h : Addr} {b : Nat} {ms : List (Option Nat)} {xs : List V} (hl : IsLay H C x b ms) (hh : H h = none) (hp : H p = some (.lst xs)) (s : Kq p h H H') : IsLay H' C x b ms := by
  obtain ⟨dx, fs, t, h1, h2, h3, h4⟩ := hl
  exact ⟨dx, fs, t, s _ _ h1 (ne_of h1 hp (by intro z; cases z)) (ne_of_none h1 hh) (fun _ z => nomatch z), h2, h3, s _ _ h4 (ne_of h4 hp (by intro z; cases z)) (ne_of_none h4 hh) (fun _ z => nomatch z)⟩
def LQ : Str := (envOfC "law" (defScope s_law) 0 0 .none).qual ++ "<lambda>"
theorem table_mono {K : PySem.W.Frag} {C CL CB : Addr} : SpMono (spTable K C CL CB) := fun vs H Q1 Q2 E1 E2 hE hQ h => by
  obtain ⟨x, y, e, h⟩ := h
  refine ⟨x, y, e, ?_⟩
  rcases h with ⟨n, r⟩ | ⟨a, b, ms, e1, h1, h2, h⟩
  · exact .inl ⟨n, fun d hd => hE _ _ _ (r d hd)⟩
  refine .inr ⟨a, b, ms, e1, h1, h2, ?_⟩
  rcases h with ⟨n, k⟩ | ⟨n, l, r⟩ | ⟨sh, n, l, k⟩
  · exact .inl ⟨n, fun q H' a b c => hQ _ _ (k q H' a b c)⟩
  · exact .inr (.inl ⟨n, l, fun H1 S d hd => hE _ _ _ (r H1 S d hd)⟩)
  · exact .inr (.inr ⟨sh, n, l, fun q H' a b c => hQ _ _ (k q H' a b c)⟩)
def datS (ss : List Str) : PyData := .tuple (ss.map PyData.str)
theorem dp_strs {K : PySem.W.Frag} {H : Hp} : ∀ ss : List Str, DpAll K H (ss.map V.str) (ss.map PyData.str)
  | [] => .nil
  | s :: r => .cons (.str s) (dp_strs r)
theorem str_ok {s : Str} (h : ∀ c ∈ s.cps.toList, c < 256) : PyData.strOk s = true := by
  unfold PyData.strOk
  rw [Array.all_eq_true']
  intro c hc
  have := h c (Array.mem_toList_iff.mpr hc)
  exact decide_eq_true (by omega)
theorem flat_strs : ∀ ss : List Str, (∀ s ∈ ss, ∀ c ∈ s.cps.toList, c < 256) → PyData.canLayAll0 (ss.map PyData.str) = true ∧ PyData.depthAll (ss.map PyData.str) ≤ 1
  | [], _ => by simp [PyData.canLayAll0, PyData.depthAll]
  | m :: r, h => by
    obtain ⟨h1, h2⟩ := flat_strs r fun x hx => h x (List.mem_cons_of_mem _ hx)
    refine ⟨by simp [PyData.canLayAll0, PyData.canLay0, h1, str_ok (h m List.mem_cons_self)], ?_⟩
    simp only [List.map_cons, PyData.depthAll, PyData.depth]
    omega
theorem nice_strs : ∀ ss : List Str, (∀ s ∈ ss, ∀ c ∈ s.cps.toList, c < 256) → niceAll (ss.map PyData.str) = true
  | [], _ => by simp [niceAll]
  | s :: r, h => by
    have h2 := nice_strs r fun x hx => h x (List.mem_cons_of_mem _ hx)
    have h1 : (s.cps.toList.all fun c => decide (c < 1114112)) = true := List.all_eq_true.mpr fun c hc => decide_eq_true (by have := h s List.mem_cons_self c hc; omega)
    show (nice (.str s) && niceAll (r.map PyData.str)) = true
    rw [h2, Bool.and_true]
    simpa [nice] using h1
theorem sz_strs {k : Nat} : ∀ ss : List Str, (∀ s ∈ ss, s.length ≤ k) → szAll (ss.map PyData.str) ≤ (10 * k + 4) * ss.length
  | [], _ => by simp [szAll]
  | s :: r, h => by
    have ih := sz_strs r fun x hx => h x (List.mem_cons_of_mem _ hx)
    have := h s List.mem_cons_self
    simp only [List.map_cons, szAll, List.length_cons, sz, Nat.mul_succ]
    omega
theorem app_chars {a b : Str} (h1 : ∀ c ∈ a.cps.toList, c < 256) (h2 : ∀ c ∈ b.cps.toList, c < 256) : ∀ c ∈ (a ++ b).cps.toList, c < 256 := fun c hc => by
  have hc : c ∈ (a.cps ++ b.cps).toList := hc
  rw [Array.toList_append] at hc
  rcases List.mem_append.mp hc with z | z
  · exact h1 c z
  · exact h2 c z
theorem sg_chars : ∀ m : Option Nat, ∀ c ∈ (sg m).cps.toList, c < 256 := fun m c hc => by
  cases m with
  | none =>
    have : ∀ c ∈ (sg none).cps.toList, c < 256 := by decide +kernel
    exact this c hc
  | some n =>
    have hc : c ∈ [SG.cps.getD n 0] := hc
    rw [List.mem_singleton.mp hc]
    by_cases h : n < 64
    · exact (by decide +kernel : ∀ n < 64, SG.cps.getD n 0 < 256) n h
    · have : SG.cps.getD n 0 = 0 := by
        have hs : SG.cps.size = 64 := by decide +kernel
        simp [Array.getD, hs, h]
      rw [this]
      decide
theorem cell_chars (ms : List (Option Nat)) (sh : List Nat) (w : Nat) : ∀ c ∈ (cell ms sh w).cps.toList, c < 256 := fun c hc => by
  unfold cell at hc
  by_cases h : w ∈ sh
  · rw [if_pos h] at hc; exact sg_chars _ c hc
  · rw [if_neg h] at hc
    have : ∀ c ∈ (("." : Str)).cps.toList, c < 256 := by decide +kernel
    exact this c hc
theorem catS_chars : ∀ l : List Str, (∀ s ∈ l, ∀ c ∈ s.cps.toList, c < 256) → ∀ c ∈ (catS l).cps.toList, c < 256 := fun l h => by
  have gen : ∀ (l : List Str) (a : Str), (∀ c ∈ a.cps.toList, c < 256) → (∀ s ∈ l, ∀ c ∈ s.cps.toList, c < 256) → ∀ c ∈ (l.foldl (· ++ ·) a).cps.toList, c < 256 := by
    intro l
    induction l with
    | nil => intro a h1 _; exact h1
    | cons x r ih => intro a h1 h2; exact ih _ (app_chars h1 (h2 x List.mem_cons_self)) fun y hy => h2 y (List.mem_cons_of_mem _ hy)
  exact gen l "" (by decide +kernel) h
theorem tab_data {b : Nat} {ms : List (Option Nat)} (sh : List Nat) (b1 : 1 ≤ b) (b8 : b ≤ 8) : ∃ DD : PyData, (∀ {K' : PySem.W.Frag} {H' : Hp} {q : Addr}, H' q = some (.tup ((tabT b ms sh).map V.str)) → Dp K' H' (.ref q) DD) ∧ nice DD = true ∧ DD.canLay0 = true ∧ DD.depth ≤ 60 ∧ sz DD ≤ 16000000 ∧ SeqAt.shaped DD = true := by
  have ch : ∀ s ∈ tabT b ms sh, ∀ c ∈ s.cps.toList, c < 256 := fun s hs => by
    obtain ⟨h, _, rfl⟩ := List.mem_map.mp hs
    refine catS_chars _ fun y hy => ?_
    obtain ⟨l, _, rfl⟩ := List.mem_map.mp hy
    exact cell_chars _ _ _
  have wb : wd b ≤ 8 ∧ b - wd b ≤ 8 := by unfold wd; omega
  have ln : ∀ s ∈ tabT b ms sh, s.length ≤ 256 := fun s hs => by
    obtain ⟨h, _, rfl⟩ := List.mem_map.mp hs
    rw [catS_len _ fun x hx => by
      obtain ⟨z, _, rfl⟩ := List.mem_map.mp hx
      exact cell_len _ _ _]
    unfold rowT
    rw [List.length_map, (row_facts (wd b) (by omega)).1]
    exact pow8 wb.1
  have cnt : (tabT b ms sh).length ≤ 256 := by
    unfold tabT
    rw [List.length_map, (row_facts (b - wd b) (by omega)).1]
    exact pow8 wb.2
  obtain ⟨f1, f2⟩ := flat_strs (tabT b ms sh) ch
  have n1 := nice_strs (tabT b ms sh) ch
  refine ⟨datS (tabT b ms sh), fun h => Dp.tup (SqT.of h) (dp_strs _), ?_, ?_, ?_, ?_, ?_⟩
  · simp only [datS, nice, n1]
  · simp only [datS, PyData.canLay0, f1]
  · simp only [datS, PyData.depth]
    omega
  · have e := sz_strs (tabT b ms sh) ln
    simp only [datS, sz]
    have : (10 * 256 + 4) * (tabT b ms sh).length ≤ (10 * 256 + 4) * 256 := Nat.mul_le_mul_left _ cnt
    omega
  · unfold SeqAt.shaped
    rw [Bool.and_eq_true]
    refine ⟨by simp [datS, PyData.canLay0, f1], decide_eq_true ?_⟩
    simp only [datS, PyData.depth]
    omega
theorem tab_rev {b : Nat} {ms : List (Option Nat)} {sh : List Nat} : tabT b ms sh.reverse = tabT b ms sh := by
  unfold tabT rowT cell
  simp only [List.mem_reverse]
theorem in_zero {b : Nat} : inB (some 0) (some (hiM b)) (V.int 0) = true := by
  have : hiOk (some (hiM b)) 0 = true := by
    show decide ((0 : Int) ≤ hiM b) = true
    exact decide_eq_true (by unfold hiM; omega)
  show (loOk (some 0) 0 && hiOk (some (hiM b)) 0) = true
  rw [this]
  rfl
theorem in_top {b : Nat} : inB (some 0) (some (hiM b)) (V.int ((2 ^ b : Nat) : Int)) = false := by
  have hp : 0 < 2 ^ b := MS.two_pos _
  have : hiOk (some (hiM b)) ((2 ^ b : Nat) : Int) = false := decide_eq_false (by unfold hiM; omega)
  show (loOk (some 0) ((2 ^ b : Nat) : Int) && hiOk (some (hiM b)) ((2 ^ b : Nat) : Int)) = false
  rw [this, Bool.and_false]
def dueK : List (Option (Str × Str)) := [some ("layout", "layout"), some ("bits", "words"), none]
def spLaw (K : PySem.W.Frag) (Pt : Addr) : Sp := fun vs H Q _ => ∃ (a : Addr) (ns : List Int), vs = [.ref a] ∧ SqL K H a (ns.map V.int) ∧ ns.length ≤ 63 ∧ H Pt = some (.tbl #[]) ∧ ∀ H', Q (.bl true) H'
section
variable {P : Program} {w : World} {K : PySem.W.Frag} {mg : Str → Option Value} {base : Heap}
theorem sc_law : FnScope ["script", "tub", "turn", "bits", "most", "means", "word", "layout", "some", "odd", "none", "heard"] ["script"] (defScope s_law) := ⟨rfl, rfl, rfl, by decide +kernel, rfl, by decide +kernel, by decide +kernel⟩
abbrev N_law : List Str := ["script", "tub", "turn", "bits", "most", "means", "word", "layout", "some", "odd", "none", "heard"]
theorem ok_law {f f1 f2 f3 f4 f5 f6 f8 f9 fI fS C CF CB CL c0 Pt : Addr} {fd1 fd2 fd3 fd4 fd5 fd6 fd8 fd9 fdI fdS : FuncData} {oc kV doc pm ct : Value} {od an : Option Addr} {osl : Array (Option Value)} (T : Blt mg)
    (lk : K.lookup f = some ⟨oc, od, .func (PySem.W.fnOf "law" "law" (defArgs s_law) (defBody s_law) (defScope s_law) .none kV doc pm an (.ref c0) ct), osl⟩) (hcd : PySem.W.codeIn K (.ref c0) "law" = true)
    (TB : TabB base mg c0 Pt) (Z : Kinds K mg CF CB CL) (O_Layout : OwnC K mg "Layout" C fI)
    (D__law_tub : Df K mg "_law_tub" s__law_tub ["script"] f1 fd1) (G__law_tub : FnOk P w K mg base CX0 1 f1 fd1 ["script"] (spLot K)) (D__law_scoop : Df K mg "_law_scoop" s__law_scoop ["tub", "many"] f2 fd2) (D__law_pick : Df K mg "_law_pick" s__law_pick ["tub", "some"] f3 fd3) (D__law_ordered : Df K mg "_law_ordered" s__law_ordered ["many"] f4 fd4) (D_table_of : DfT K mg f5 fd5) (GX_table_of : FnOk P w K mg base (L2.CX P w) 8 f5 fd5 ["layout", "words"] (spTable K C CL CB)) (D__law_due : Df K mg "_law_due" s__law_due ["bits", "means", "shown"] f6 fd6) (G__law_due : FnOk P w K mg base CX0 2 f6 fd6 ["bits", "means", "shown"] spDue)
    (D__law_heard : Df K mg "_law_heard" s__law_heard ["ask"] f8 fd8) (D__law_word : Df K mg "_law_word" s__law_word ["caught"] f9 fd9) (G__law_word : FnOk P w K mg base CX0 1 f9 fd9 ["caught"] (spWord CB CL))
    (b_Layout_init : L2.Binds K fdI ["self", "bits", "means"] []) (G_Layout_init : FnOk P w K mg base CX0 4 fI fdI ["self", "bits", "means"] (spLayInit C)) (ST_Layout : OwnStrC K C fS) (b_Layout_str : L2.Binds K fdS ["self"] []) (G_Layout_str : FnOk P w K mg base CX0 1 fS fdS ["self"] (spLayStr C)) :
    FnG P w K mg base CX0 16 f (PySem.W.fnOf "law" "law" (defArgs s_law) (defBody s_law) (defScope s_law) .none kV doc pm an (.ref c0) ct) ["script"] (spLaw K Pt) := by
  have G_table_of := calm_of GX_table_of
  have G__law_scoop : FnOk P w K mg base CX0 1 f2 fd2 ["tub", "many"] spDraw := ok__law_scoop D__law_scoop.F T
  have G__law_pick : FnOk P w K mg base CX0 2 f3 fd3 ["tub", "some"] spOne := ok__law_pick D__law_pick.F T D__law_scoop
  have G__law_ordered : FnOk P w K mg base CX0 1 f4 fd4 ["many"] spRow := ok__law_ordered D__law_ordered.F T
  obtain ⟨dT1, rT1, bT1⟩ := tab_one D_table_of.F
  obtain ⟨ocH, odH, kVH, docH, pmH, anH, cdvH, ctH, oslH, eH, lkH, hcH⟩ := D__law_heard.F.ex
  subst eH
  refine fnG_of lk hcd sc_law (fun vs H Q E h => ?_) fun A outer s H vs Q E hgd hr h => ?_
  · obtain ⟨a, ns, rfl, _⟩ := h
    rfl
  · obtain ⟨a, ns, rfl, hS, hl, hPt, k⟩ := h
    have t0 : ∃ t, PSs (cxOf CX0 P w K mg base ["script", "tub", "turn", "bits", "most", "means", "word", "layout", "some", "odd", "none", "heard"] "law" (defScope s_law) f (.ref c0) A outer s H E).nox (defBody s_law) t ∧ t { nx := fun _ H' => Q .non H', rt := Q } (L2.start ["script", "tub", "turn", "bits", "most", "means", "word", "layout", "some", "odd", "none", "heard"] [.ref a]) H := by
      refine ⟨_, (pss_cons (ps_set (i := 1) sc_law.nd rfl (Or.inr rfl) (pe_call G__law_tub (hr.mono (by decide)) (by rfl) D__law_tub.g D__law_tub.F.kp D__law_tub.b .nil pass0 (pa_cons (pv 0) pa_nil)))
  (pss_cons (ps_for PassesOwn.never rfl (pi_range1 (by rfl) T.n_range (pa_cons pe_int pa_nil)) (pg_name (i := 2) sc_law.nd rfl (Or.inl rfl)) (pss_cons (ps_set (i := 3) sc_law.nd rfl (Or.inl rfl) (pe_call G__law_pick (hr.mono (by decide)) (by rfl) D__law_pick.g D__law_pick.F.kp D__law_pick.b .nil pass0 (pa_cons (pv 1) (pa_cons (pe_lst (pa_cons pe_int (pa_cons pe_int (pa_cons pe_int (pa_cons pe_int (pa_cons pe_int (pa_cons pe_int (pa_cons pe_int (pa_cons pe_int (pa_cons pe_int pa_nil)))))))))) pa_nil))))
  (pss_cons (ps_set (i := 4) sc_law.nd rfl (Or.inr rfl) (pe_call G__law_pick (hr.mono (by decide)) (by rfl) D__law_pick.g D__law_pick.F.kp D__law_pick.b .nil pass0 (pa_cons (pv 1) (pa_cons (pe_lst (pa_cons pe_int (pa_cons pe_int (pa_cons pe_int (pa_cons pe_int pa_nil))))) pa_nil))))
  (pss_cons (ps_setLc (i := 5) (own := [("word", 6)]) (g := (gName 6)) (tt := tYes) rfl sc_law.nd rfl rfl (sw_true rfl rfl rfl (by decide +kernel)) (pi_range1 (by rfl) T.n_range (pa_cons (pe_op op_oneN pe_int (pv 3)) pa_nil)) (blkOk_by (N := N_law) (own := [("word", 6)]) (sc := defScope s_law) (by decide +kernel)) (fun _ _ _ _ _ => (pg_name (i := 6) sc_law.nd rfl (Or.inl rfl))) (fun _ _ _ _ _ => pts_nil) (fun _ _ _ _ _ => (pe_ifExp (pt_cmpR op_eq (pe_call G__law_scoop (hr.mono (by decide)) (by rfl) D__law_scoop.g D__law_scoop.F.kp D__law_scoop.b .nil pass0 (pa_cons (pv 1) (pa_cons pe_int pa_nil))) pe_int (nomark _)) pe_non (pe_call G__law_pick (hr.mono (by decide)) (by rfl) D__law_pick.g D__law_pick.F.kp D__law_pick.b .nil pass0 (pa_cons (pv 1) (pa_cons (pe_lst (pa_cons (pe_call G__law_scoop (hr.mono (by decide)) (by rfl) D__law_scoop.g D__law_scoop.F.kp D__law_scoop.b .nil pass0 (pa_cons (pv 1) (pa_cons (pv 4) pa_nil))) (pa_cons (pe_op op_sub pe_int (pe_call G__law_scoop (hr.mono (by decide)) (by rfl) D__law_scoop.g D__law_scoop.F.kp D__law_scoop.b .nil pass0 (pa_cons (pv 1) (pa_cons pe_int pa_nil)))) pa_nil))) pa_nil))))))
  (pss_cons (ps_set (i := 7) sc_law.nd rfl (Or.inr rfl) (pe_make O_Layout.made G_Layout_init (hr.mono (by decide)) (by rfl) O_Layout.g b_Layout_init .nil pass0 (pa_cons (pv 3) (pa_cons (pv 5) pa_nil))))
  (pss_cons (ps_if (PW.pt (pw_or (pt_cmpR op_ne (pe_callB (call_reprN hgd hr.units) (by rfl) T.n_repr (by decide +kernel) (pa_cons (pe_call G_table_of (hr.mono (by decide)) (by rfl) D_table_of.g D_table_of.F.kp bT1 rT1 pass0 (pa_cons (pv 7) pa_nil)) pa_nil)) (pe_callB (call_reprN hgd hr.units) (by rfl) T.n_repr (by decide +kernel) (pa_cons (pe_call G__law_due (hr.mono (by decide)) (by rfl) D__law_due.g D__law_due.F.kp D__law_due.b .nil pass0 (pa_cons (pv 3) (pa_cons (pv 5) (pa_cons (pe_listRg rfl (by rfl) T.n_list (prg_1 (by rfl) T.n_range (pe_op op_oneN pe_int (pv 3)))) pa_nil)))) pa_nil)) (nomark _)) (pw_or1 (pt_cmpR (op_neD hr.units) (pe_callKo G_table_of (hr.mono (by decide)) (by rfl) D_table_of.g D_table_of.F.kp (tab_all D_table_of.F) pass0 (pk_cons pe_non (pk_cons (pv 7) pk_nil))) (pe_call G_table_of (hr.mono (by decide)) (by rfl) D_table_of.g D_table_of.F.kp bT1 rT1 pass0 (pa_cons (pv 7) pa_nil)) (nomark _))))) (pss_one (ps_ret pe_bl)) pss_nil)
  (pss_cons (ps_setLc (i := 8) (own := [("word", 6)]) (g := (gName 6)) rfl sc_law.nd rfl rfl (sw_true rfl rfl rfl (by decide +kernel)) (pi_list (pe_call G__law_ordered (hr.mono (by decide)) (by rfl) D__law_ordered.g D__law_ordered.F.kp D__law_ordered.b .nil pass0 (pa_cons (pv 3) pa_nil))) (blkOk_by (N := N_law) (own := [("word", 6)]) (sc := defScope s_law) (by decide +kernel)) (fun _ _ _ _ _ => (pg_name (i := 6) sc_law.nd rfl (Or.inl rfl))) (fun _ _ _ _ _ => (pts_one (pt_cmpR op_eq (pe_call G__law_scoop (hr.mono (by decide)) (by rfl) D__law_scoop.g D__law_scoop.F.kp D__law_scoop.b .nil pass0 (pa_cons (pv 1) (pa_cons pe_int pa_nil))) pe_int (nomark _)))) (fun _ _ _ _ _ => (pv 6)))
  (pss_cons (ps_if (PW.pt (pw_or (pt_cmpR op_ne (pe_callB (call_reprN hgd hr.units) (by rfl) T.n_repr (by decide +kernel) (pa_cons (pe_callN G_table_of (hr.mono (by decide)) (by rfl) D_table_of.g D_table_of.F.kp (tab_kw D_table_of.F) pass0 (pa_cons (pv 7) pa_nil) (pk_cons (pv 8) pk_nil)) pa_nil)) (pe_callB (call_reprN hgd hr.units) (by rfl) T.n_repr (by decide +kernel) (pa_cons (pe_call G__law_due (hr.mono (by decide)) (by rfl) D__law_due.g D__law_due.F.kp D__law_due.b .nil pass0 (pa_cons (pv 3) (pa_cons (pv 5) (pa_cons (pv 8) pa_nil)))) pa_nil)) (nomark _)) (pw_or1 (pt_cmpR (op_neD hr.units) (pe_call G_table_of (hr.mono (by decide)) (by rfl) D_table_of.g D_table_of.F.kp D_table_of.b .nil pass0 (pa_cons (pv 7) (pa_cons (pe_callTy call_tuple_of (by rfl) T.n_tuple (by decide +kernel) (pa_cons (pe_revL (pv 8)) pa_nil)) pa_nil))) (pe_call G_table_of (hr.mono (by decide)) (by rfl) D_table_of.g D_table_of.F.kp D_table_of.b .nil pass0 (pa_cons (pv 7) (pa_cons (pv 8) pa_nil))) (nomark _))))) (pss_one (ps_ret pe_bl)) pss_nil)
  (pss_cons (ps_set (i := 9) sc_law.nd rfl (Or.inr rfl) (pe_call G__law_pick (hr.mono (by decide)) (by rfl) D__law_pick.g D__law_pick.F.kp D__law_pick.b .nil pass0 (pa_cons (pv 1) (pa_cons (pe_lst (pa_cons pe_int (pa_cons pe_str (pa_cons (pe_lst (pa_cons (pe_op op_oneN pe_int (pv 3)) pa_nil)) (pa_cons (pe_lst (pa_cons pe_int (pa_cons pe_int pa_nil))) (pa_cons (pe_lst (pa_cons (pe_un un_neg pe_int) pa_nil)) (pa_cons (pe_lst (pa_cons pe_bl pa_nil)) (pa_cons (pe_lst (pa_cons pe_non pa_nil)) (pa_cons pe_dnewK (pa_cons (pe_lst (pa_cons (pe_lst (pa_cons pe_int pa_nil)) pa_nil)) (pa_cons (pe_lst (pa_cons pe_int (pa_cons (pe_un un_neg pe_int) pa_nil))) pa_nil))))))))))) pa_nil))))
  (pss_cons (ps_set (i := 10) sc_law.nd rfl (Or.inr rfl) (pe_call G__law_pick (hr.mono (by decide)) (by rfl) D__law_pick.g D__law_pick.F.kp D__law_pick.b .nil pass0 (pa_cons (pv 1) (pa_cons (pe_lst (pa_cons pe_non (pa_cons (pv 5) (pa_cons (pe_callTy (call_strO G_Layout_str ST_Layout b_Layout_str pass0 (hr.mono (by decide))) (by rfl) T.n_str (by decide +kernel) (pa_cons (pv 7) pa_nil)) (pa_cons pe_int (pa_cons (pe_lst (pa_cons (pv 7) pa_nil)) pa_nil)))))) pa_nil))))
  (pss_cons (ps_set (i := 11) sc_law.nd rfl (Or.inl rfl) (pe_lst (pa_cons (pe_lam (T := [(Pt, LQ)]) (vs := []) (TT := TTheard CB CL) (k := 9) (nm := []) (dts := []) (t := fun E => tCallS (spTable K C CL CB) (WE fun cls d _ H => E cls d H) (tCons (tVar 10) (tCons (tVar 9) tNil))) (by rfl) D__law_heard.g D__law_heard.F.kp lkH hcH D__law_heard.b sc__law_heard rfl (Or.inl rfl) (heard_gives Z T (show 1 ≤ 10 by decide) D__law_word G__law_word) TB rfl List.mem_cons_self hu_0 (hr.mono (by decide)) (lamN_by (sc := defScope s_law) (N := N_law) (by decide +kernel)) (.inl ⟨rfl, rfl⟩) (bind_0 fun _ _ _ _ _ _ _ => rfl) (mono_S table_mono (mta_cons mte_var (mta_cons mte_var mta_nil))) pa_nil (fun _ _ _ => rfl) rfl (fun A outer s H E f c' hr2 => pe_callS GX_table_of (hr2.mono (by decide)) (by rfl) D_table_of.g D_table_of.F.kp D_table_of.b (fun σ => passAt (takes_of rfl rfl rfl rfl) σ) (pa_cons (pv 10) (pa_cons (pv 9) pa_nil)))) (pa_cons (pe_lam (T := [(Pt, LQ)]) (vs := []) (TT := TTheard CB CL) (k := 9) (nm := ["one"]) (dts := [0]) (t := fun E => tCallS (spTable K C CL CB) (WE fun cls d _ H => E cls d H) (tCons (tVar 7) (tCons (tVar 9) tNil))) (by rfl) D__law_heard.g D__law_heard.F.kp lkH hcH D__law_heard.b sc__law_heard rfl (Or.inl rfl) (heard_gives Z T (show 1 ≤ 10 by decide) D__law_word G__law_word) TB rfl List.mem_cons_self hu_0 (hr.mono (by decide)) (lamN_by (sc := defScope s_law) (N := N_law) (by decide +kernel)) (.inr ⟨0, _, _, rfl, rfl⟩) (bind_1 fun _ _ _ _ _ _ _ _ _ => ⟨_, rfl, rfl⟩) (mono_S table_mono (mta_cons mte_var (mta_cons mte_var mta_nil))) pa_nil (fun _ _ _ => rfl) rfl (fun A outer s H E f c' hr2 => pe_callS GX_table_of (hr2.mono (by decide)) (by rfl) D_table_of.g D_table_of.F.kp D_table_of.b (fun σ => passAt (takes_of rfl rfl rfl rfl) σ) (pa_cons (pv 7) (pa_cons (pv 9) pa_nil)))) pa_nil))))
  (pss_cons (ps_expr (pe_bm PySem.F.plainAttrs_list PySem.F.slot_list_append PySem.F.type_list_append mt_append (pv 11) (pa_cons (pe_lam (T := [(Pt, LQ)]) (vs := []) (TT := TTheard CB CL) (k := 9) (nm := []) (dts := []) (t := fun E => tCallS (spTable K C CL CB) (WE fun cls d _ H => E cls d H) (tCons (tVar 7) (tCons (tLst tNil) tNil))) (by rfl) D__law_heard.g D__law_heard.F.kp lkH hcH D__law_heard.b sc__law_heard rfl (Or.inl rfl) (heard_gives Z T (show 1 ≤ 10 by decide) D__law_word G__law_word) TB rfl List.mem_cons_self hu_0 (hr.mono (by decide)) (lamN_by (sc := defScope s_law) (N := N_law) (by decide +kernel)) (.inl ⟨rfl, rfl⟩) (bind_0 fun _ _ _ _ _ _ _ => rfl) (mono_S table_mono (mta_cons mte_var (mta_cons (mte_lst mta_nil) mta_nil))) pa_nil (fun _ _ _ => rfl) rfl (fun A outer s H E f c' hr2 => pe_callS GX_table_of (hr2.mono (by decide)) (by rfl) D_table_of.g D_table_of.F.kp D_table_of.b (fun σ => passAt (takes_of rfl rfl rfl rfl) σ) (pa_cons (pv 7) (pa_cons (pe_lst pa_nil) pa_nil)))) pa_nil)))
  (pss_one (ps_if (pt_cmpR (op_neD hr.units) (pv 11) (pe_lst (pa_cons (pe_tup (pa_cons pe_str (pa_cons pe_str pa_nil))) (pa_cons (pe_tup (pa_cons pe_str (pa_cons pe_str pa_nil))) (pa_cons pe_non pa_nil)))) (nomark _)) (pss_one (ps_ret pe_bl)) pss_nil))))))))))))))
  (pss_one (ps_ret pe_bl)))), ?_⟩
      repeat (first | (with_reducible refine st_tC ?_) | (with_reducible refine st_tOp ?_) | ((with_reducible apply st_n); rfl; rfl; (first | trivial | (show _ ≤ _; omega) | (show _ < _; omega) | (show _ ∨ _; omega) | assumption | exact ⟨by assumption, by omega⟩ | exact ⟨W30.one, by omega⟩ | fail); rfl) | (with_reducible refine st_i0 rfl rfl rfl ?_) | ((with_reducible refine st_i rfl rfl ?_ rfl ?_); first | omega | exact ⟨by decide, by decide, by decide⟩ | exact .inl ⟨by decide, by decide⟩ | exact .inl ⟨by omega, by omega⟩ | exact .inr ⟨by omega, by omega⟩ | fail) | ((fail_if_success refine Exists.intro (α := Nat → Nat → L2.St → Hp → Prop) ?_ ?_); (fail_if_success refine Exists.intro (α := L2.St → Hp → Prop) ?_ ?_); (fail_if_success refine Exists.intro (α := Nat → L2.St → Hp → Prop) ?_ ?_); apply Exists.intro) | ((refine And.intro ?_ ?_); first | with_reducible rfl | with_reducible assumption | rfl | ((with_reducible apply SqL.of); assumption) | ((with_reducible apply SqT.of); assumption) | ((with_reducible apply OwnC.cl); assumption) | (with_reducible exact isI_int _) | exact within_args | (with_reducible exact upd_same) | ((with_reducible apply Mid.o); assumption) | ((with_reducible apply Mid.t); assumption) | exact .inl ⟨rfl, _, SqL.of (by assumption)⟩ | (with_reducible exact ⟨_, SqT.of (by assumption)⟩) | (with_reducible exact ⟨_, SqL.of (by assumption)⟩) | omega | exact Nat.le_of_ble_eq_true rfl | exact nat9 (by omega) | exact ⟨_, rfl⟩ | (show _ ≤ sizeLine; decide) | exact ⟨by decide, by decide, by decide⟩ | exact .inl ⟨by decide, by decide⟩ | exact .inl ⟨by omega, by omega⟩ | exact .inr ⟨by omega, by omega⟩ | assumption | fail) | ((with_reducible refine iteF' ?_ ?_); first | rfl | exact decide_eq_false (by omega) | exact in_no (by omega) (by omega) | exact in_no (by omega) (by assumption) | (simp <;> fail) | fail) | ((with_reducible refine iteT' ?_ ?_); first | rfl | exact decide_eq_true (by omega) | (simp <;> fail) | fail))
      intro p b H1 hp hb O S1
      have M1 : Mid [(Pt, LQ)] p b 0 H1 := ⟨O, fun x hx => by
        rw [List.mem_singleton.mp hx]
        exact .nil (S1 _ _ hPt)⟩
      refine ⟨3, rfl, by decide, by decide, ?_⟩
      refine for_range (n := 3) (fun i σ H' => Mid [(Pt, LQ)] p b (2000 * i) H' ∧ ∃ u2 u3 u4 u5 u6 u7 u8 u9 u10 u11 : Option V, σ = [some (.ref a), some (.ref p), u2, u3, u4, u5, u6, u7, u8, u9, u10, u11]) ⟨M1, none, none, none, none, none, none, none, none, none, none, rfl⟩ ?_ ?_
      · rintro i σ H2 hi ⟨M, u2, u3, u4, u5, u6, u7, u8, u9, u10, u11, rfl⟩
        repeat (first | (with_reducible refine st_tC ?_) | (with_reducible refine st_tOp ?_) | ((with_reducible apply st_n); rfl; rfl; (first | trivial | (show _ ≤ _; omega) | (show _ < _; omega) | (show _ ∨ _; omega) | assumption | exact ⟨by assumption, by omega⟩ | exact ⟨W30.one, by omega⟩ | fail); rfl) | (with_reducible refine st_i0 rfl rfl rfl ?_) | ((with_reducible refine st_i rfl rfl ?_ rfl ?_); first | omega | exact ⟨by decide, by decide, by decide⟩ | exact .inl ⟨by decide, by decide⟩ | exact .inl ⟨by omega, by omega⟩ | exact .inr ⟨by omega, by omega⟩ | fail) | ((fail_if_success refine Exists.intro (α := Nat → Nat → L2.St → Hp → Prop) ?_ ?_); (fail_if_success refine Exists.intro (α := L2.St → Hp → Prop) ?_ ?_); (fail_if_success refine Exists.intro (α := Nat → L2.St → Hp → Prop) ?_ ?_); apply Exists.intro) | ((refine And.intro ?_ ?_); first | with_reducible rfl | with_reducible assumption | rfl | ((with_reducible apply SqL.of); assumption) | ((with_reducible apply SqT.of); assumption) | ((with_reducible apply OwnC.cl); assumption) | (with_reducible exact isI_int _) | exact within_args | (with_reducible exact upd_same) | ((with_reducible apply Mid.o); assumption) | ((with_reducible apply Mid.t); assumption) | exact .inl ⟨rfl, _, SqL.of (by assumption)⟩ | (with_reducible exact ⟨_, SqT.of (by assumption)⟩) | (with_reducible exact ⟨_, SqL.of (by assumption)⟩) | omega | exact Nat.le_of_ble_eq_true rfl | exact nat9 (by omega) | exact ⟨_, rfl⟩ | (show _ ≤ sizeLine; decide) | exact ⟨by decide, by decide, by decide⟩ | exact .inl ⟨by decide, by decide⟩ | exact .inl ⟨by omega, by omega⟩ | exact .inr ⟨by omega, by omega⟩ | assumption | fail) | ((with_reducible refine iteF' ?_ ?_); first | rfl | exact decide_eq_false (by omega) | exact in_no (by omega) (by omega) | exact in_no (by omega) (by assumption) | (simp <;> fail) | fail) | ((with_reducible refine iteT' ?_ ?_); first | rfl | exact decide_eq_true (by omega) | (simp <;> fail) | fail))
        intro l1 h_l1; have np_l1 := M.pD h_l1; have nb_l1 := M.bD h_l1; generalize hE : upd _ l1 _ = H3; obtain ⟨S_l1, g_l1⟩ := new_facts h_l1 hE; clear hE; replace M := M.same S_l1
        repeat (first | (with_reducible refine st_tC ?_) | (with_reducible refine st_tOp ?_) | ((with_reducible apply st_n); rfl; rfl; (first | trivial | (show _ ≤ _; omega) | (show _ < _; omega) | (show _ ∨ _; omega) | assumption | exact ⟨by assumption, by omega⟩ | exact ⟨W30.one, by omega⟩ | fail); rfl) | (with_reducible refine st_i0 rfl rfl rfl ?_) | ((with_reducible refine st_i rfl rfl ?_ rfl ?_); first | omega | exact ⟨by decide, by decide, by decide⟩ | exact .inl ⟨by decide, by decide⟩ | exact .inl ⟨by omega, by omega⟩ | exact .inr ⟨by omega, by omega⟩ | fail) | ((fail_if_success refine Exists.intro (α := Nat → Nat → L2.St → Hp → Prop) ?_ ?_); (fail_if_success refine Exists.intro (α := L2.St → Hp → Prop) ?_ ?_); (fail_if_success refine Exists.intro (α := Nat → L2.St → Hp → Prop) ?_ ?_); apply Exists.intro) | ((refine And.intro ?_ ?_); first | with_reducible rfl | with_reducible assumption | rfl | ((with_reducible apply SqL.of); assumption) | ((with_reducible apply SqT.of); assumption) | ((with_reducible apply OwnC.cl); assumption) | (with_reducible exact isI_int _) | exact within_args | (with_reducible exact upd_same) | ((with_reducible apply Mid.o); assumption) | ((with_reducible apply Mid.t); assumption) | exact .inl ⟨rfl, _, SqL.of (by assumption)⟩ | (with_reducible exact ⟨_, SqT.of (by assumption)⟩) | (with_reducible exact ⟨_, SqL.of (by assumption)⟩) | omega | exact Nat.le_of_ble_eq_true rfl | exact nat9 (by omega) | exact ⟨_, rfl⟩ | (show _ ≤ sizeLine; decide) | exact ⟨by decide, by decide, by decide⟩ | exact .inl ⟨by decide, by decide⟩ | exact .inl ⟨by omega, by omega⟩ | exact .inr ⟨by omega, by omega⟩ | assumption | fail) | ((with_reducible refine iteF' ?_ ?_); first | rfl | exact decide_eq_false (by omega) | exact in_no (by omega) (by omega) | exact in_no (by omega) (by assumption) | (simp <;> fail) | fail) | ((with_reducible refine iteT' ?_ ?_); first | rfl | exact decide_eq_true (by omega) | (simp <;> fail) | fail))
        intro j_x1 x1 H4 e_x1 O_x1 B_x1; replace M := M.draw O_x1 B_x1; clear O_x1 B_x1
        obtain ⟨b', hb', rfl⟩ := pick_int (ks := [1, 2, 3, 4, 5, 3, 6, 7, 8]) e_x1
        obtain ⟨bn, rfl⟩ : ∃ bn : Nat, b' = (bn : Int) := Int.eq_ofNat_of_zero_le (by simp at hb'; omega)
        have bb : 1 ≤ bn ∧ bn ≤ 8 := by simp at hb'; omega
        clear hb' e_x1 S_l1 g_l1 h_l1 j_x1
        repeat (first | (with_reducible refine st_tC ?_) | (with_reducible refine st_tOp ?_) | ((with_reducible apply st_n); rfl; rfl; (first | trivial | (show _ ≤ _; omega) | (show _ < _; omega) | (show _ ∨ _; omega) | assumption | exact ⟨by assumption, by omega⟩ | exact ⟨W30.one, by omega⟩ | fail); rfl) | (with_reducible refine st_i0 rfl rfl rfl ?_) | ((with_reducible refine st_i rfl rfl ?_ rfl ?_); first | omega | exact ⟨by decide, by decide, by decide⟩ | exact .inl ⟨by decide, by decide⟩ | exact .inl ⟨by omega, by omega⟩ | exact .inr ⟨by omega, by omega⟩ | fail) | ((fail_if_success refine Exists.intro (α := Nat → Nat → L2.St → Hp → Prop) ?_ ?_); (fail_if_success refine Exists.intro (α := L2.St → Hp → Prop) ?_ ?_); (fail_if_success refine Exists.intro (α := Nat → L2.St → Hp → Prop) ?_ ?_); apply Exists.intro) | ((refine And.intro ?_ ?_); first | with_reducible rfl | with_reducible assumption | rfl | ((with_reducible apply SqL.of); assumption) | ((with_reducible apply SqT.of); assumption) | ((with_reducible apply OwnC.cl); assumption) | (with_reducible exact isI_int _) | exact within_args | (with_reducible exact upd_same) | ((with_reducible apply Mid.o); assumption) | ((with_reducible apply Mid.t); assumption) | exact .inl ⟨rfl, _, SqL.of (by assumption)⟩ | (with_reducible exact ⟨_, SqT.of (by assumption)⟩) | (with_reducible exact ⟨_, SqL.of (by assumption)⟩) | omega | exact Nat.le_of_ble_eq_true rfl | exact nat9 (by omega) | exact ⟨_, rfl⟩ | (show _ ≤ sizeLine; decide) | exact ⟨by decide, by decide, by decide⟩ | exact .inl ⟨by decide, by decide⟩ | exact .inl ⟨by omega, by omega⟩ | exact .inr ⟨by omega, by omega⟩ | assumption | fail) | ((with_reducible refine iteF' ?_ ?_); first | rfl | exact decide_eq_false (by omega) | exact in_no (by omega) (by omega) | exact in_no (by omega) (by assumption) | (simp <;> fail) | fail) | ((with_reducible refine iteT' ?_ ?_); first | rfl | exact decide_eq_true (by omega) | (simp <;> fail) | fail))
        intro l2 h_l2; have np_l2 := M.pD h_l2; have nb_l2 := M.bD h_l2; generalize hE : upd _ l2 _ = H5; obtain ⟨S_l2, g_l2⟩ := new_facts h_l2 hE; clear hE; replace M := M.same S_l2
        repeat (first | (with_reducible refine st_tC ?_) | (with_reducible refine st_tOp ?_) | ((with_reducible apply st_n); rfl; rfl; (first | trivial | (show _ ≤ _; omega) | (show _ < _; omega) | (show _ ∨ _; omega) | assumption | exact ⟨by assumption, by omega⟩ | exact ⟨W30.one, by omega⟩ | fail); rfl) | (with_reducible refine st_i0 rfl rfl rfl ?_) | ((with_reducible refine st_i rfl rfl ?_ rfl ?_); first | omega | exact ⟨by decide, by decide, by decide⟩ | exact .inl ⟨by decide, by decide⟩ | exact .inl ⟨by omega, by omega⟩ | exact .inr ⟨by omega, by omega⟩ | fail) | ((fail_if_success refine Exists.intro (α := Nat → Nat → L2.St → Hp → Prop) ?_ ?_); (fail_if_success refine Exists.intro (α := L2.St → Hp → Prop) ?_ ?_); (fail_if_success refine Exists.intro (α := Nat → L2.St → Hp → Prop) ?_ ?_); apply Exists.intro) | ((refine And.intro ?_ ?_); first | with_reducible rfl | with_reducible assumption | rfl | ((with_reducible apply SqL.of); assumption) | ((with_reducible apply SqT.of); assumption) | ((with_reducible apply OwnC.cl); assumption) | (with_reducible exact isI_int _) | exact within_args | (with_reducible exact upd_same) | ((with_reducible apply Mid.o); assumption) | ((with_reducible apply Mid.t); assumption) | exact .inl ⟨rfl, _, SqL.of (by assumption)⟩ | (with_reducible exact ⟨_, SqT.of (by assumption)⟩) | (with_reducible exact ⟨_, SqL.of (by assumption)⟩) | omega | exact Nat.le_of_ble_eq_true rfl | exact nat9 (by omega) | exact ⟨_, rfl⟩ | (show _ ≤ sizeLine; decide) | exact ⟨by decide, by decide, by decide⟩ | exact .inl ⟨by decide, by decide⟩ | exact .inl ⟨by omega, by omega⟩ | exact .inr ⟨by omega, by omega⟩ | assumption | fail) | ((with_reducible refine iteF' ?_ ?_); first | rfl | exact decide_eq_false (by omega) | exact in_no (by omega) (by omega) | exact in_no (by omega) (by assumption) | (simp <;> fail) | fail) | ((with_reducible refine iteT' ?_ ?_); first | rfl | exact decide_eq_true (by omega) | (simp <;> fail) | fail))
        intro j_x2 x2 H6 e_x2 O_x2 B_x2; replace M := M.draw O_x2 B_x2; clear O_x2 B_x2
        obtain ⟨m', hm', rfl⟩ := pick_int (ks := [1, 3, 8, 64]) e_x2
        obtain ⟨mo, rfl⟩ : ∃ mo : Nat, m' = (mo : Int) := Int.eq_ofNat_of_zero_le (by simp at hm'; omega)
        have mb : 1 ≤ mo ∧ mo ≤ 64 := by simp at hm'; omega
        clear hm' e_x2 S_l2 g_l2 h_l2 j_x2
        have p8 := pow8 bb.2
        have pb := MS.two_pos bn
        repeat (first | (with_reducible refine st_tC ?_) | (with_reducible refine st_tOp ?_) | ((with_reducible apply st_n); rfl; rfl; (first | trivial | (show _ ≤ _; omega) | (show _ < _; omega) | (show _ ∨ _; omega) | assumption | exact ⟨by assumption, by omega⟩ | exact ⟨W30.one, by omega⟩ | fail); rfl) | (with_reducible refine st_i0 rfl rfl rfl ?_) | ((with_reducible refine st_i rfl rfl ?_ rfl ?_); first | omega | exact ⟨by decide, by decide, by decide⟩ | exact .inl ⟨by decide, by decide⟩ | exact .inl ⟨by omega, by omega⟩ | exact .inr ⟨by omega, by omega⟩ | fail) | ((fail_if_success refine Exists.intro (α := Nat → Nat → L2.St → Hp → Prop) ?_ ?_); (fail_if_success refine Exists.intro (α := L2.St → Hp → Prop) ?_ ?_); (fail_if_success refine Exists.intro (α := Nat → L2.St → Hp → Prop) ?_ ?_); apply Exists.intro) | ((refine And.intro ?_ ?_); first | with_reducible rfl | with_reducible assumption | rfl | ((with_reducible apply SqL.of); assumption) | ((with_reducible apply SqT.of); assumption) | ((with_reducible apply OwnC.cl); assumption) | (with_reducible exact isI_int _) | exact within_args | (with_reducible exact upd_same) | ((with_reducible apply Mid.o); assumption) | ((with_reducible apply Mid.t); assumption) | exact .inl ⟨rfl, _, SqL.of (by assumption)⟩ | (with_reducible exact ⟨_, SqT.of (by assumption)⟩) | (with_reducible exact ⟨_, SqL.of (by assumption)⟩) | omega | exact Nat.le_of_ble_eq_true rfl | exact nat9 (by omega) | exact ⟨_, rfl⟩ | (show _ ≤ sizeLine; decide) | exact ⟨by decide, by decide, by decide⟩ | exact .inl ⟨by decide, by decide⟩ | exact .inl ⟨by omega, by omega⟩ | exact .inr ⟨by omega, by omega⟩ | assumption | fail) | ((with_reducible refine iteF' ?_ ?_); first | rfl | exact decide_eq_false (by omega) | exact in_no (by omega) (by omega) | exact in_no (by omega) (by assumption) | (simp <;> fail) | fail) | ((with_reducible refine iteT' ?_ ?_); first | rfl | exact decide_eq_true (by omega) | (simp <;> fail) | fail))
        intro D hD
        have np_D := M.pD hD
        have nb_D := M.bD hD
        rw [Int.toNat_natCast]
        refine lc_range (n := 2 ^ bn) (fun j H' => Mid [(Pt, LQ)] p b (2000 * i + 2 + 4 * j) H' ∧ ∃ ms : List (Option Nat), ms.length = j ∧ (∀ t, some t ∈ ms → t ≤ 63) ∧ H' D = some (.lst (ms.map mv))) ⟨(M.same (same_new hD)).mono (by omega), [], rfl, fun t ht => (nomatch ht), upd_same⟩ ?_ ?_
        · rintro j H8 hj ⟨M, ms, len, small, g_D⟩
          refine ⟨rfl, ?_⟩
          repeat (first | (with_reducible refine st_tC ?_) | (with_reducible refine st_tOp ?_) | ((with_reducible apply st_n); rfl; rfl; (first | trivial | (show _ ≤ _; omega) | (show _ < _; omega) | (show _ ∨ _; omega) | assumption | exact ⟨by assumption, by omega⟩ | exact ⟨W30.one, by omega⟩ | fail); rfl) | (with_reducible refine st_i0 rfl rfl rfl ?_) | ((with_reducible refine st_i rfl rfl ?_ rfl ?_); first | omega | exact ⟨by decide, by decide, by decide⟩ | exact .inl ⟨by decide, by decide⟩ | exact .inl ⟨by omega, by omega⟩ | exact .inr ⟨by omega, by omega⟩ | fail) | ((fail_if_success refine Exists.intro (α := Nat → Nat → L2.St → Hp → Prop) ?_ ?_); (fail_if_success refine Exists.intro (α := L2.St → Hp → Prop) ?_ ?_); (fail_if_success refine Exists.intro (α := Nat → L2.St → Hp → Prop) ?_ ?_); apply Exists.intro) | ((refine And.intro ?_ ?_); first | with_reducible rfl | with_reducible assumption | rfl | ((with_reducible apply SqL.of); assumption) | ((with_reducible apply SqT.of); assumption) | ((with_reducible apply OwnC.cl); assumption) | (with_reducible exact isI_int _) | exact within_args | (with_reducible exact upd_same) | ((with_reducible apply Mid.o); assumption) | ((with_reducible apply Mid.t); assumption) | exact .inl ⟨rfl, _, SqL.of (by assumption)⟩ | (with_reducible exact ⟨_, SqT.of (by assumption)⟩) | (with_reducible exact ⟨_, SqL.of (by assumption)⟩) | omega | exact Nat.le_of_ble_eq_true rfl | exact nat9 (by omega) | exact ⟨_, rfl⟩ | (show _ ≤ sizeLine; decide) | exact ⟨by decide, by decide, by decide⟩ | exact .inl ⟨by decide, by decide⟩ | exact .inl ⟨by omega, by omega⟩ | exact .inr ⟨by omega, by omega⟩ | assumption | fail) | ((with_reducible refine iteF' ?_ ?_); first | rfl | exact decide_eq_false (by omega) | exact in_no (by omega) (by omega) | exact in_no (by omega) (by assumption) | (simp <;> fail) | fail) | ((with_reducible refine iteT' ?_ ?_); first | rfl | exact decide_eq_true (by omega) | (simp <;> fail) | fail))
          intro q H9 q0 q1 O_q B_q; replace g_D := B_q _ _ g_D np_D; replace M := M.draw O_q B_q; obtain ⟨q, rfl⟩ := Int.eq_ofNat_of_zero_le q0
          repeat (first | (with_reducible refine st_tC ?_) | (with_reducible refine st_tOp ?_) | ((with_reducible apply st_n); rfl; rfl; (first | trivial | (show _ ≤ _; omega) | (show _ < _; omega) | (show _ ∨ _; omega) | assumption | exact ⟨by assumption, by omega⟩ | exact ⟨W30.one, by omega⟩ | fail); rfl) | (with_reducible refine st_i0 rfl rfl rfl ?_) | ((with_reducible refine st_i rfl rfl ?_ rfl ?_); first | omega | exact ⟨by decide, by decide, by decide⟩ | exact .inl ⟨by decide, by decide⟩ | exact .inl ⟨by omega, by omega⟩ | exact .inr ⟨by omega, by omega⟩ | fail) | ((fail_if_success refine Exists.intro (α := Nat → Nat → L2.St → Hp → Prop) ?_ ?_); (fail_if_success refine Exists.intro (α := L2.St → Hp → Prop) ?_ ?_); (fail_if_success refine Exists.intro (α := Nat → L2.St → Hp → Prop) ?_ ?_); apply Exists.intro) | ((refine And.intro ?_ ?_); first | with_reducible rfl | with_reducible assumption | rfl | ((with_reducible apply SqL.of); assumption) | ((with_reducible apply SqT.of); assumption) | ((with_reducible apply OwnC.cl); assumption) | (with_reducible exact isI_int _) | exact within_args | (with_reducible exact upd_same) | ((with_reducible apply Mid.o); assumption) | ((with_reducible apply Mid.t); assumption) | exact .inl ⟨rfl, _, SqL.of (by assumption)⟩ | (with_reducible exact ⟨_, SqT.of (by assumption)⟩) | (with_reducible exact ⟨_, SqL.of (by assumption)⟩) | omega | exact Nat.le_of_ble_eq_true rfl | exact nat9 (by omega) | exact ⟨_, rfl⟩ | (show _ ≤ sizeLine; decide) | exact ⟨by decide, by decide, by decide⟩ | exact .inl ⟨by decide, by decide⟩ | exact .inl ⟨by omega, by omega⟩ | exact .inr ⟨by omega, by omega⟩ | assumption | fail) | ((with_reducible refine iteF' ?_ ?_); first | rfl | exact decide_eq_false (by omega) | exact in_no (by omega) (by omega) | exact in_no (by omega) (by assumption) | (simp <;> fail) | fail) | ((with_reducible refine iteT' ?_ ?_); first | rfl | exact decide_eq_true (by omega) | (simp <;> fail) | fail))
          by_cases c : q = 0
          · subst c
            repeat (first | (with_reducible refine st_tC ?_) | (with_reducible refine st_tOp ?_) | ((with_reducible apply st_n); rfl; rfl; (first | trivial | (show _ ≤ _; omega) | (show _ < _; omega) | (show _ ∨ _; omega) | assumption | exact ⟨by assumption, by omega⟩ | exact ⟨W30.one, by omega⟩ | fail); rfl) | (with_reducible refine st_i0 rfl rfl rfl ?_) | ((with_reducible refine st_i rfl rfl ?_ rfl ?_); first | omega | exact ⟨by decide, by decide, by decide⟩ | exact .inl ⟨by decide, by decide⟩ | exact .inl ⟨by omega, by omega⟩ | exact .inr ⟨by omega, by omega⟩ | fail) | ((fail_if_success refine Exists.intro (α := Nat → Nat → L2.St → Hp → Prop) ?_ ?_); (fail_if_success refine Exists.intro (α := L2.St → Hp → Prop) ?_ ?_); (fail_if_success refine Exists.intro (α := Nat → L2.St → Hp → Prop) ?_ ?_); apply Exists.intro) | ((refine And.intro ?_ ?_); first | with_reducible rfl | with_reducible assumption | rfl | ((with_reducible apply SqL.of); assumption) | ((with_reducible apply SqT.of); assumption) | ((with_reducible apply OwnC.cl); assumption) | (with_reducible exact isI_int _) | exact within_args | (with_reducible exact upd_same) | ((with_reducible apply Mid.o); assumption) | ((with_reducible apply Mid.t); assumption) | exact .inl ⟨rfl, _, SqL.of (by assumption)⟩ | (with_reducible exact ⟨_, SqT.of (by assumption)⟩) | (with_reducible exact ⟨_, SqL.of (by assumption)⟩) | omega | exact Nat.le_of_ble_eq_true rfl | exact nat9 (by omega) | exact ⟨_, rfl⟩ | (show _ ≤ sizeLine; decide) | exact ⟨by decide, by decide, by decide⟩ | exact .inl ⟨by decide, by decide⟩ | exact .inl ⟨by omega, by omega⟩ | exact .inr ⟨by omega, by omega⟩ | assumption | fail) | ((with_reducible refine iteF' ?_ ?_); first | rfl | exact decide_eq_false (by omega) | exact in_no (by omega) (by omega) | exact in_no (by omega) (by assumption) | (simp <;> fail) | fail) | ((with_reducible refine iteT' ?_ ?_); first | rfl | exact decide_eq_true (by omega) | (simp <;> fail) | fail))
            refine ⟨by rw [List.length_map, sizeLine_eq]; omega, (M.put g_D np_D nb_D).mono (by omega), ms ++ [none], by rw [List.length_append, len]; rfl, fun t ht => ?_, by rw [upd_same, List.map_append]; rfl⟩
            rcases List.mem_append.mp ht with h | h
            · exact small t h
            · exact nomatch (List.mem_singleton.mp h)
          · refine iteF' (decide_eq_false fun z => c (by have := V.int.inj z; omega)) ?_
            repeat (first | (with_reducible refine st_tC ?_) | (with_reducible refine st_tOp ?_) | ((with_reducible apply st_n); rfl; rfl; (first | trivial | (show _ ≤ _; omega) | (show _ < _; omega) | (show _ ∨ _; omega) | assumption | exact ⟨by assumption, by omega⟩ | exact ⟨W30.one, by omega⟩ | fail); rfl) | (with_reducible refine st_i0 rfl rfl rfl ?_) | ((with_reducible refine st_i rfl rfl ?_ rfl ?_); first | omega | exact ⟨by decide, by decide, by decide⟩ | exact .inl ⟨by decide, by decide⟩ | exact .inl ⟨by omega, by omega⟩ | exact .inr ⟨by omega, by omega⟩ | fail) | ((fail_if_success refine Exists.intro (α := Nat → Nat → L2.St → Hp → Prop) ?_ ?_); (fail_if_success refine Exists.intro (α := L2.St → Hp → Prop) ?_ ?_); (fail_if_success refine Exists.intro (α := Nat → L2.St → Hp → Prop) ?_ ?_); apply Exists.intro) | ((refine And.intro ?_ ?_); first | with_reducible rfl | with_reducible assumption | rfl | ((with_reducible apply SqL.of); assumption) | ((with_reducible apply SqT.of); assumption) | ((with_reducible apply OwnC.cl); assumption) | (with_reducible exact isI_int _) | exact within_args | (with_reducible exact upd_same) | ((with_reducible apply Mid.o); assumption) | ((with_reducible apply Mid.t); assumption) | exact .inl ⟨rfl, _, SqL.of (by assumption)⟩ | (with_reducible exact ⟨_, SqT.of (by assumption)⟩) | (with_reducible exact ⟨_, SqL.of (by assumption)⟩) | omega | exact Nat.le_of_ble_eq_true rfl | exact nat9 (by omega) | exact ⟨_, rfl⟩ | (show _ ≤ sizeLine; decide) | exact ⟨by decide, by decide, by decide⟩ | exact .inl ⟨by decide, by decide⟩ | exact .inl ⟨by omega, by omega⟩ | exact .inr ⟨by omega, by omega⟩ | assumption | fail) | ((with_reducible refine iteF' ?_ ?_); first | rfl | exact decide_eq_false (by omega) | exact in_no (by omega) (by omega) | exact in_no (by omega) (by assumption) | (simp <;> fail) | fail) | ((with_reducible refine iteT' ?_ ?_); first | rfl | exact decide_eq_true (by omega) | (simp <;> fail) | fail))
            intro z H10 z0 z1 O_z B_z; replace g_D := B_z _ _ g_D np_D; replace M := M.draw O_z B_z; obtain ⟨z, rfl⟩ := Int.eq_ofNat_of_zero_le z0
            repeat (first | (with_reducible refine st_tC ?_) | (with_reducible refine st_tOp ?_) | ((with_reducible apply st_n); rfl; rfl; (first | trivial | (show _ ≤ _; omega) | (show _ < _; omega) | (show _ ∨ _; omega) | assumption | exact ⟨by assumption, by omega⟩ | exact ⟨W30.one, by omega⟩ | fail); rfl) | (with_reducible refine st_i0 rfl rfl rfl ?_) | ((with_reducible refine st_i rfl rfl ?_ rfl ?_); first | omega | exact ⟨by decide, by decide, by decide⟩ | exact .inl ⟨by decide, by decide⟩ | exact .inl ⟨by omega, by omega⟩ | exact .inr ⟨by omega, by omega⟩ | fail) | ((fail_if_success refine Exists.intro (α := Nat → Nat → L2.St → Hp → Prop) ?_ ?_); (fail_if_success refine Exists.intro (α := L2.St → Hp → Prop) ?_ ?_); (fail_if_success refine Exists.intro (α := Nat → L2.St → Hp → Prop) ?_ ?_); apply Exists.intro) | ((refine And.intro ?_ ?_); first | with_reducible rfl | with_reducible assumption | rfl | ((with_reducible apply SqL.of); assumption) | ((with_reducible apply SqT.of); assumption) | ((with_reducible apply OwnC.cl); assumption) | (with_reducible exact isI_int _) | exact within_args | (with_reducible exact upd_same) | ((with_reducible apply Mid.o); assumption) | ((with_reducible apply Mid.t); assumption) | exact .inl ⟨rfl, _, SqL.of (by assumption)⟩ | (with_reducible exact ⟨_, SqT.of (by assumption)⟩) | (with_reducible exact ⟨_, SqL.of (by assumption)⟩) | omega | exact Nat.le_of_ble_eq_true rfl | exact nat9 (by omega) | exact ⟨_, rfl⟩ | (show _ ≤ sizeLine; decide) | exact ⟨by decide, by decide, by decide⟩ | exact .inl ⟨by decide, by decide⟩ | exact .inl ⟨by omega, by omega⟩ | exact .inr ⟨by omega, by omega⟩ | assumption | fail) | ((with_reducible refine iteF' ?_ ?_); first | rfl | exact decide_eq_false (by omega) | exact in_no (by omega) (by omega) | exact in_no (by omega) (by assumption) | (simp <;> fail) | fail) | ((with_reducible refine iteT' ?_ ?_); first | rfl | exact decide_eq_true (by omega) | (simp <;> fail) | fail))
            intro y H11 y0 y1 O_y B_y; replace g_D := B_y _ _ g_D np_D; replace M := M.draw O_y B_y; obtain ⟨y, rfl⟩ := Int.eq_ofNat_of_zero_le y0
            repeat (first | (with_reducible refine st_tC ?_) | (with_reducible refine st_tOp ?_) | ((with_reducible apply st_n); rfl; rfl; (first | trivial | (show _ ≤ _; omega) | (show _ < _; omega) | (show _ ∨ _; omega) | assumption | exact ⟨by assumption, by omega⟩ | exact ⟨W30.one, by omega⟩ | fail); rfl) | (with_reducible refine st_i0 rfl rfl rfl ?_) | ((with_reducible refine st_i rfl rfl ?_ rfl ?_); first | omega | exact ⟨by decide, by decide, by decide⟩ | exact .inl ⟨by decide, by decide⟩ | exact .inl ⟨by omega, by omega⟩ | exact .inr ⟨by omega, by omega⟩ | fail) | ((fail_if_success refine Exists.intro (α := Nat → Nat → L2.St → Hp → Prop) ?_ ?_); (fail_if_success refine Exists.intro (α := L2.St → Hp → Prop) ?_ ?_); (fail_if_success refine Exists.intro (α := Nat → L2.St → Hp → Prop) ?_ ?_); apply Exists.intro) | ((refine And.intro ?_ ?_); first | with_reducible rfl | with_reducible assumption | rfl | ((with_reducible apply SqL.of); assumption) | ((with_reducible apply SqT.of); assumption) | ((with_reducible apply OwnC.cl); assumption) | (with_reducible exact isI_int _) | exact within_args | (with_reducible exact upd_same) | ((with_reducible apply Mid.o); assumption) | ((with_reducible apply Mid.t); assumption) | exact .inl ⟨rfl, _, SqL.of (by assumption)⟩ | (with_reducible exact ⟨_, SqT.of (by assumption)⟩) | (with_reducible exact ⟨_, SqL.of (by assumption)⟩) | omega | exact Nat.le_of_ble_eq_true rfl | exact nat9 (by omega) | exact ⟨_, rfl⟩ | (show _ ≤ sizeLine; decide) | exact ⟨by decide, by decide, by decide⟩ | exact .inl ⟨by decide, by decide⟩ | exact .inl ⟨by omega, by omega⟩ | exact .inr ⟨by omega, by omega⟩ | assumption | fail) | ((with_reducible refine iteF' ?_ ?_); first | rfl | exact decide_eq_false (by omega) | exact in_no (by omega) (by omega) | exact in_no (by omega) (by assumption) | (simp <;> fail) | fail) | ((with_reducible refine iteT' ?_ ?_); first | rfl | exact decide_eq_true (by omega) | (simp <;> fail) | fail))
            intro l3 h_l3; have np_l3 := M.pD h_l3; have nb_l3 := M.bD h_l3; generalize hE : upd _ l3 _ = H12; obtain ⟨S_l3, g_l3⟩ := new_facts h_l3 hE; clear hE; replace M := M.same S_l3; replace g_D := S_l3 _ _ g_D
            repeat (first | (with_reducible refine st_tC ?_) | (with_reducible refine st_tOp ?_) | ((with_reducible apply st_n); rfl; rfl; (first | trivial | (show _ ≤ _; omega) | (show _ < _; omega) | (show _ ∨ _; omega) | assumption | exact ⟨by assumption, by omega⟩ | exact ⟨W30.one, by omega⟩ | fail); rfl) | (with_reducible refine st_i0 rfl rfl rfl ?_) | ((with_reducible refine st_i rfl rfl ?_ rfl ?_); first | omega | exact ⟨by decide, by decide, by decide⟩ | exact .inl ⟨by decide, by decide⟩ | exact .inl ⟨by omega, by omega⟩ | exact .inr ⟨by omega, by omega⟩ | fail) | ((fail_if_success refine Exists.intro (α := Nat → Nat → L2.St → Hp → Prop) ?_ ?_); (fail_if_success refine Exists.intro (α := L2.St → Hp → Prop) ?_ ?_); (fail_if_success refine Exists.intro (α := Nat → L2.St → Hp → Prop) ?_ ?_); apply Exists.intro) | ((refine And.intro ?_ ?_); first | with_reducible rfl | with_reducible assumption | rfl | ((with_reducible apply SqL.of); assumption) | ((with_reducible apply SqT.of); assumption) | ((with_reducible apply OwnC.cl); assumption) | (with_reducible exact isI_int _) | exact within_args | (with_reducible exact upd_same) | ((with_reducible apply Mid.o); assumption) | ((with_reducible apply Mid.t); assumption) | exact .inl ⟨rfl, _, SqL.of (by assumption)⟩ | (with_reducible exact ⟨_, SqT.of (by assumption)⟩) | (with_reducible exact ⟨_, SqL.of (by assumption)⟩) | omega | exact Nat.le_of_ble_eq_true rfl | exact nat9 (by omega) | exact ⟨_, rfl⟩ | (show _ ≤ sizeLine; decide) | exact ⟨by decide, by decide, by decide⟩ | exact .inl ⟨by decide, by decide⟩ | exact .inl ⟨by omega, by omega⟩ | exact .inr ⟨by omega, by omega⟩ | assumption | fail) | ((with_reducible refine iteF' ?_ ?_); first | rfl | exact decide_eq_false (by omega) | exact in_no (by omega) (by omega) | exact in_no (by omega) (by assumption) | (simp <;> fail) | fail) | ((with_reducible refine iteT' ?_ ?_); first | rfl | exact decide_eq_true (by omega) | (simp <;> fail) | fail))
            intro j_x3 x3 H13 e_x3 O_x3 B_x3; replace g_D := B_x3 _ _ g_D np_D; replace M := M.draw O_x3 B_x3; clear O_x3 B_x3
            obtain ⟨v, hv, rfl⟩ := pick_int (ks := [(z : Int), 63 - (y : Int)]) e_x3
            obtain ⟨vn, rfl⟩ : ∃ vn : Nat, v = (vn : Int) := Int.eq_ofNat_of_zero_le (by simp at hv; omega)
            have vb : vn ≤ 63 := by simp at hv; omega
            refine ⟨_, g_D, by rw [List.length_map, sizeLine_eq]; omega, (M.put g_D np_D nb_D).mono (by omega), ms ++ [some vn], by rw [List.length_append, len]; rfl, fun t ht => ?_, by rw [upd_same, List.map_append]; rfl⟩
            rcases List.mem_append.mp ht with h | h
            · exact small t h
            · have := Option.some.inj (List.mem_singleton.mp h)
              omega
        · rintro H8 ⟨M, ms, len, small, g_D⟩
          have lok : LayOk bn ms := ⟨bb.1, bb.2, len, small⟩
          clear hD
          repeat (first | (with_reducible refine st_tC ?_) | (with_reducible refine st_tOp ?_) | ((with_reducible apply st_n); rfl; rfl; (first | trivial | (show _ ≤ _; omega) | (show _ < _; omega) | (show _ ∨ _; omega) | assumption | exact ⟨by assumption, by omega⟩ | exact ⟨W30.one, by omega⟩ | fail); rfl) | (with_reducible refine st_i0 rfl rfl rfl ?_) | ((with_reducible refine st_i rfl rfl ?_ rfl ?_); first | omega | exact ⟨by decide, by decide, by decide⟩ | exact .inl ⟨by decide, by decide⟩ | exact .inl ⟨by omega, by omega⟩ | exact .inr ⟨by omega, by omega⟩ | fail) | ((fail_if_success refine Exists.intro (α := Nat → Nat → L2.St → Hp → Prop) ?_ ?_); (fail_if_success refine Exists.intro (α := L2.St → Hp → Prop) ?_ ?_); (fail_if_success refine Exists.intro (α := Nat → L2.St → Hp → Prop) ?_ ?_); apply Exists.intro) | ((refine And.intro ?_ ?_); first | with_reducible rfl | with_reducible assumption | rfl | ((with_reducible apply SqL.of); assumption) | ((with_reducible apply SqT.of); assumption) | ((with_reducible apply OwnC.cl); assumption) | (with_reducible exact isI_int _) | exact within_args | (with_reducible exact upd_same) | ((with_reducible apply Mid.o); assumption) | ((with_reducible apply Mid.t); assumption) | exact .inl ⟨rfl, _, SqL.of (by assumption)⟩ | (with_reducible exact ⟨_, SqT.of (by assumption)⟩) | (with_reducible exact ⟨_, SqL.of (by assumption)⟩) | omega | exact Nat.le_of_ble_eq_true rfl | exact nat9 (by omega) | exact ⟨_, rfl⟩ | (show _ ≤ sizeLine; decide) | exact ⟨by decide, by decide, by decide⟩ | exact .inl ⟨by decide, by decide⟩ | exact .inl ⟨by omega, by omega⟩ | exact .inr ⟨by omega, by omega⟩ | assumption | fail) | ((with_reducible refine iteF' ?_ ?_); first | rfl | exact decide_eq_false (by omega) | exact in_no (by omega) (by omega) | exact in_no (by omega) (by assumption) | (simp <;> fail) | fail) | ((with_reducible refine iteT' ?_ ?_); first | rfl | exact decide_eq_true (by omega) | (simp <;> fail) | fail))
          intro x dx nx ndx nex
          refine make_lay lok (.inl g_D) nx ndx fun H9 S9 hl => ?_
          replace M := M.same S9
          replace g_D := S9 _ _ g_D
          clear nx ndx nex S9
          repeat (first | (with_reducible refine st_tC ?_) | (with_reducible refine st_tOp ?_) | ((with_reducible apply st_n); rfl; rfl; (first | trivial | (show _ ≤ _; omega) | (show _ < _; omega) | (show _ ∨ _; omega) | assumption | exact ⟨by assumption, by omega⟩ | exact ⟨W30.one, by omega⟩ | fail); rfl) | (with_reducible refine st_i0 rfl rfl rfl ?_) | ((with_reducible refine st_i rfl rfl ?_ rfl ?_); first | omega | exact ⟨by decide, by decide, by decide⟩ | exact .inl ⟨by decide, by decide⟩ | exact .inl ⟨by omega, by omega⟩ | exact .inr ⟨by omega, by omega⟩ | fail) | ((fail_if_success refine Exists.intro (α := Nat → Nat → L2.St → Hp → Prop) ?_ ?_); (fail_if_success refine Exists.intro (α := L2.St → Hp → Prop) ?_ ?_); (fail_if_success refine Exists.intro (α := Nat → L2.St → Hp → Prop) ?_ ?_); apply Exists.intro) | ((refine And.intro ?_ ?_); first | with_reducible rfl | with_reducible assumption | rfl | ((with_reducible apply SqL.of); assumption) | ((with_reducible apply SqT.of); assumption) | ((with_reducible apply OwnC.cl); assumption) | (with_reducible exact isI_int _) | exact within_args | (with_reducible exact upd_same) | ((with_reducible apply Mid.o); assumption) | ((with_reducible apply Mid.t); assumption) | exact .inl ⟨rfl, _, SqL.of (by assumption)⟩ | (with_reducible exact ⟨_, SqT.of (by assumption)⟩) | (with_reducible exact ⟨_, SqL.of (by assumption)⟩) | omega | exact Nat.le_of_ble_eq_true rfl | exact nat9 (by omega) | exact ⟨_, rfl⟩ | (show _ ≤ sizeLine; decide) | exact ⟨by decide, by decide, by decide⟩ | exact .inl ⟨by decide, by decide⟩ | exact .inl ⟨by omega, by omega⟩ | exact .inr ⟨by omega, by omega⟩ | assumption | fail) | ((with_reducible refine iteF' ?_ ?_); first | rfl | exact decide_eq_false (by omega) | exact in_no (by omega) (by omega) | exact in_no (by omega) (by assumption) | (simp <;> fail) | fail) | ((with_reducible refine iteT' ?_ ?_); first | rfl | exact decide_eq_true (by omega) | (simp <;> fail) | fail))
          obtain ⟨DD, dpD, d1, d2, d3, d4, d5⟩ := tab_data (ms := ms) (List.range (2 ^ bn)) bb.1 bb.2
          refine .inr ⟨x, bn, ms, rfl, hl, lok, .inl ⟨rfl, fun q1 H10 hq1 S10 g1 => ?_⟩⟩
          replace M := M.same S10; replace hl := hl.same S10; replace g_D := S10 _ _ g_D
          clear S10 hq1
          repeat (first | (refine ⟨_, DD, rfl, dpD g1, d1, d2, d3, d4, ?_⟩) | (with_reducible refine st_tC ?_) | (with_reducible refine st_tOp ?_) | ((with_reducible apply st_n); rfl; rfl; (first | trivial | (show _ ≤ _; omega) | (show _ < _; omega) | (show _ ∨ _; omega) | assumption | exact ⟨by assumption, by omega⟩ | exact ⟨W30.one, by omega⟩ | fail); rfl) | (with_reducible refine st_i0 rfl rfl rfl ?_) | ((with_reducible refine st_i rfl rfl ?_ rfl ?_); first | omega | exact ⟨by decide, by decide, by decide⟩ | exact .inl ⟨by decide, by decide⟩ | exact .inl ⟨by omega, by omega⟩ | exact .inr ⟨by omega, by omega⟩ | fail) | ((fail_if_success refine Exists.intro (α := Nat → Nat → L2.St → Hp → Prop) ?_ ?_); (fail_if_success refine Exists.intro (α := L2.St → Hp → Prop) ?_ ?_); (fail_if_success refine Exists.intro (α := Nat → L2.St → Hp → Prop) ?_ ?_); apply Exists.intro) | ((refine And.intro ?_ ?_); first | with_reducible rfl | with_reducible assumption | rfl | ((with_reducible apply SqL.of); assumption) | ((with_reducible apply SqT.of); assumption) | ((with_reducible apply OwnC.cl); assumption) | (with_reducible exact isI_int _) | exact within_args | (with_reducible exact upd_same) | ((with_reducible apply Mid.o); assumption) | ((with_reducible apply Mid.t); assumption) | exact .inl ⟨rfl, _, SqL.of (by assumption)⟩ | (with_reducible exact ⟨_, SqT.of (by assumption)⟩) | (with_reducible exact ⟨_, SqL.of (by assumption)⟩) | omega | exact Nat.le_of_ble_eq_true rfl | exact nat9 (by omega) | exact ⟨_, rfl⟩ | (show _ ≤ sizeLine; decide) | exact ⟨by decide, by decide, by decide⟩ | exact .inl ⟨by decide, by decide⟩ | exact .inl ⟨by omega, by omega⟩ | exact .inr ⟨by omega, by omega⟩ | assumption | fail) | ((with_reducible refine iteF' ?_ ?_); first | rfl | exact decide_eq_false (by omega) | exact in_no (by omega) (by omega) | exact in_no (by omega) (by assumption) | (simp <;> fail) | fail) | ((with_reducible refine iteT' ?_ ?_); first | rfl | exact decide_eq_true (by omega) | (simp <;> fail) | fail))
          refine ⟨⟨by decide, by omega⟩, fun lr hlr => ?_⟩
          generalize hE : upd _ lr _ = H11
          obtain ⟨S_lr, g_lr⟩ := new_facts hlr hE
          clear hE
          replace M := M.same S_lr; replace hl := hl.same S_lr; replace g_D := S_lr _ _ g_D
          clear S_lr hlr g1
          have erg : rgV 0 ((2 ^ bn : Nat) : Int) = iv (List.range (2 ^ bn)) := by
            unfold rgV iv
            rw [show (((2 ^ bn : Nat) : Int) - 0).toNat = 2 ^ bn by omega]
            exact List.map_congr_left fun z _ => congrArg V.int (by omega)
          rw [erg] at g_lr
          repeat (first | (with_reducible refine st_tC ?_) | (with_reducible refine st_tOp ?_) | ((with_reducible apply st_n); rfl; rfl; (first | trivial | (show _ ≤ _; omega) | (show _ < _; omega) | (show _ ∨ _; omega) | assumption | exact ⟨by assumption, by omega⟩ | exact ⟨W30.one, by omega⟩ | fail); rfl) | (with_reducible refine st_i0 rfl rfl rfl ?_) | ((with_reducible refine st_i rfl rfl ?_ rfl ?_); first | omega | exact ⟨by decide, by decide, by decide⟩ | exact .inl ⟨by decide, by decide⟩ | exact .inl ⟨by omega, by omega⟩ | exact .inr ⟨by omega, by omega⟩ | fail) | ((fail_if_success refine Exists.intro (α := Nat → Nat → L2.St → Hp → Prop) ?_ ?_); (fail_if_success refine Exists.intro (α := L2.St → Hp → Prop) ?_ ?_); (fail_if_success refine Exists.intro (α := Nat → L2.St → Hp → Prop) ?_ ?_); apply Exists.intro) | ((refine And.intro ?_ ?_); first | with_reducible rfl | with_reducible assumption | rfl | ((with_reducible apply SqL.of); assumption) | ((with_reducible apply SqT.of); assumption) | ((with_reducible apply OwnC.cl); assumption) | (with_reducible exact isI_int _) | exact within_args | (with_reducible exact upd_same) | ((with_reducible apply Mid.o); assumption) | ((with_reducible apply Mid.t); assumption) | exact .inl ⟨rfl, _, SqL.of (by assumption)⟩ | (with_reducible exact ⟨_, SqT.of (by assumption)⟩) | (with_reducible exact ⟨_, SqL.of (by assumption)⟩) | omega | exact Nat.le_of_ble_eq_true rfl | exact nat9 (by omega) | exact ⟨_, rfl⟩ | (show _ ≤ sizeLine; decide) | exact ⟨by decide, by decide, by decide⟩ | exact .inl ⟨by decide, by decide⟩ | exact .inl ⟨by omega, by omega⟩ | exact .inr ⟨by omega, by omega⟩ | assumption | fail) | ((with_reducible refine iteF' ?_ ?_); first | rfl | exact decide_eq_false (by omega) | exact in_no (by omega) (by omega) | exact in_no (by omega) (by assumption) | (simp <;> fail) | fail) | ((with_reducible refine iteT' ?_ ?_); first | rfl | exact decide_eq_true (by omega) | (simp <;> fail) | fail))
          intro q2 H12 hq2 S12 g2
          replace M := M.same S12; replace hl := hl.same S12; replace g_D := S12 _ _ g_D
          clear S12 hq2 g_lr
          repeat (first | (refine ⟨_, DD, rfl, dpD g2, d1, d2, d3, d4, ?_⟩) | (with_reducible refine st_tC ?_) | (with_reducible refine st_tOp ?_) | ((with_reducible apply st_n); rfl; rfl; (first | trivial | (show _ ≤ _; omega) | (show _ < _; omega) | (show _ ∨ _; omega) | assumption | exact ⟨by assumption, by omega⟩ | exact ⟨W30.one, by omega⟩ | fail); rfl) | (with_reducible refine st_i0 rfl rfl rfl ?_) | ((with_reducible refine st_i rfl rfl ?_ rfl ?_); first | omega | exact ⟨by decide, by decide, by decide⟩ | exact .inl ⟨by decide, by decide⟩ | exact .inl ⟨by omega, by omega⟩ | exact .inr ⟨by omega, by omega⟩ | fail) | ((fail_if_success refine Exists.intro (α := Nat → Nat → L2.St → Hp → Prop) ?_ ?_); (fail_if_success refine Exists.intro (α := L2.St → Hp → Prop) ?_ ?_); (fail_if_success refine Exists.intro (α := Nat → L2.St → Hp → Prop) ?_ ?_); apply Exists.intro) | ((refine And.intro ?_ ?_); first | with_reducible rfl | with_reducible assumption | rfl | ((with_reducible apply SqL.of); assumption) | ((with_reducible apply SqT.of); assumption) | ((with_reducible apply OwnC.cl); assumption) | (with_reducible exact isI_int _) | exact within_args | (with_reducible exact upd_same) | ((with_reducible apply Mid.o); assumption) | ((with_reducible apply Mid.t); assumption) | exact .inl ⟨rfl, _, SqL.of (by assumption)⟩ | (with_reducible exact ⟨_, SqT.of (by assumption)⟩) | (with_reducible exact ⟨_, SqL.of (by assumption)⟩) | omega | exact Nat.le_of_ble_eq_true rfl | exact nat9 (by omega) | exact ⟨_, rfl⟩ | (show _ ≤ sizeLine; decide) | exact ⟨by decide, by decide, by decide⟩ | exact .inl ⟨by decide, by decide⟩ | exact .inl ⟨by omega, by omega⟩ | exact .inr ⟨by omega, by omega⟩ | assumption | fail) | ((with_reducible refine iteF' ?_ ?_); first | rfl | exact decide_eq_false (by omega) | exact in_no (by omega) (by omega) | exact in_no (by omega) (by assumption) | (simp <;> fail) | fail) | ((with_reducible refine iteT' ?_ ?_); first | rfl | exact decide_eq_true (by omega) | (simp <;> fail) | fail))
          clear g2
          refine .inr ⟨x, bn, ms, rfl, hl, lok, .inl ⟨rfl, fun q3 H13 hq3 S13 g3 => ?_⟩⟩
          replace M := M.same S13; replace hl := hl.same S13; replace g_D := S13 _ _ g_D
          clear S13 hq3
          repeat (first | (with_reducible refine st_tC ?_) | (with_reducible refine st_tOp ?_) | ((with_reducible apply st_n); rfl; rfl; (first | trivial | (show _ ≤ _; omega) | (show _ < _; omega) | (show _ ∨ _; omega) | assumption | exact ⟨by assumption, by omega⟩ | exact ⟨W30.one, by omega⟩ | fail); rfl) | (with_reducible refine st_i0 rfl rfl rfl ?_) | ((with_reducible refine st_i rfl rfl ?_ rfl ?_); first | omega | exact ⟨by decide, by decide, by decide⟩ | exact .inl ⟨by decide, by decide⟩ | exact .inl ⟨by omega, by omega⟩ | exact .inr ⟨by omega, by omega⟩ | fail) | ((fail_if_success refine Exists.intro (α := Nat → Nat → L2.St → Hp → Prop) ?_ ?_); (fail_if_success refine Exists.intro (α := L2.St → Hp → Prop) ?_ ?_); (fail_if_success refine Exists.intro (α := Nat → L2.St → Hp → Prop) ?_ ?_); apply Exists.intro) | ((refine And.intro ?_ ?_); first | with_reducible rfl | with_reducible assumption | rfl | ((with_reducible apply SqL.of); assumption) | ((with_reducible apply SqT.of); assumption) | ((with_reducible apply OwnC.cl); assumption) | (with_reducible exact isI_int _) | exact within_args | (with_reducible exact upd_same) | ((with_reducible apply Mid.o); assumption) | ((with_reducible apply Mid.t); assumption) | exact .inl ⟨rfl, _, SqL.of (by assumption)⟩ | (with_reducible exact ⟨_, SqT.of (by assumption)⟩) | (with_reducible exact ⟨_, SqL.of (by assumption)⟩) | omega | exact Nat.le_of_ble_eq_true rfl | exact nat9 (by omega) | exact ⟨_, rfl⟩ | (show _ ≤ sizeLine; decide) | exact ⟨by decide, by decide, by decide⟩ | exact .inl ⟨by decide, by decide⟩ | exact .inl ⟨by omega, by omega⟩ | exact .inr ⟨by omega, by omega⟩ | assumption | fail) | ((with_reducible refine iteF' ?_ ?_); first | rfl | exact decide_eq_false (by omega) | exact in_no (by omega) (by omega) | exact in_no (by omega) (by assumption) | (simp <;> fail) | fail) | ((with_reducible refine iteT' ?_ ?_); first | rfl | exact decide_eq_true (by omega) | (simp <;> fail) | fail))
          refine .inr ⟨x, bn, ms, rfl, hl, lok, .inl ⟨rfl, fun q4 H14 hq4 S14 g4 => ?_⟩⟩
          replace M := M.same S14; replace hl := hl.same S14; replace g_D := S14 _ _ g_D
          replace g3 := S14 _ _ g3
          clear S14 hq4
          refine ⟨DD, DD, dpD g3, dpD g4, d5, d5, _, rfl, ?_⟩
          rw [SeqAt.eqv_refl _ d2]
          refine iteF' rfl ?_
          clear g3 g4 dpD d1 d2 d3 d4 d5 DD
          repeat (first | (with_reducible refine st_tC ?_) | (with_reducible refine st_tOp ?_) | ((with_reducible apply st_n); rfl; rfl; (first | trivial | (show _ ≤ _; omega) | (show _ < _; omega) | (show _ ∨ _; omega) | assumption | exact ⟨by assumption, by omega⟩ | exact ⟨W30.one, by omega⟩ | fail); rfl) | (with_reducible refine st_i0 rfl rfl rfl ?_) | ((with_reducible refine st_i rfl rfl ?_ rfl ?_); first | omega | exact ⟨by decide, by decide, by decide⟩ | exact .inl ⟨by decide, by decide⟩ | exact .inl ⟨by omega, by omega⟩ | exact .inr ⟨by omega, by omega⟩ | fail) | ((fail_if_success refine Exists.intro (α := Nat → Nat → L2.St → Hp → Prop) ?_ ?_); (fail_if_success refine Exists.intro (α := L2.St → Hp → Prop) ?_ ?_); (fail_if_success refine Exists.intro (α := Nat → L2.St → Hp → Prop) ?_ ?_); apply Exists.intro) | ((refine And.intro ?_ ?_); first | with_reducible rfl | with_reducible assumption | rfl | ((with_reducible apply SqL.of); assumption) | ((with_reducible apply SqT.of); assumption) | ((with_reducible apply OwnC.cl); assumption) | (with_reducible exact isI_int _) | exact within_args | (with_reducible exact upd_same) | ((with_reducible apply Mid.o); assumption) | ((with_reducible apply Mid.t); assumption) | exact .inl ⟨rfl, _, SqL.of (by assumption)⟩ | (with_reducible exact ⟨_, SqT.of (by assumption)⟩) | (with_reducible exact ⟨_, SqL.of (by assumption)⟩) | omega | exact Nat.le_of_ble_eq_true rfl | exact nat9 (by omega) | exact ⟨_, rfl⟩ | (show _ ≤ sizeLine; decide) | exact ⟨by decide, by decide, by decide⟩ | exact .inl ⟨by decide, by decide⟩ | exact .inl ⟨by omega, by omega⟩ | exact .inr ⟨by omega, by omega⟩ | assumption | fail) | ((with_reducible refine iteF' ?_ ?_); first | rfl | exact decide_eq_false (by omega) | exact in_no (by omega) (by omega) | exact in_no (by omega) (by assumption) | (simp <;> fail) | fail) | ((with_reducible refine iteT' ?_ ?_); first | rfl | exact decide_eq_true (by omega) | (simp <;> fail) | fail))
          intro q5 H15 nq5 S15 g_q5
          have np_q5 := M.pD nq5
          replace M := M.same S15; replace hl := hl.same S15; replace g_D := S15 _ _ g_D
          clear S15 nq5
          refine ⟨q5, rfl, ⟨_, SqL.of g_q5⟩, fun F hF => ?_⟩
          have np_F := M.pD hF
          have nb_F := M.bD hF
          have nFD : F ≠ D := fun z => by rw [z, g_D] at hF; cases hF
          have nFq : F ≠ q5 := fun z => by rw [z, g_q5] at hF; cases hF
          obtain ⟨r1, r2, r3⟩ := row_facts bn (by omega)
          have Sf := same_new (o := .lst []) hF
          refine lc_list (K := K) (a := q5) (xs := iv (rowL bn)) (fun j H' => Mid [(Pt, LQ)] p b (2000 * i + 1030 + j) H' ∧ IsLay H' C x bn ms ∧ H' D = some (.lst (ms.map mv)) ∧ H' q5 = some (.lst (iv (rowL bn))) ∧ ∃ sh : List Nat, sh.Sublist ((rowL bn).take j) ∧ H' F = some (.lst (iv sh))) ⟨(M.same Sf).mono (by omega), hl.same Sf, Sf _ _ g_D, Sf _ _ g_q5, [], List.nil_sublist _, upd_same⟩ (fun j H' _ z => SqL.of z.2.2.2.1) ?_ ?_
          · clear M hl g_D g_q5
            rintro j y H16 hy ⟨M, hl, g_D, g_q5, sh, sub, g_F⟩
            obtain ⟨wn, hwn, rfl⟩ := iv_of hy
            have jl := (List.getElem?_eq_some_iff.mp hwn).1
            refine ⟨rfl, ?_⟩
            repeat (first | (with_reducible refine st_tC ?_) | (with_reducible refine st_tOp ?_) | ((with_reducible apply st_n); rfl; rfl; (first | trivial | (show _ ≤ _; omega) | (show _ < _; omega) | (show _ ∨ _; omega) | assumption | exact ⟨by assumption, by omega⟩ | exact ⟨W30.one, by omega⟩ | fail); rfl) | (with_reducible refine st_i0 rfl rfl rfl ?_) | ((with_reducible refine st_i rfl rfl ?_ rfl ?_); first | omega | exact ⟨by decide, by decide, by decide⟩ | exact .inl ⟨by decide, by decide⟩ | exact .inl ⟨by omega, by omega⟩ | exact .inr ⟨by omega, by omega⟩ | fail) | ((fail_if_success refine Exists.intro (α := Nat → Nat → L2.St → Hp → Prop) ?_ ?_); (fail_if_success refine Exists.intro (α := L2.St → Hp → Prop) ?_ ?_); (fail_if_success refine Exists.intro (α := Nat → L2.St → Hp → Prop) ?_ ?_); apply Exists.intro) | ((refine And.intro ?_ ?_); first | with_reducible rfl | with_reducible assumption | rfl | ((with_reducible apply SqL.of); assumption) | ((with_reducible apply SqT.of); assumption) | ((with_reducible apply OwnC.cl); assumption) | (with_reducible exact isI_int _) | exact within_args | (with_reducible exact upd_same) | ((with_reducible apply Mid.o); assumption) | ((with_reducible apply Mid.t); assumption) | exact .inl ⟨rfl, _, SqL.of (by assumption)⟩ | (with_reducible exact ⟨_, SqT.of (by assumption)⟩) | (with_reducible exact ⟨_, SqL.of (by assumption)⟩) | omega | exact Nat.le_of_ble_eq_true rfl | exact nat9 (by omega) | exact ⟨_, rfl⟩ | (show _ ≤ sizeLine; decide) | exact ⟨by decide, by decide, by decide⟩ | exact .inl ⟨by decide, by decide⟩ | exact .inl ⟨by omega, by omega⟩ | exact .inr ⟨by omega, by omega⟩ | assumption | fail) | ((with_reducible refine iteF' ?_ ?_); first | rfl | exact decide_eq_false (by omega) | exact in_no (by omega) (by omega) | exact in_no (by omega) (by assumption) | (simp <;> fail) | fail) | ((with_reducible refine iteT' ?_ ?_); first | rfl | exact decide_eq_true (by omega) | (simp <;> fail) | fail))
            intro r H17 r0 r1 O_r B_r; obtain ⟨_, _, _, hpX, _⟩ := id M.o; replace hl := hl.but B_r hpX; replace g_D := B_r _ _ g_D np_D; replace g_q5 := B_r _ _ g_q5 np_q5; replace g_F := B_r _ _ g_F np_F; replace M := M.draw O_r B_r; obtain ⟨r, rfl⟩ := Int.eq_ofNat_of_zero_le r0
            repeat (first | (with_reducible refine st_tC ?_) | (with_reducible refine st_tOp ?_) | ((with_reducible apply st_n); rfl; rfl; (first | trivial | (show _ ≤ _; omega) | (show _ < _; omega) | (show _ ∨ _; omega) | assumption | exact ⟨by assumption, by omega⟩ | exact ⟨W30.one, by omega⟩ | fail); rfl) | (with_reducible refine st_i0 rfl rfl rfl ?_) | ((with_reducible refine st_i rfl rfl ?_ rfl ?_); first | omega | exact ⟨by decide, by decide, by decide⟩ | exact .inl ⟨by decide, by decide⟩ | exact .inl ⟨by omega, by omega⟩ | exact .inr ⟨by omega, by omega⟩ | fail) | ((fail_if_success refine Exists.intro (α := Nat → Nat → L2.St → Hp → Prop) ?_ ?_); (fail_if_success refine Exists.intro (α := L2.St → Hp → Prop) ?_ ?_); (fail_if_success refine Exists.intro (α := Nat → L2.St → Hp → Prop) ?_ ?_); apply Exists.intro) | ((refine And.intro ?_ ?_); first | with_reducible rfl | with_reducible assumption | rfl | ((with_reducible apply SqL.of); assumption) | ((with_reducible apply SqT.of); assumption) | ((with_reducible apply OwnC.cl); assumption) | (with_reducible exact isI_int _) | exact within_args | (with_reducible exact upd_same) | ((with_reducible apply Mid.o); assumption) | ((with_reducible apply Mid.t); assumption) | exact .inl ⟨rfl, _, SqL.of (by assumption)⟩ | (with_reducible exact ⟨_, SqT.of (by assumption)⟩) | (with_reducible exact ⟨_, SqL.of (by assumption)⟩) | omega | exact Nat.le_of_ble_eq_true rfl | exact nat9 (by omega) | exact ⟨_, rfl⟩ | (show _ ≤ sizeLine; decide) | exact ⟨by decide, by decide, by decide⟩ | exact .inl ⟨by decide, by decide⟩ | exact .inl ⟨by omega, by omega⟩ | exact .inr ⟨by omega, by omega⟩ | assumption | fail) | ((with_reducible refine iteF' ?_ ?_); first | rfl | exact decide_eq_false (by omega) | exact in_no (by omega) (by omega) | exact in_no (by omega) (by assumption) | (simp <;> fail) | fail) | ((with_reducible refine iteT' ?_ ?_); first | rfl | exact decide_eq_true (by omega) | (simp <;> fail) | fail))
            have sl := sub.length_le
            rw [List.length_take] at sl
            have tk : (rowL bn).take (j + 1) = (rowL bn).take j ++ [wn] := by
              rw [List.take_add_one, hwn]
              rfl
            by_cases c : r = 0
            · subst c
              repeat (first | (with_reducible refine st_tC ?_) | (with_reducible refine st_tOp ?_) | ((with_reducible apply st_n); rfl; rfl; (first | trivial | (show _ ≤ _; omega) | (show _ < _; omega) | (show _ ∨ _; omega) | assumption | exact ⟨by assumption, by omega⟩ | exact ⟨W30.one, by omega⟩ | fail); rfl) | (with_reducible refine st_i0 rfl rfl rfl ?_) | ((with_reducible refine st_i rfl rfl ?_ rfl ?_); first | omega | exact ⟨by decide, by decide, by decide⟩ | exact .inl ⟨by decide, by decide⟩ | exact .inl ⟨by omega, by omega⟩ | exact .inr ⟨by omega, by omega⟩ | fail) | ((fail_if_success refine Exists.intro (α := Nat → Nat → L2.St → Hp → Prop) ?_ ?_); (fail_if_success refine Exists.intro (α := L2.St → Hp → Prop) ?_ ?_); (fail_if_success refine Exists.intro (α := Nat → L2.St → Hp → Prop) ?_ ?_); apply Exists.intro) | ((refine And.intro ?_ ?_); first | with_reducible rfl | with_reducible assumption | rfl | ((with_reducible apply SqL.of); assumption) | ((with_reducible apply SqT.of); assumption) | ((with_reducible apply OwnC.cl); assumption) | (with_reducible exact isI_int _) | exact within_args | (with_reducible exact upd_same) | ((with_reducible apply Mid.o); assumption) | ((with_reducible apply Mid.t); assumption) | exact .inl ⟨rfl, _, SqL.of (by assumption)⟩ | (with_reducible exact ⟨_, SqT.of (by assumption)⟩) | (with_reducible exact ⟨_, SqL.of (by assumption)⟩) | omega | exact Nat.le_of_ble_eq_true rfl | exact nat9 (by omega) | exact ⟨_, rfl⟩ | (show _ ≤ sizeLine; decide) | exact ⟨by decide, by decide, by decide⟩ | exact .inl ⟨by decide, by decide⟩ | exact .inl ⟨by omega, by omega⟩ | exact .inr ⟨by omega, by omega⟩ | assumption | fail) | ((with_reducible refine iteF' ?_ ?_); first | rfl | exact decide_eq_false (by omega) | exact in_no (by omega) (by omega) | exact in_no (by omega) (by assumption) | (simp <;> fail) | fail) | ((with_reducible refine iteT' ?_ ?_); first | rfl | exact decide_eq_true (by omega) | (simp <;> fail) | fail))
              obtain ⟨dy, fs, tm, k1, k2, k3, k4⟩ := hl
              refine ⟨by rw [iv_len, sizeLine_eq]; omega, (M.put g_F np_F nb_F).mono (by omega), ⟨dy, fs, tm, by rw [upd_ne (fun z => by rw [z, g_F] at k1; cases k1)]; exact k1, k2, k3, by rw [upd_ne (fun z => by rw [z, g_F] at k4; cases k4)]; exact k4⟩, by rw [upd_ne nFD.symm]; exact g_D, by rw [upd_ne nFq.symm]; exact g_q5, sh ++ [wn], ?_, by rw [upd_same, iv_app]; rfl⟩
              rw [tk]
              exact List.Sublist.append sub (List.Sublist.refl _)
            · refine iteF' (decide_eq_false fun z => c (by have := V.int.inj z; omega)) ?_
              refine ⟨M.mono (by omega), hl, g_D, g_q5, sh, ?_, g_F⟩
              rw [tk]
              exact sub.trans (List.sublist_append_left _ _)
          · clear M hl g_D g_q5
            rintro H16 ⟨M, hl, g_D, g_q5, sh, sub, g_F⟩
            replace M := M.mono (k := 2000 * i + 1300) (by rw [iv_len, r1]; omega)
            rw [iv_len, List.take_length] at sub
            have lotF : ∀ {K' : PySem.W.Frag} {H' : Hp} {q : Addr} {so : List Nat}, (so = sh ∨ so = sh.reverse) → (H' q = some (.lst (iv so)) ∨ H' q = some (.tup (iv so))) → IsLot K' H' (.ref q) (some 0) (some (hiM bn)) (so.map Int.ofNat) := fun {K' H' q so} eo e => by
              have so1 : so.length = sh.length := by rcases eo with rfl | rfl <;> simp
              have so2 : ∀ z ∈ so, z ∈ sh := by rcases eo with rfl | rfl <;> simp
              have so3 : so.Pairwise (· ≠ ·) := by
                rcases eo with rfl | rfl
                · exact r3.sublist sub
                · exact (List.pairwise_reverse.mpr ((r3.sublist sub).imp fun h z => h z.symm))
              have eiv : (so.map Int.ofNat).map V.int = iv so := by
                rw [List.map_map]
                rfl
              refine ⟨q, rfl, ?_, ?_, ?_, fun n hn => ?_, ?_⟩
              · rw [eiv]
                exact e.imp SqL.of SqT.of
              · have := sub.length_le
                rw [List.length_map]
                omega
              · intro H9 S9
                rcases e with e | e
                · exact isL_lst (S9 _ _ e)
                · exact isL_tup (S9 _ _ e)
              · obtain ⟨z, hz, rfl⟩ := List.mem_map.mp hn
                have := r2 z (sub.subset (so2 z hz))
                show (loOk (some 0) (z : Int) && hiOk (some (hiM bn)) (z : Int)) = true
                rw [show loOk (some 0) (z : Int) = true from (by show decide ((0 : Int) ≤ (z : Int)) = true; exact decide_eq_true (by omega)), show hiOk (some (hiM bn)) (z : Int) = true from decide_eq_true (by unfold hiM; omega)]
                rfl
              · exact List.Pairwise.map Int.ofNat (fun a b h z => h (Int.ofNat.inj z)) so3
            obtain ⟨DD, dpD, d1, d2, d3, d4, d5⟩ := tab_data (ms := ms) sh bb.1 bb.2
            repeat (first | (with_reducible refine st_tC ?_) | (with_reducible refine st_tOp ?_) | ((with_reducible apply st_n); rfl; rfl; (first | trivial | (show _ ≤ _; omega) | (show _ < _; omega) | (show _ ∨ _; omega) | assumption | exact ⟨by assumption, by omega⟩ | exact ⟨W30.one, by omega⟩ | fail); rfl) | (with_reducible refine st_i0 rfl rfl rfl ?_) | ((with_reducible refine st_i rfl rfl ?_ rfl ?_); first | omega | exact ⟨by decide, by decide, by decide⟩ | exact .inl ⟨by decide, by decide⟩ | exact .inl ⟨by omega, by omega⟩ | exact .inr ⟨by omega, by omega⟩ | fail) | ((fail_if_success refine Exists.intro (α := Nat → Nat → L2.St → Hp → Prop) ?_ ?_); (fail_if_success refine Exists.intro (α := L2.St → Hp → Prop) ?_ ?_); (fail_if_success refine Exists.intro (α := Nat → L2.St → Hp → Prop) ?_ ?_); apply Exists.intro) | ((refine And.intro ?_ ?_); first | with_reducible rfl | with_reducible assumption | rfl | ((with_reducible apply SqL.of); assumption) | ((with_reducible apply SqT.of); assumption) | ((with_reducible apply OwnC.cl); assumption) | (with_reducible exact isI_int _) | exact within_args | (with_reducible exact upd_same) | ((with_reducible apply Mid.o); assumption) | ((with_reducible apply Mid.t); assumption) | exact .inl ⟨rfl, _, SqL.of (by assumption)⟩ | (with_reducible exact ⟨_, SqT.of (by assumption)⟩) | (with_reducible exact ⟨_, SqL.of (by assumption)⟩) | omega | exact Nat.le_of_ble_eq_true rfl | exact nat9 (by omega) | exact ⟨_, rfl⟩ | (show _ ≤ sizeLine; decide) | exact ⟨by decide, by decide, by decide⟩ | exact .inl ⟨by decide, by decide⟩ | exact .inl ⟨by omega, by omega⟩ | exact .inr ⟨by omega, by omega⟩ | assumption | fail) | ((with_reducible refine iteF' ?_ ?_); first | rfl | exact decide_eq_false (by omega) | exact in_no (by omega) (by omega) | exact in_no (by omega) (by assumption) | (simp <;> fail) | fail) | ((with_reducible refine iteT' ?_ ?_); first | rfl | exact decide_eq_true (by omega) | (simp <;> fail) | fail))
            refine .inr ⟨x, bn, ms, rfl, hl, lok, .inr (.inr ⟨sh, (fun z => nomatch z), lotF (.inl rfl) (.inl g_F), fun q6 H17 hq6 S17 g6 => ?_⟩)⟩
            replace M := M.same S17; replace hl := hl.same S17; replace g_D := S17 _ _ g_D
            replace g_F := S17 _ _ g_F
            clear S17 hq6
            repeat (first | (refine ⟨_, DD, rfl, dpD g6, d1, d2, d3, d4, ?_⟩) | (with_reducible refine st_tC ?_) | (with_reducible refine st_tOp ?_) | ((with_reducible apply st_n); rfl; rfl; (first | trivial | (show _ ≤ _; omega) | (show _ < _; omega) | (show _ ∨ _; omega) | assumption | exact ⟨by assumption, by omega⟩ | exact ⟨W30.one, by omega⟩ | fail); rfl) | (with_reducible refine st_i0 rfl rfl rfl ?_) | ((with_reducible refine st_i rfl rfl ?_ rfl ?_); first | omega | exact ⟨by decide, by decide, by decide⟩ | exact .inl ⟨by decide, by decide⟩ | exact .inl ⟨by omega, by omega⟩ | exact .inr ⟨by omega, by omega⟩ | fail) | ((fail_if_success refine Exists.intro (α := Nat → Nat → L2.St → Hp → Prop) ?_ ?_); (fail_if_success refine Exists.intro (α := L2.St → Hp → Prop) ?_ ?_); (fail_if_success refine Exists.intro (α := Nat → L2.St → Hp → Prop) ?_ ?_); apply Exists.intro) | ((refine And.intro ?_ ?_); first | with_reducible rfl | with_reducible assumption | rfl | ((with_reducible apply SqL.of); assumption) | ((with_reducible apply SqT.of); assumption) | ((with_reducible apply OwnC.cl); assumption) | (with_reducible exact isI_int _) | exact within_args | (with_reducible exact upd_same) | ((with_reducible apply Mid.o); assumption) | ((with_reducible apply Mid.t); assumption) | exact .inl ⟨rfl, _, SqL.of (by assumption)⟩ | (with_reducible exact ⟨_, SqT.of (by assumption)⟩) | (with_reducible exact ⟨_, SqL.of (by assumption)⟩) | omega | exact Nat.le_of_ble_eq_true rfl | exact nat9 (by omega) | exact ⟨_, rfl⟩ | (show _ ≤ sizeLine; decide) | exact ⟨by decide, by decide, by decide⟩ | exact .inl ⟨by decide, by decide⟩ | exact .inl ⟨by omega, by omega⟩ | exact .inr ⟨by omega, by omega⟩ | assumption | fail) | ((with_reducible refine iteF' ?_ ?_); first | rfl | exact decide_eq_false (by omega) | exact in_no (by omega) (by omega) | exact in_no (by omega) (by assumption) | (simp <;> fail) | fail) | ((with_reducible refine iteT' ?_ ?_); first | rfl | exact decide_eq_true (by omega) | (simp <;> fail) | fail))
            intro q7 H18 hq7 S18 g7
            replace M := M.same S18; replace hl := hl.same S18; replace g_D := S18 _ _ g_D
            replace g_F := S18 _ _ g_F
            clear S18 hq7 g6
            repeat (first | (refine ⟨_, DD, rfl, dpD g7, d1, d2, d3, d4, ?_⟩) | (with_reducible refine st_tC ?_) | (with_reducible refine st_tOp ?_) | ((with_reducible apply st_n); rfl; rfl; (first | trivial | (show _ ≤ _; omega) | (show _ < _; omega) | (show _ ∨ _; omega) | assumption | exact ⟨by assumption, by omega⟩ | exact ⟨W30.one, by omega⟩ | fail); rfl) | (with_reducible refine st_i0 rfl rfl rfl ?_) | ((with_reducible refine st_i rfl rfl ?_ rfl ?_); first | omega | exact ⟨by decide, by decide, by decide⟩ | exact .inl ⟨by decide, by decide⟩ | exact .inl ⟨by omega, by omega⟩ | exact .inr ⟨by omega, by omega⟩ | fail) | ((fail_if_success refine Exists.intro (α := Nat → Nat → L2.St → Hp → Prop) ?_ ?_); (fail_if_success refine Exists.intro (α := L2.St → Hp → Prop) ?_ ?_); (fail_if_success refine Exists.intro (α := Nat → L2.St → Hp → Prop) ?_ ?_); apply Exists.intro) | ((refine And.intro ?_ ?_); first | with_reducible rfl | with_reducible assumption | rfl | ((with_reducible apply SqL.of); assumption) | ((with_reducible apply SqT.of); assumption) | ((with_reducible apply OwnC.cl); assumption) | (with_reducible exact isI_int _) | exact within_args | (with_reducible exact upd_same) | ((with_reducible apply Mid.o); assumption) | ((with_reducible apply Mid.t); assumption) | exact .inl ⟨rfl, _, SqL.of (by assumption)⟩ | (with_reducible exact ⟨_, SqT.of (by assumption)⟩) | (with_reducible exact ⟨_, SqL.of (by assumption)⟩) | omega | exact Nat.le_of_ble_eq_true rfl | exact nat9 (by omega) | exact ⟨_, rfl⟩ | (show _ ≤ sizeLine; decide) | exact ⟨by decide, by decide, by decide⟩ | exact .inl ⟨by decide, by decide⟩ | exact .inl ⟨by omega, by omega⟩ | exact .inr ⟨by omega, by omega⟩ | assumption | fail) | ((with_reducible refine iteF' ?_ ?_); first | rfl | exact decide_eq_false (by omega) | exact in_no (by omega) (by omega) | exact in_no (by omega) (by assumption) | (simp <;> fail) | fail) | ((with_reducible refine iteT' ?_ ?_); first | rfl | exact decide_eq_true (by omega) | (simp <;> fail) | fail))
            intro rv hrv
            generalize hE : upd _ rv _ = H19
            obtain ⟨S_rv, g_rv⟩ := new_facts hrv hE
            clear hE
            replace M := M.same S_rv; replace hl := hl.same S_rv; replace g_D := S_rv _ _ g_D
            replace g_F := S_rv _ _ g_F
            clear S_rv hrv g7
            repeat (first | (with_reducible refine st_tC ?_) | (with_reducible refine st_tOp ?_) | ((with_reducible apply st_n); rfl; rfl; (first | trivial | (show _ ≤ _; omega) | (show _ < _; omega) | (show _ ∨ _; omega) | assumption | exact ⟨by assumption, by omega⟩ | exact ⟨W30.one, by omega⟩ | fail); rfl) | (with_reducible refine st_i0 rfl rfl rfl ?_) | ((with_reducible refine st_i rfl rfl ?_ rfl ?_); first | omega | exact ⟨by decide, by decide, by decide⟩ | exact .inl ⟨by decide, by decide⟩ | exact .inl ⟨by omega, by omega⟩ | exact .inr ⟨by omega, by omega⟩ | fail) | ((fail_if_success refine Exists.intro (α := Nat → Nat → L2.St → Hp → Prop) ?_ ?_); (fail_if_success refine Exists.intro (α := L2.St → Hp → Prop) ?_ ?_); (fail_if_success refine Exists.intro (α := Nat → L2.St → Hp → Prop) ?_ ?_); apply Exists.intro) | ((refine And.intro ?_ ?_); first | with_reducible rfl | with_reducible assumption | rfl | ((with_reducible apply SqL.of); assumption) | ((with_reducible apply SqT.of); assumption) | ((with_reducible apply OwnC.cl); assumption) | (with_reducible exact isI_int _) | exact within_args | (with_reducible exact upd_same) | ((with_reducible apply Mid.o); assumption) | ((with_reducible apply Mid.t); assumption) | exact .inl ⟨rfl, _, SqL.of (by assumption)⟩ | (with_reducible exact ⟨_, SqT.of (by assumption)⟩) | (with_reducible exact ⟨_, SqL.of (by assumption)⟩) | omega | exact Nat.le_of_ble_eq_true rfl | exact nat9 (by omega) | exact ⟨_, rfl⟩ | (show _ ≤ sizeLine; decide) | exact ⟨by decide, by decide, by decide⟩ | exact .inl ⟨by decide, by decide⟩ | exact .inl ⟨by omega, by omega⟩ | exact .inr ⟨by omega, by omega⟩ | assumption | fail) | ((with_reducible refine iteF' ?_ ?_); first | rfl | exact decide_eq_false (by omega) | exact in_no (by omega) (by omega) | exact in_no (by omega) (by assumption) | (simp <;> fail) | fail) | ((with_reducible refine iteT' ?_ ?_); first | rfl | exact decide_eq_true (by omega) | (simp <;> fail) | fail))
            refine .inl ⟨SqL.of g_rv, fun tr htr => ?_⟩
            generalize hE : upd _ tr _ = H20
            obtain ⟨S_tr, g_tr⟩ := new_facts htr hE
            clear hE
            replace M := M.same S_tr; replace hl := hl.same S_tr; replace g_D := S_tr _ _ g_D
            replace g_F := S_tr _ _ g_F
            clear S_tr htr g_rv
            repeat (first | (with_reducible refine st_tC ?_) | (with_reducible refine st_tOp ?_) | ((with_reducible apply st_n); rfl; rfl; (first | trivial | (show _ ≤ _; omega) | (show _ < _; omega) | (show _ ∨ _; omega) | assumption | exact ⟨by assumption, by omega⟩ | exact ⟨W30.one, by omega⟩ | fail); rfl) | (with_reducible refine st_i0 rfl rfl rfl ?_) | ((with_reducible refine st_i rfl rfl ?_ rfl ?_); first | omega | exact ⟨by decide, by decide, by decide⟩ | exact .inl ⟨by decide, by decide⟩ | exact .inl ⟨by omega, by omega⟩ | exact .inr ⟨by omega, by omega⟩ | fail) | ((fail_if_success refine Exists.intro (α := Nat → Nat → L2.St → Hp → Prop) ?_ ?_); (fail_if_success refine Exists.intro (α := L2.St → Hp → Prop) ?_ ?_); (fail_if_success refine Exists.intro (α := Nat → L2.St → Hp → Prop) ?_ ?_); apply Exists.intro) | ((refine And.intro ?_ ?_); first | with_reducible rfl | with_reducible assumption | rfl | ((with_reducible apply SqL.of); assumption) | ((with_reducible apply SqT.of); assumption) | ((with_reducible apply OwnC.cl); assumption) | (with_reducible exact isI_int _) | exact within_args | (with_reducible exact upd_same) | ((with_reducible apply Mid.o); assumption) | ((with_reducible apply Mid.t); assumption) | exact .inl ⟨rfl, _, SqL.of (by assumption)⟩ | (with_reducible exact ⟨_, SqT.of (by assumption)⟩) | (with_reducible exact ⟨_, SqL.of (by assumption)⟩) | omega | exact Nat.le_of_ble_eq_true rfl | exact nat9 (by omega) | exact ⟨_, rfl⟩ | (show _ ≤ sizeLine; decide) | exact ⟨by decide, by decide, by decide⟩ | exact .inl ⟨by decide, by decide⟩ | exact .inl ⟨by omega, by omega⟩ | exact .inr ⟨by omega, by omega⟩ | assumption | fail) | ((with_reducible refine iteF' ?_ ?_); first | rfl | exact decide_eq_false (by omega) | exact in_no (by omega) (by omega) | exact in_no (by omega) (by assumption) | (simp <;> fail) | fail) | ((with_reducible refine iteT' ?_ ?_); first | rfl | exact decide_eq_true (by omega) | (simp <;> fail) | fail))
            have er : (iv sh).reverse = iv sh.reverse := (List.map_reverse ..).symm
            rw [er] at g_tr
            refine .inr ⟨x, bn, ms, rfl, hl, lok, .inr (.inr ⟨sh.reverse, (fun z => nomatch z), lotF (.inr rfl) (.inr g_tr), fun q8 H21 hq8 S21 g8 => ?_⟩)⟩
            rw [tab_rev] at g8
            replace M := M.same S21; replace hl := hl.same S21; replace g_D := S21 _ _ g_D
            replace g_F := S21 _ _ g_F
            clear S21 hq8 g_tr
            repeat (first | (with_reducible refine st_tC ?_) | (with_reducible refine st_tOp ?_) | ((with_reducible apply st_n); rfl; rfl; (first | trivial | (show _ ≤ _; omega) | (show _ < _; omega) | (show _ ∨ _; omega) | assumption | exact ⟨by assumption, by omega⟩ | exact ⟨W30.one, by omega⟩ | fail); rfl) | (with_reducible refine st_i0 rfl rfl rfl ?_) | ((with_reducible refine st_i rfl rfl ?_ rfl ?_); first | omega | exact ⟨by decide, by decide, by decide⟩ | exact .inl ⟨by decide, by decide⟩ | exact .inl ⟨by omega, by omega⟩ | exact .inr ⟨by omega, by omega⟩ | fail) | ((fail_if_success refine Exists.intro (α := Nat → Nat → L2.St → Hp → Prop) ?_ ?_); (fail_if_success refine Exists.intro (α := L2.St → Hp → Prop) ?_ ?_); (fail_if_success refine Exists.intro (α := Nat → L2.St → Hp → Prop) ?_ ?_); apply Exists.intro) | ((refine And.intro ?_ ?_); first | with_reducible rfl | with_reducible assumption | rfl | ((with_reducible apply SqL.of); assumption) | ((with_reducible apply SqT.of); assumption) | ((with_reducible apply OwnC.cl); assumption) | (with_reducible exact isI_int _) | exact within_args | (with_reducible exact upd_same) | ((with_reducible apply Mid.o); assumption) | ((with_reducible apply Mid.t); assumption) | exact .inl ⟨rfl, _, SqL.of (by assumption)⟩ | (with_reducible exact ⟨_, SqT.of (by assumption)⟩) | (with_reducible exact ⟨_, SqL.of (by assumption)⟩) | omega | exact Nat.le_of_ble_eq_true rfl | exact nat9 (by omega) | exact ⟨_, rfl⟩ | (show _ ≤ sizeLine; decide) | exact ⟨by decide, by decide, by decide⟩ | exact .inl ⟨by decide, by decide⟩ | exact .inl ⟨by omega, by omega⟩ | exact .inr ⟨by omega, by omega⟩ | assumption | fail) | ((with_reducible refine iteF' ?_ ?_); first | rfl | exact decide_eq_false (by omega) | exact in_no (by omega) (by omega) | exact in_no (by omega) (by assumption) | (simp <;> fail) | fail) | ((with_reducible refine iteT' ?_ ?_); first | rfl | exact decide_eq_true (by omega) | (simp <;> fail) | fail))
            refine .inr ⟨x, bn, ms, rfl, hl, lok, .inr (.inr ⟨sh, (fun z => nomatch z), lotF (.inl rfl) (.inl g_F), fun q9 H22 hq9 S22 g9 => ?_⟩)⟩
            replace M := M.same S22; replace hl := hl.same S22; replace g_D := S22 _ _ g_D
            replace g8 := S22 _ _ g8
            clear S22 hq9 g_F
            refine ⟨DD, DD, dpD g8, dpD g9, d5, d5, _, rfl, ?_⟩
            rw [SeqAt.eqv_refl _ d2]
            refine iteF' rfl ?_
            clear g8 g9 dpD d1 d2 d3 d4 d5 DD lotF sub er r1 r2 r3 hF np_F nb_F nFD nFq Sf g_q5 np_q5
            repeat (first | (with_reducible refine st_tC ?_) | (with_reducible refine st_tOp ?_) | ((with_reducible apply st_n); rfl; rfl; (first | trivial | (show _ ≤ _; omega) | (show _ < _; omega) | (show _ ∨ _; omega) | assumption | exact ⟨by assumption, by omega⟩ | exact ⟨W30.one, by omega⟩ | fail); rfl) | (with_reducible refine st_i0 rfl rfl rfl ?_) | ((with_reducible refine st_i rfl rfl ?_ rfl ?_); first | omega | exact ⟨by decide, by decide, by decide⟩ | exact .inl ⟨by decide, by decide⟩ | exact .inl ⟨by omega, by omega⟩ | exact .inr ⟨by omega, by omega⟩ | fail) | ((fail_if_success refine Exists.intro (α := Nat → Nat → L2.St → Hp → Prop) ?_ ?_); (fail_if_success refine Exists.intro (α := L2.St → Hp → Prop) ?_ ?_); (fail_if_success refine Exists.intro (α := Nat → L2.St → Hp → Prop) ?_ ?_); apply Exists.intro) | ((refine And.intro ?_ ?_); first | with_reducible rfl | with_reducible assumption | rfl | ((with_reducible apply SqL.of); assumption) | ((with_reducible apply SqT.of); assumption) | ((with_reducible apply OwnC.cl); assumption) | (with_reducible exact isI_int _) | exact within_args | (with_reducible exact upd_same) | ((with_reducible apply Mid.o); assumption) | ((with_reducible apply Mid.t); assumption) | exact .inl ⟨rfl, _, SqL.of (by assumption)⟩ | (with_reducible exact ⟨_, SqT.of (by assumption)⟩) | (with_reducible exact ⟨_, SqL.of (by assumption)⟩) | omega | exact Nat.le_of_ble_eq_true rfl | exact nat9 (by omega) | exact ⟨_, rfl⟩ | (show _ ≤ sizeLine; decide) | exact ⟨by decide, by decide, by decide⟩ | exact .inl ⟨by decide, by decide⟩ | exact .inl ⟨by omega, by omega⟩ | exact .inr ⟨by omega, by omega⟩ | assumption | fail) | ((with_reducible refine iteF' ?_ ?_); first | rfl | exact decide_eq_false (by omega) | exact in_no (by omega) (by omega) | exact in_no (by omega) (by assumption) | (simp <;> fail) | fail) | ((with_reducible refine iteT' ?_ ?_); first | rfl | exact decide_eq_true (by omega) | (simp <;> fail) | fail))
            intro la h_la; have np_la := M.pD h_la; have nb_la := M.bD h_la; generalize hE : upd _ la _ = H23; obtain ⟨S_la, g_la⟩ := new_facts h_la hE; clear hE; replace M := M.same S_la; replace hl := hl.same S_la; replace g_D := S_la _ _ g_D
            repeat (first | (with_reducible refine st_tC ?_) | (with_reducible refine st_tOp ?_) | ((with_reducible apply st_n); rfl; rfl; (first | trivial | (show _ ≤ _; omega) | (show _ < _; omega) | (show _ ∨ _; omega) | assumption | exact ⟨by assumption, by omega⟩ | exact ⟨W30.one, by omega⟩ | fail); rfl) | (with_reducible refine st_i0 rfl rfl rfl ?_) | ((with_reducible refine st_i rfl rfl ?_ rfl ?_); first | omega | exact ⟨by decide, by decide, by decide⟩ | exact .inl ⟨by decide, by decide⟩ | exact .inl ⟨by omega, by omega⟩ | exact .inr ⟨by omega, by omega⟩ | fail) | ((fail_if_success refine Exists.intro (α := Nat → Nat → L2.St → Hp → Prop) ?_ ?_); (fail_if_success refine Exists.intro (α := L2.St → Hp → Prop) ?_ ?_); (fail_if_success refine Exists.intro (α := Nat → L2.St → Hp → Prop) ?_ ?_); apply Exists.intro) | ((refine And.intro ?_ ?_); first | with_reducible rfl | with_reducible assumption | rfl | ((with_reducible apply SqL.of); assumption) | ((with_reducible apply SqT.of); assumption) | ((with_reducible apply OwnC.cl); assumption) | (with_reducible exact isI_int _) | exact within_args | (with_reducible exact upd_same) | ((with_reducible apply Mid.o); assumption) | ((with_reducible apply Mid.t); assumption) | exact .inl ⟨rfl, _, SqL.of (by assumption)⟩ | (with_reducible exact ⟨_, SqT.of (by assumption)⟩) | (with_reducible exact ⟨_, SqL.of (by assumption)⟩) | omega | exact Nat.le_of_ble_eq_true rfl | exact nat9 (by omega) | exact ⟨_, rfl⟩ | (show _ ≤ sizeLine; decide) | exact ⟨by decide, by decide, by decide⟩ | exact .inl ⟨by decide, by decide⟩ | exact .inl ⟨by omega, by omega⟩ | exact .inr ⟨by omega, by omega⟩ | assumption | fail) | ((with_reducible refine iteF' ?_ ?_); first | rfl | exact decide_eq_false (by omega) | exact in_no (by omega) (by omega) | exact in_no (by omega) (by assumption) | (simp <;> fail) | fail) | ((with_reducible refine iteT' ?_ ?_); first | rfl | exact decide_eq_true (by omega) | (simp <;> fail) | fail))
            intro lb h_lb; have np_lb := M.pD h_lb; have nb_lb := M.bD h_lb; generalize hE : upd _ lb _ = H24; obtain ⟨S_lb, g_lb⟩ := new_facts h_lb hE; clear hE; replace M := M.same S_lb; replace hl := hl.same S_lb; replace g_D := S_lb _ _ g_D; replace g_la := S_lb _ _ g_la
            repeat (first | (with_reducible refine st_tC ?_) | (with_reducible refine st_tOp ?_) | ((with_reducible apply st_n); rfl; rfl; (first | trivial | (show _ ≤ _; omega) | (show _ < _; omega) | (show _ ∨ _; omega) | assumption | exact ⟨by assumption, by omega⟩ | exact ⟨W30.one, by omega⟩ | fail); rfl) | (with_reducible refine st_i0 rfl rfl rfl ?_) | ((with_reducible refine st_i rfl rfl ?_ rfl ?_); first | omega | exact ⟨by decide, by decide, by decide⟩ | exact .inl ⟨by decide, by decide⟩ | exact .inl ⟨by omega, by omega⟩ | exact .inr ⟨by omega, by omega⟩ | fail) | ((fail_if_success refine Exists.intro (α := Nat → Nat → L2.St → Hp → Prop) ?_ ?_); (fail_if_success refine Exists.intro (α := L2.St → Hp → Prop) ?_ ?_); (fail_if_success refine Exists.intro (α := Nat → L2.St → Hp → Prop) ?_ ?_); apply Exists.intro) | ((refine And.intro ?_ ?_); first | with_reducible rfl | with_reducible assumption | rfl | ((with_reducible apply SqL.of); assumption) | ((with_reducible apply SqT.of); assumption) | ((with_reducible apply OwnC.cl); assumption) | (with_reducible exact isI_int _) | exact within_args | (with_reducible exact upd_same) | ((with_reducible apply Mid.o); assumption) | ((with_reducible apply Mid.t); assumption) | exact .inl ⟨rfl, _, SqL.of (by assumption)⟩ | (with_reducible exact ⟨_, SqT.of (by assumption)⟩) | (with_reducible exact ⟨_, SqL.of (by assumption)⟩) | omega | exact Nat.le_of_ble_eq_true rfl | exact nat9 (by omega) | exact ⟨_, rfl⟩ | (show _ ≤ sizeLine; decide) | exact ⟨by decide, by decide, by decide⟩ | exact .inl ⟨by decide, by decide⟩ | exact .inl ⟨by omega, by omega⟩ | exact .inr ⟨by omega, by omega⟩ | assumption | fail) | ((with_reducible refine iteF' ?_ ?_); first | rfl | exact decide_eq_false (by omega) | exact in_no (by omega) (by omega) | exact in_no (by omega) (by assumption) | (simp <;> fail) | fail) | ((with_reducible refine iteT' ?_ ?_); first | rfl | exact decide_eq_true (by omega) | (simp <;> fail) | fail))
            intro lc h_lc; have np_lc := M.pD h_lc; have nb_lc := M.bD h_lc; generalize hE : upd _ lc _ = H25; obtain ⟨S_lc, g_lc⟩ := new_facts h_lc hE; clear hE; replace M := M.same S_lc; replace hl := hl.same S_lc; replace g_D := S_lc _ _ g_D; replace g_la := S_lc _ _ g_la; replace g_lb := S_lc _ _ g_lb
            repeat (first | (with_reducible refine st_tC ?_) | (with_reducible refine st_tOp ?_) | ((with_reducible apply st_n); rfl; rfl; (first | trivial | (show _ ≤ _; omega) | (show _ < _; omega) | (show _ ∨ _; omega) | assumption | exact ⟨by assumption, by omega⟩ | exact ⟨W30.one, by omega⟩ | fail); rfl) | (with_reducible refine st_i0 rfl rfl rfl ?_) | ((with_reducible refine st_i rfl rfl ?_ rfl ?_); first | omega | exact ⟨by decide, by decide, by decide⟩ | exact .inl ⟨by decide, by decide⟩ | exact .inl ⟨by omega, by omega⟩ | exact .inr ⟨by omega, by omega⟩ | fail) | ((fail_if_success refine Exists.intro (α := Nat → Nat → L2.St → Hp → Prop) ?_ ?_); (fail_if_success refine Exists.intro (α := L2.St → Hp → Prop) ?_ ?_); (fail_if_success refine Exists.intro (α := Nat → L2.St → Hp → Prop) ?_ ?_); apply Exists.intro) | ((refine And.intro ?_ ?_); first | with_reducible rfl | with_reducible assumption | rfl | ((with_reducible apply SqL.of); assumption) | ((with_reducible apply SqT.of); assumption) | ((with_reducible apply OwnC.cl); assumption) | (with_reducible exact isI_int _) | exact within_args | (with_reducible exact upd_same) | ((with_reducible apply Mid.o); assumption) | ((with_reducible apply Mid.t); assumption) | exact .inl ⟨rfl, _, SqL.of (by assumption)⟩ | (with_reducible exact ⟨_, SqT.of (by assumption)⟩) | (with_reducible exact ⟨_, SqL.of (by assumption)⟩) | omega | exact Nat.le_of_ble_eq_true rfl | exact nat9 (by omega) | exact ⟨_, rfl⟩ | (show _ ≤ sizeLine; decide) | exact ⟨by decide, by decide, by decide⟩ | exact .inl ⟨by decide, by decide⟩ | exact .inl ⟨by omega, by omega⟩ | exact .inr ⟨by omega, by omega⟩ | assumption | fail) | ((with_reducible refine iteF' ?_ ?_); first | rfl | exact decide_eq_false (by omega) | exact in_no (by omega) (by omega) | exact in_no (by omega) (by assumption) | (simp <;> fail) | fail) | ((with_reducible refine iteT' ?_ ?_); first | rfl | exact decide_eq_true (by omega) | (simp <;> fail) | fail))
            intro ld h_ld; have np_ld := M.pD h_ld; have nb_ld := M.bD h_ld; generalize hE : upd _ ld _ = H26; obtain ⟨S_ld, g_ld⟩ := new_facts h_ld hE; clear hE; replace M := M.same S_ld; replace hl := hl.same S_ld; replace g_D := S_ld _ _ g_D; replace g_la := S_ld _ _ g_la; replace g_lb := S_ld _ _ g_lb; replace g_lc := S_ld _ _ g_lc
            repeat (first | (with_reducible refine st_tC ?_) | (with_reducible refine st_tOp ?_) | ((with_reducible apply st_n); rfl; rfl; (first | trivial | (show _ ≤ _; omega) | (show _ < _; omega) | (show _ ∨ _; omega) | assumption | exact ⟨by assumption, by omega⟩ | exact ⟨W30.one, by omega⟩ | fail); rfl) | (with_reducible refine st_i0 rfl rfl rfl ?_) | ((with_reducible refine st_i rfl rfl ?_ rfl ?_); first | omega | exact ⟨by decide, by decide, by decide⟩ | exact .inl ⟨by decide, by decide⟩ | exact .inl ⟨by omega, by omega⟩ | exact .inr ⟨by omega, by omega⟩ | fail) | ((fail_if_success refine Exists.intro (α := Nat → Nat → L2.St → Hp → Prop) ?_ ?_); (fail_if_success refine Exists.intro (α := L2.St → Hp → Prop) ?_ ?_); (fail_if_success refine Exists.intro (α := Nat → L2.St → Hp → Prop) ?_ ?_); apply Exists.intro) | ((refine And.intro ?_ ?_); first | with_reducible rfl | with_reducible assumption | rfl | ((with_reducible apply SqL.of); assumption) | ((with_reducible apply SqT.of); assumption) | ((with_reducible apply OwnC.cl); assumption) | (with_reducible exact isI_int _) | exact within_args | (with_reducible exact upd_same) | ((with_reducible apply Mid.o); assumption) | ((with_reducible apply Mid.t); assumption) | exact .inl ⟨rfl, _, SqL.of (by assumption)⟩ | (with_reducible exact ⟨_, SqT.of (by assumption)⟩) | (with_reducible exact ⟨_, SqL.of (by assumption)⟩) | omega | exact Nat.le_of_ble_eq_true rfl | exact nat9 (by omega) | exact ⟨_, rfl⟩ | (show _ ≤ sizeLine; decide) | exact ⟨by decide, by decide, by decide⟩ | exact .inl ⟨by decide, by decide⟩ | exact .inl ⟨by omega, by omega⟩ | exact .inr ⟨by omega, by omega⟩ | assumption | fail) | ((with_reducible refine iteF' ?_ ?_); first | rfl | exact decide_eq_false (by omega) | exact in_no (by omega) (by omega) | exact in_no (by omega) (by assumption) | (simp <;> fail) | fail) | ((with_reducible refine iteT' ?_ ?_); first | rfl | exact decide_eq_true (by omega) | (simp <;> fail) | fail))
            intro le h_le; have np_le := M.pD h_le; have nb_le := M.bD h_le; generalize hE : upd _ le _ = H27; obtain ⟨S_le, g_le⟩ := new_facts h_le hE; clear hE; replace M := M.same S_le; replace hl := hl.same S_le; replace g_D := S_le _ _ g_D; replace g_la := S_le _ _ g_la; replace g_lb := S_le _ _ g_lb; replace g_lc := S_le _ _ g_lc; replace g_ld := S_le _ _ g_ld
            repeat (first | (with_reducible refine st_tC ?_) | (with_reducible refine st_tOp ?_) | ((with_reducible apply st_n); rfl; rfl; (first | trivial | (show _ ≤ _; omega) | (show _ < _; omega) | (show _ ∨ _; omega) | assumption | exact ⟨by assumption, by omega⟩ | exact ⟨W30.one, by omega⟩ | fail); rfl) | (with_reducible refine st_i0 rfl rfl rfl ?_) | ((with_reducible refine st_i rfl rfl ?_ rfl ?_); first | omega | exact ⟨by decide, by decide, by decide⟩ | exact .inl ⟨by decide, by decide⟩ | exact .inl ⟨by omega, by omega⟩ | exact .inr ⟨by omega, by omega⟩ | fail) | ((fail_if_success refine Exists.intro (α := Nat → Nat → L2.St → Hp → Prop) ?_ ?_); (fail_if_success refine Exists.intro (α := L2.St → Hp → Prop) ?_ ?_); (fail_if_success refine Exists.intro (α := Nat → L2.St → Hp → Prop) ?_ ?_); apply Exists.intro) | ((refine And.intro ?_ ?_); first | with_reducible rfl | with_reducible assumption | rfl | ((with_reducible apply SqL.of); assumption) | ((with_reducible apply SqT.of); assumption) | ((with_reducible apply OwnC.cl); assumption) | (with_reducible exact isI_int _) | exact within_args | (with_reducible exact upd_same) | ((with_reducible apply Mid.o); assumption) | ((with_reducible apply Mid.t); assumption) | exact .inl ⟨rfl, _, SqL.of (by assumption)⟩ | (with_reducible exact ⟨_, SqT.of (by assumption)⟩) | (with_reducible exact ⟨_, SqL.of (by assumption)⟩) | omega | exact Nat.le_of_ble_eq_true rfl | exact nat9 (by omega) | exact ⟨_, rfl⟩ | (show _ ≤ sizeLine; decide) | exact ⟨by decide, by decide, by decide⟩ | exact .inl ⟨by decide, by decide⟩ | exact .inl ⟨by omega, by omega⟩ | exact .inr ⟨by omega, by omega⟩ | assumption | fail) | ((with_reducible refine iteF' ?_ ?_); first | rfl | exact decide_eq_false (by omega) | exact in_no (by omega) (by omega) | exact in_no (by omega) (by assumption) | (simp <;> fail) | fail) | ((with_reducible refine iteT' ?_ ?_); first | rfl | exact decide_eq_true (by omega) | (simp <;> fail) | fail))
            intro lf h_lf; have np_lf := M.pD h_lf; have nb_lf := M.bD h_lf; generalize hE : upd _ lf _ = H28; obtain ⟨S_lf, g_lf⟩ := new_facts h_lf hE; clear hE; replace M := M.same S_lf; replace hl := hl.same S_lf; replace g_D := S_lf _ _ g_D; replace g_la := S_lf _ _ g_la; replace g_lb := S_lf _ _ g_lb; replace g_lc := S_lf _ _ g_lc; replace g_ld := S_lf _ _ g_ld; replace g_le := S_lf _ _ g_le
            repeat (first | (with_reducible refine st_tC ?_) | (with_reducible refine st_tOp ?_) | ((with_reducible apply st_n); rfl; rfl; (first | trivial | (show _ ≤ _; omega) | (show _ < _; omega) | (show _ ∨ _; omega) | assumption | exact ⟨by assumption, by omega⟩ | exact ⟨W30.one, by omega⟩ | fail); rfl) | (with_reducible refine st_i0 rfl rfl rfl ?_) | ((with_reducible refine st_i rfl rfl ?_ rfl ?_); first | omega | exact ⟨by decide, by decide, by decide⟩ | exact .inl ⟨by decide, by decide⟩ | exact .inl ⟨by omega, by omega⟩ | exact .inr ⟨by omega, by omega⟩ | fail) | ((fail_if_success refine Exists.intro (α := Nat → Nat → L2.St → Hp → Prop) ?_ ?_); (fail_if_success refine Exists.intro (α := L2.St → Hp → Prop) ?_ ?_); (fail_if_success refine Exists.intro (α := Nat → L2.St → Hp → Prop) ?_ ?_); apply Exists.intro) | ((refine And.intro ?_ ?_); first | with_reducible rfl | with_reducible assumption | rfl | ((with_reducible apply SqL.of); assumption) | ((with_reducible apply SqT.of); assumption) | ((with_reducible apply OwnC.cl); assumption) | (with_reducible exact isI_int _) | exact within_args | (with_reducible exact upd_same) | ((with_reducible apply Mid.o); assumption) | ((with_reducible apply Mid.t); assumption) | exact .inl ⟨rfl, _, SqL.of (by assumption)⟩ | (with_reducible exact ⟨_, SqT.of (by assumption)⟩) | (with_reducible exact ⟨_, SqL.of (by assumption)⟩) | omega | exact Nat.le_of_ble_eq_true rfl | exact nat9 (by omega) | exact ⟨_, rfl⟩ | (show _ ≤ sizeLine; decide) | exact ⟨by decide, by decide, by decide⟩ | exact .inl ⟨by decide, by decide⟩ | exact .inl ⟨by omega, by omega⟩ | exact .inr ⟨by omega, by omega⟩ | assumption | fail) | ((with_reducible refine iteF' ?_ ?_); first | rfl | exact decide_eq_false (by omega) | exact in_no (by omega) (by omega) | exact in_no (by omega) (by assumption) | (simp <;> fail) | fail) | ((with_reducible refine iteT' ?_ ?_); first | rfl | exact decide_eq_true (by omega) | (simp <;> fail) | fail))
            intro lg h_lg; have np_lg := M.pD h_lg; have nb_lg := M.bD h_lg; generalize hE : upd _ lg _ = H29; obtain ⟨S_lg, g_lg⟩ := new_facts h_lg hE; clear hE; replace M := M.same S_lg; replace hl := hl.same S_lg; replace g_D := S_lg _ _ g_D; replace g_la := S_lg _ _ g_la; replace g_lb := S_lg _ _ g_lb; replace g_lc := S_lg _ _ g_lc; replace g_ld := S_lg _ _ g_ld; replace g_le := S_lg _ _ g_le; replace g_lf := S_lg _ _ g_lf
            repeat (first | (with_reducible refine st_tC ?_) | (with_reducible refine st_tOp ?_) | ((with_reducible apply st_n); rfl; rfl; (first | trivial | (show _ ≤ _; omega) | (show _ < _; omega) | (show _ ∨ _; omega) | assumption | exact ⟨by assumption, by omega⟩ | exact ⟨W30.one, by omega⟩ | fail); rfl) | (with_reducible refine st_i0 rfl rfl rfl ?_) | ((with_reducible refine st_i rfl rfl ?_ rfl ?_); first | omega | exact ⟨by decide, by decide, by decide⟩ | exact .inl ⟨by decide, by decide⟩ | exact .inl ⟨by omega, by omega⟩ | exact .inr ⟨by omega, by omega⟩ | fail) | ((fail_if_success refine Exists.intro (α := Nat → Nat → L2.St → Hp → Prop) ?_ ?_); (fail_if_success refine Exists.intro (α := L2.St → Hp → Prop) ?_ ?_); (fail_if_success refine Exists.intro (α := Nat → L2.St → Hp → Prop) ?_ ?_); apply Exists.intro) | ((refine And.intro ?_ ?_); first | with_reducible rfl | with_reducible assumption | rfl | ((with_reducible apply SqL.of); assumption) | ((with_reducible apply SqT.of); assumption) | ((with_reducible apply OwnC.cl); assumption) | (with_reducible exact isI_int _) | exact within_args | (with_reducible exact upd_same) | ((with_reducible apply Mid.o); assumption) | ((with_reducible apply Mid.t); assumption) | exact .inl ⟨rfl, _, SqL.of (by assumption)⟩ | (with_reducible exact ⟨_, SqT.of (by assumption)⟩) | (with_reducible exact ⟨_, SqL.of (by assumption)⟩) | omega | exact Nat.le_of_ble_eq_true rfl | exact nat9 (by omega) | exact ⟨_, rfl⟩ | (show _ ≤ sizeLine; decide) | exact ⟨by decide, by decide, by decide⟩ | exact .inl ⟨by decide, by decide⟩ | exact .inl ⟨by omega, by omega⟩ | exact .inr ⟨by omega, by omega⟩ | assumption | fail) | ((with_reducible refine iteF' ?_ ?_); first | rfl | exact decide_eq_false (by omega) | exact in_no (by omega) (by omega) | exact in_no (by omega) (by assumption) | (simp <;> fail) | fail) | ((with_reducible refine iteT' ?_ ?_); first | rfl | exact decide_eq_true (by omega) | (simp <;> fail) | fail))
            intro lh h_lh; have np_lh := M.pD h_lh; have nb_lh := M.bD h_lh; generalize hE : upd _ lh _ = H30; obtain ⟨S_lh, g_lh⟩ := new_facts h_lh hE; clear hE; replace M := M.same S_lh; replace hl := hl.same S_lh; replace g_D := S_lh _ _ g_D; replace g_la := S_lh _ _ g_la; replace g_lb := S_lh _ _ g_lb; replace g_lc := S_lh _ _ g_lc; replace g_ld := S_lh _ _ g_ld; replace g_le := S_lh _ _ g_le; replace g_lf := S_lh _ _ g_lf; replace g_lg := S_lh _ _ g_lg
            repeat (first | (with_reducible refine st_tC ?_) | (with_reducible refine st_tOp ?_) | ((with_reducible apply st_n); rfl; rfl; (first | trivial | (show _ ≤ _; omega) | (show _ < _; omega) | (show _ ∨ _; omega) | assumption | exact ⟨by assumption, by omega⟩ | exact ⟨W30.one, by omega⟩ | fail); rfl) | (with_reducible refine st_i0 rfl rfl rfl ?_) | ((with_reducible refine st_i rfl rfl ?_ rfl ?_); first | omega | exact ⟨by decide, by decide, by decide⟩ | exact .inl ⟨by decide, by decide⟩ | exact .inl ⟨by omega, by omega⟩ | exact .inr ⟨by omega, by omega⟩ | fail) | ((fail_if_success refine Exists.intro (α := Nat → Nat → L2.St → Hp → Prop) ?_ ?_); (fail_if_success refine Exists.intro (α := L2.St → Hp → Prop) ?_ ?_); (fail_if_success refine Exists.intro (α := Nat → L2.St → Hp → Prop) ?_ ?_); apply Exists.intro) | ((refine And.intro ?_ ?_); first | with_reducible rfl | with_reducible assumption | rfl | ((with_reducible apply SqL.of); assumption) | ((with_reducible apply SqT.of); assumption) | ((with_reducible apply OwnC.cl); assumption) | (with_reducible exact isI_int _) | exact within_args | (with_reducible exact upd_same) | ((with_reducible apply Mid.o); assumption) | ((with_reducible apply Mid.t); assumption) | exact .inl ⟨rfl, _, SqL.of (by assumption)⟩ | (with_reducible exact ⟨_, SqT.of (by assumption)⟩) | (with_reducible exact ⟨_, SqL.of (by assumption)⟩) | omega | exact Nat.le_of_ble_eq_true rfl | exact nat9 (by omega) | exact ⟨_, rfl⟩ | (show _ ≤ sizeLine; decide) | exact ⟨by decide, by decide, by decide⟩ | exact .inl ⟨by decide, by decide⟩ | exact .inl ⟨by omega, by omega⟩ | exact .inr ⟨by omega, by omega⟩ | assumption | fail) | ((with_reducible refine iteF' ?_ ?_); first | rfl | exact decide_eq_false (by omega) | exact in_no (by omega) (by omega) | exact in_no (by omega) (by assumption) | (simp <;> fail) | fail) | ((with_reducible refine iteT' ?_ ?_); first | rfl | exact decide_eq_true (by omega) | (simp <;> fail) | fail))
            intro lk h_lk; have np_lk := M.pD h_lk; have nb_lk := M.bD h_lk; generalize hE : upd _ lk _ = H31; obtain ⟨S_lk, g_lk⟩ := new_facts h_lk hE; clear hE; replace M := M.same S_lk; replace hl := hl.same S_lk; replace g_D := S_lk _ _ g_D; replace g_la := S_lk _ _ g_la; replace g_lb := S_lk _ _ g_lb; replace g_lc := S_lk _ _ g_lc; replace g_ld := S_lk _ _ g_ld; replace g_le := S_lk _ _ g_le; replace g_lf := S_lk _ _ g_lf; replace g_lg := S_lk _ _ g_lg; replace g_lh := S_lk _ _ g_lh
            repeat (first | (with_reducible refine st_tC ?_) | (with_reducible refine st_tOp ?_) | ((with_reducible apply st_n); rfl; rfl; (first | trivial | (show _ ≤ _; omega) | (show _ < _; omega) | (show _ ∨ _; omega) | assumption | exact ⟨by assumption, by omega⟩ | exact ⟨W30.one, by omega⟩ | fail); rfl) | (with_reducible refine st_i0 rfl rfl rfl ?_) | ((with_reducible refine st_i rfl rfl ?_ rfl ?_); first | omega | exact ⟨by decide, by decide, by decide⟩ | exact .inl ⟨by decide, by decide⟩ | exact .inl ⟨by omega, by omega⟩ | exact .inr ⟨by omega, by omega⟩ | fail) | ((fail_if_success refine Exists.intro (α := Nat → Nat → L2.St → Hp → Prop) ?_ ?_); (fail_if_success refine Exists.intro (α := L2.St → Hp → Prop) ?_ ?_); (fail_if_success refine Exists.intro (α := Nat → L2.St → Hp → Prop) ?_ ?_); apply Exists.intro) | ((refine And.intro ?_ ?_); first | with_reducible rfl | with_reducible assumption | rfl | ((with_reducible apply SqL.of); assumption) | ((with_reducible apply SqT.of); assumption) | ((with_reducible apply OwnC.cl); assumption) | (with_reducible exact isI_int _) | exact within_args | (with_reducible exact upd_same) | ((with_reducible apply Mid.o); assumption) | ((with_reducible apply Mid.t); assumption) | exact .inl ⟨rfl, _, SqL.of (by assumption)⟩ | (with_reducible exact ⟨_, SqT.of (by assumption)⟩) | (with_reducible exact ⟨_, SqL.of (by assumption)⟩) | omega | exact Nat.le_of_ble_eq_true rfl | exact nat9 (by omega) | exact ⟨_, rfl⟩ | (show _ ≤ sizeLine; decide) | exact ⟨by decide, by decide, by decide⟩ | exact .inl ⟨by decide, by decide⟩ | exact .inl ⟨by omega, by omega⟩ | exact .inr ⟨by omega, by omega⟩ | assumption | fail) | ((with_reducible refine iteF' ?_ ?_); first | rfl | exact decide_eq_false (by omega) | exact in_no (by omega) (by omega) | exact in_no (by omega) (by assumption) | (simp <;> fail) | fail) | ((with_reducible refine iteT' ?_ ?_); first | rfl | exact decide_eq_true (by omega) | (simp <;> fail) | fail))
            intro lo h_lo; have np_lo := M.pD h_lo; have nb_lo := M.bD h_lo; generalize hE : upd _ lo _ = H32; obtain ⟨S_lo, g_lo⟩ := new_facts h_lo hE; clear hE; replace M := M.same S_lo; replace hl := hl.same S_lo; replace g_D := S_lo _ _ g_D; replace g_la := S_lo _ _ g_la; replace g_lb := S_lo _ _ g_lb; replace g_lc := S_lo _ _ g_lc; replace g_ld := S_lo _ _ g_ld; replace g_le := S_lo _ _ g_le; replace g_lf := S_lo _ _ g_lf; replace g_lg := S_lo _ _ g_lg; replace g_lh := S_lo _ _ g_lh; replace g_lk := S_lo _ _ g_lk
            repeat (first | (with_reducible refine st_tC ?_) | (with_reducible refine st_tOp ?_) | ((with_reducible apply st_n); rfl; rfl; (first | trivial | (show _ ≤ _; omega) | (show _ < _; omega) | (show _ ∨ _; omega) | assumption | exact ⟨by assumption, by omega⟩ | exact ⟨W30.one, by omega⟩ | fail); rfl) | (with_reducible refine st_i0 rfl rfl rfl ?_) | ((with_reducible refine st_i rfl rfl ?_ rfl ?_); first | omega | exact ⟨by decide, by decide, by decide⟩ | exact .inl ⟨by decide, by decide⟩ | exact .inl ⟨by omega, by omega⟩ | exact .inr ⟨by omega, by omega⟩ | fail) | ((fail_if_success refine Exists.intro (α := Nat → Nat → L2.St → Hp → Prop) ?_ ?_); (fail_if_success refine Exists.intro (α := L2.St → Hp → Prop) ?_ ?_); (fail_if_success refine Exists.intro (α := Nat → L2.St → Hp → Prop) ?_ ?_); apply Exists.intro) | ((refine And.intro ?_ ?_); first | with_reducible rfl | with_reducible assumption | rfl | ((with_reducible apply SqL.of); assumption) | ((with_reducible apply SqT.of); assumption) | ((with_reducible apply OwnC.cl); assumption) | (with_reducible exact isI_int _) | exact within_args | (with_reducible exact upd_same) | ((with_reducible apply Mid.o); assumption) | ((with_reducible apply Mid.t); assumption) | exact .inl ⟨rfl, _, SqL.of (by assumption)⟩ | (with_reducible exact ⟨_, SqT.of (by assumption)⟩) | (with_reducible exact ⟨_, SqL.of (by assumption)⟩) | omega | exact Nat.le_of_ble_eq_true rfl | exact nat9 (by omega) | exact ⟨_, rfl⟩ | (show _ ≤ sizeLine; decide) | exact ⟨by decide, by decide, by decide⟩ | exact .inl ⟨by decide, by decide⟩ | exact .inl ⟨by omega, by omega⟩ | exact .inr ⟨by omega, by omega⟩ | assumption | fail) | ((with_reducible refine iteF' ?_ ?_); first | rfl | exact decide_eq_false (by omega) | exact in_no (by omega) (by omega) | exact in_no (by omega) (by assumption) | (simp <;> fail) | fail) | ((with_reducible refine iteT' ?_ ?_); first | rfl | exact decide_eq_true (by omega) | (simp <;> fail) | fail))
            intro j_odd odd H33 e_odd O_odd B_odd; obtain ⟨_, _, _, hpX, _⟩ := id M.o; replace hl := hl.but B_odd hpX; replace g_D := B_odd _ _ g_D np_D; replace g_la := B_odd _ _ g_la np_la; replace g_lb := B_odd _ _ g_lb np_lb; replace g_lc := B_odd _ _ g_lc np_lc; replace g_ld := B_odd _ _ g_ld np_ld; replace g_le := B_odd _ _ g_le np_le; replace g_lf := B_odd _ _ g_lf np_lf; replace g_lg := B_odd _ _ g_lg np_lg; replace g_lh := B_odd _ _ g_lh np_lh; replace g_lk := B_odd _ _ g_lk np_lk; replace M := M.draw O_odd B_odd; clear O_odd B_odd
            obtain ⟨dxS, fsS, tS, hxS, _⟩ := id hl
            repeat (first | (refine ⟨x, dxS, fsS, rfl, hxS, ?_⟩) | (refine ⟨x, bn, ms, rfl, hl, lok, fun H34 S34 => ?_⟩) | (with_reducible refine st_tC ?_) | (with_reducible refine st_tOp ?_) | ((with_reducible apply st_n); rfl; rfl; (first | trivial | (show _ ≤ _; omega) | (show _ < _; omega) | (show _ ∨ _; omega) | assumption | exact ⟨by assumption, by omega⟩ | exact ⟨W30.one, by omega⟩ | fail); rfl) | (with_reducible refine st_i0 rfl rfl rfl ?_) | ((with_reducible refine st_i rfl rfl ?_ rfl ?_); first | omega | exact ⟨by decide, by decide, by decide⟩ | exact .inl ⟨by decide, by decide⟩ | exact .inl ⟨by omega, by omega⟩ | exact .inr ⟨by omega, by omega⟩ | fail) | ((fail_if_success refine Exists.intro (α := Nat → Nat → L2.St → Hp → Prop) ?_ ?_); (fail_if_success refine Exists.intro (α := L2.St → Hp → Prop) ?_ ?_); (fail_if_success refine Exists.intro (α := Nat → L2.St → Hp → Prop) ?_ ?_); apply Exists.intro) | ((refine And.intro ?_ ?_); first | with_reducible rfl | with_reducible assumption | rfl | ((with_reducible apply SqL.of); assumption) | ((with_reducible apply SqT.of); assumption) | ((with_reducible apply OwnC.cl); assumption) | (with_reducible exact isI_int _) | exact within_args | (with_reducible exact upd_same) | ((with_reducible apply Mid.o); assumption) | ((with_reducible apply Mid.t); assumption) | exact .inl ⟨rfl, _, SqL.of (by assumption)⟩ | (with_reducible exact ⟨_, SqT.of (by assumption)⟩) | (with_reducible exact ⟨_, SqL.of (by assumption)⟩) | omega | exact Nat.le_of_ble_eq_true rfl | exact nat9 (by omega) | exact ⟨_, rfl⟩ | (show _ ≤ sizeLine; decide) | exact ⟨by decide, by decide, by decide⟩ | exact .inl ⟨by decide, by decide⟩ | exact .inl ⟨by omega, by omega⟩ | exact .inr ⟨by omega, by omega⟩ | assumption | fail) | ((with_reducible refine iteF' ?_ ?_); first | rfl | exact decide_eq_false (by omega) | exact in_no (by omega) (by omega) | exact in_no (by omega) (by assumption) | (simp <;> fail) | fail) | ((with_reducible refine iteT' ?_ ?_); first | rfl | exact decide_eq_true (by omega) | (simp <;> fail) | fail))
            clear hxS
            replace M := M.same S34; replace hl := hl.same S34; replace g_D := S34 _ _ g_D; replace g_la := S34 _ _ g_la; replace g_lb := S34 _ _ g_lb; replace g_lc := S34 _ _ g_lc; replace g_ld := S34 _ _ g_ld; replace g_le := S34 _ _ g_le; replace g_lf := S34 _ _ g_lf; replace g_lg := S34 _ _ g_lg; replace g_lh := S34 _ _ g_lh; replace g_lk := S34 _ _ g_lk
            repeat (first | (with_reducible refine st_tC ?_) | (with_reducible refine st_tOp ?_) | ((with_reducible apply st_n); rfl; rfl; (first | trivial | (show _ ≤ _; omega) | (show _ < _; omega) | (show _ ∨ _; omega) | assumption | exact ⟨by assumption, by omega⟩ | exact ⟨W30.one, by omega⟩ | fail); rfl) | (with_reducible refine st_i0 rfl rfl rfl ?_) | ((with_reducible refine st_i rfl rfl ?_ rfl ?_); first | omega | exact ⟨by decide, by decide, by decide⟩ | exact .inl ⟨by decide, by decide⟩ | exact .inl ⟨by omega, by omega⟩ | exact .inr ⟨by omega, by omega⟩ | fail) | ((fail_if_success refine Exists.intro (α := Nat → Nat → L2.St → Hp → Prop) ?_ ?_); (fail_if_success refine Exists.intro (α := L2.St → Hp → Prop) ?_ ?_); (fail_if_success refine Exists.intro (α := Nat → L2.St → Hp → Prop) ?_ ?_); apply Exists.intro) | ((refine And.intro ?_ ?_); first | with_reducible rfl | with_reducible assumption | rfl | ((with_reducible apply SqL.of); assumption) | ((with_reducible apply SqT.of); assumption) | ((with_reducible apply OwnC.cl); assumption) | (with_reducible exact isI_int _) | exact within_args | (with_reducible exact upd_same) | ((with_reducible apply Mid.o); assumption) | ((with_reducible apply Mid.t); assumption) | exact .inl ⟨rfl, _, SqL.of (by assumption)⟩ | (with_reducible exact ⟨_, SqT.of (by assumption)⟩) | (with_reducible exact ⟨_, SqL.of (by assumption)⟩) | omega | exact Nat.le_of_ble_eq_true rfl | exact nat9 (by omega) | exact ⟨_, rfl⟩ | (show _ ≤ sizeLine; decide) | exact ⟨by decide, by decide, by decide⟩ | exact .inl ⟨by decide, by decide⟩ | exact .inl ⟨by omega, by omega⟩ | exact .inr ⟨by omega, by omega⟩ | assumption | fail) | ((with_reducible refine iteF' ?_ ?_); first | rfl | exact decide_eq_false (by omega) | exact in_no (by omega) (by omega) | exact in_no (by omega) (by assumption) | (simp <;> fail) | fail) | ((with_reducible refine iteT' ?_ ?_); first | rfl | exact decide_eq_true (by omega) | (simp <;> fail) | fail))
            intro lm h_lm; have np_lm := M.pD h_lm; have nb_lm := M.bD h_lm; generalize hE : upd _ lm _ = H35; obtain ⟨S_lm, g_lm⟩ := new_facts h_lm hE; clear hE; replace M := M.same S_lm; replace hl := hl.same S_lm; replace g_D := S_lm _ _ g_D; replace g_la := S_lm _ _ g_la; replace g_lb := S_lm _ _ g_lb; replace g_lc := S_lm _ _ g_lc; replace g_ld := S_lm _ _ g_ld; replace g_le := S_lm _ _ g_le; replace g_lf := S_lm _ _ g_lf; replace g_lg := S_lm _ _ g_lg; replace g_lh := S_lm _ _ g_lh; replace g_lk := S_lm _ _ g_lk
            repeat (first | (with_reducible refine st_tC ?_) | (with_reducible refine st_tOp ?_) | ((with_reducible apply st_n); rfl; rfl; (first | trivial | (show _ ≤ _; omega) | (show _ < _; omega) | (show _ ∨ _; omega) | assumption | exact ⟨by assumption, by omega⟩ | exact ⟨W30.one, by omega⟩ | fail); rfl) | (with_reducible refine st_i0 rfl rfl rfl ?_) | ((with_reducible refine st_i rfl rfl ?_ rfl ?_); first | omega | exact ⟨by decide, by decide, by decide⟩ | exact .inl ⟨by decide, by decide⟩ | exact .inl ⟨by omega, by omega⟩ | exact .inr ⟨by omega, by omega⟩ | fail) | ((fail_if_success refine Exists.intro (α := Nat → Nat → L2.St → Hp → Prop) ?_ ?_); (fail_if_success refine Exists.intro (α := L2.St → Hp → Prop) ?_ ?_); (fail_if_success refine Exists.intro (α := Nat → L2.St → Hp → Prop) ?_ ?_); apply Exists.intro) | ((refine And.intro ?_ ?_); first | with_reducible rfl | with_reducible assumption | rfl | ((with_reducible apply SqL.of); assumption) | ((with_reducible apply SqT.of); assumption) | ((with_reducible apply OwnC.cl); assumption) | (with_reducible exact isI_int _) | exact within_args | (with_reducible exact upd_same) | ((with_reducible apply Mid.o); assumption) | ((with_reducible apply Mid.t); assumption) | exact .inl ⟨rfl, _, SqL.of (by assumption)⟩ | (with_reducible exact ⟨_, SqT.of (by assumption)⟩) | (with_reducible exact ⟨_, SqL.of (by assumption)⟩) | omega | exact Nat.le_of_ble_eq_true rfl | exact nat9 (by omega) | exact ⟨_, rfl⟩ | (show _ ≤ sizeLine; decide) | exact ⟨by decide, by decide, by decide⟩ | exact .inl ⟨by decide, by decide⟩ | exact .inl ⟨by omega, by omega⟩ | exact .inr ⟨by omega, by omega⟩ | assumption | fail) | ((with_reducible refine iteF' ?_ ?_); first | rfl | exact decide_eq_false (by omega) | exact in_no (by omega) (by omega) | exact in_no (by omega) (by assumption) | (simp <;> fail) | fail) | ((with_reducible refine iteT' ?_ ?_); first | rfl | exact decide_eq_true (by omega) | (simp <;> fail) | fail))
            intro ln h_ln; have np_ln := M.pD h_ln; have nb_ln := M.bD h_ln; generalize hE : upd _ ln _ = H36; obtain ⟨S_ln, g_ln⟩ := new_facts h_ln hE; clear hE; replace M := M.same S_ln; replace hl := hl.same S_ln; replace g_D := S_ln _ _ g_D; replace g_la := S_ln _ _ g_la; replace g_lb := S_ln _ _ g_lb; replace g_lc := S_ln _ _ g_lc; replace g_ld := S_ln _ _ g_ld; replace g_le := S_ln _ _ g_le; replace g_lf := S_ln _ _ g_lf; replace g_lg := S_ln _ _ g_lg; replace g_lh := S_ln _ _ g_lh; replace g_lk := S_ln _ _ g_lk; replace g_lm := S_ln _ _ g_lm
            repeat (first | (with_reducible refine st_tC ?_) | (with_reducible refine st_tOp ?_) | ((with_reducible apply st_n); rfl; rfl; (first | trivial | (show _ ≤ _; omega) | (show _ < _; omega) | (show _ ∨ _; omega) | assumption | exact ⟨by assumption, by omega⟩ | exact ⟨W30.one, by omega⟩ | fail); rfl) | (with_reducible refine st_i0 rfl rfl rfl ?_) | ((with_reducible refine st_i rfl rfl ?_ rfl ?_); first | omega | exact ⟨by decide, by decide, by decide⟩ | exact .inl ⟨by decide, by decide⟩ | exact .inl ⟨by omega, by omega⟩ | exact .inr ⟨by omega, by omega⟩ | fail) | ((fail_if_success refine Exists.intro (α := Nat → Nat → L2.St → Hp → Prop) ?_ ?_); (fail_if_success refine Exists.intro (α := L2.St → Hp → Prop) ?_ ?_); (fail_if_success refine Exists.intro (α := Nat → L2.St → Hp → Prop) ?_ ?_); apply Exists.intro) | ((refine And.intro ?_ ?_); first | with_reducible rfl | with_reducible assumption | rfl | ((with_reducible apply SqL.of); assumption) | ((with_reducible apply SqT.of); assumption) | ((with_reducible apply OwnC.cl); assumption) | (with_reducible exact isI_int _) | exact within_args | (with_reducible exact upd_same) | ((with_reducible apply Mid.o); assumption) | ((with_reducible apply Mid.t); assumption) | exact .inl ⟨rfl, _, SqL.of (by assumption)⟩ | (with_reducible exact ⟨_, SqT.of (by assumption)⟩) | (with_reducible exact ⟨_, SqL.of (by assumption)⟩) | omega | exact Nat.le_of_ble_eq_true rfl | exact nat9 (by omega) | exact ⟨_, rfl⟩ | (show _ ≤ sizeLine; decide) | exact ⟨by decide, by decide, by decide⟩ | exact .inl ⟨by decide, by decide⟩ | exact .inl ⟨by omega, by omega⟩ | exact .inr ⟨by omega, by omega⟩ | assumption | fail) | ((with_reducible refine iteF' ?_ ?_); first | rfl | exact decide_eq_false (by omega) | exact in_no (by omega) (by omega) | exact in_no (by omega) (by assumption) | (simp <;> fail) | fail) | ((with_reducible refine iteT' ?_ ?_); first | rfl | exact decide_eq_true (by omega) | (simp <;> fail) | fail))
            intro j_none' none' H37 e_none' O_none' B_none'; obtain ⟨_, _, _, hpX, _⟩ := id M.o; replace hl := hl.but B_none' hpX; replace g_D := B_none' _ _ g_D np_D; replace g_la := B_none' _ _ g_la np_la; replace g_lb := B_none' _ _ g_lb np_lb; replace g_lc := B_none' _ _ g_lc np_lc; replace g_ld := B_none' _ _ g_ld np_ld; replace g_le := B_none' _ _ g_le np_le; replace g_lf := B_none' _ _ g_lf np_lf; replace g_lg := B_none' _ _ g_lg np_lg; replace g_lh := B_none' _ _ g_lh np_lh; replace g_lk := B_none' _ _ g_lk np_lk; replace g_lm := B_none' _ _ g_lm np_lm; replace M := M.draw O_none' B_none'; clear O_none' B_none'
            have badO : ∀ H', Kp p H37 H' → NoLot (cxOf CX0 P w K mg base ["script", "tub", "turn", "bits", "most", "means", "word", "layout", "some", "odd", "none", "heard"] "law" (defScope s_law) f (.ref c0) A outer s H E).nox.K H' odd (some 0) (some (hiM bn)) := by
              intro H' kp
              have one : ∀ {a : Addr} {v : V} {c : Bool}, H' a = some (.lst [v]) → (∀ H2, Same H' H2 → IsI K H2 v c) → (c && inB (some 0) (some (hiM bn)) v) = false → NoLot K H' (.ref a) (some 0) (some (hiM bn)) := fun {a v c} e hi hb => by
                refine .inr ⟨a, [v], [false], rfl, .inl (SqL.of e), by show 1 ≤ 1050; decide, fun H2 S2 => isL_lst (S2 _ _ e), rfl, fun i x b hx hb2 => ?_, fun z => nomatch z⟩
                match i, hx, hb2 with
                | 0, hx, hb2 => cases hx; cases hb2; exact ⟨c, hi, hb.symm⟩
              have g_la := kp _ _ g_la np_la fun _ z => nomatch z
              have g_lb := kp _ _ g_lb np_lb fun _ z => nomatch z
              have g_lc := kp _ _ g_lc np_lc fun _ z => nomatch z
              have g_ld := kp _ _ g_ld np_ld fun _ z => nomatch z
              have g_le := kp _ _ g_le np_le fun _ z => nomatch z
              have g_lf := kp _ _ g_lf np_lf fun _ z => nomatch z
              have g_lg := kp _ _ g_lg np_lg fun _ z => nomatch z
              have g_lh := kp _ _ g_lh np_lh fun _ z => nomatch z
              have g_lk := kp _ _ g_lk np_lk fun _ z => nomatch z
              have two : ∀ {a : Addr} {v : Int} {b1 : Bool}, H' a = some (.lst [.int 0, .int v]) → b1 = inB (some 0) (some (hiM bn)) (.int v) → (b1 = true → v = 0) → NoLot K H' (.ref a) (some 0) (some (hiM bn)) := fun {a v b1} e eb ev => by
                refine .inr ⟨a, [.int 0, .int v], [true, b1], rfl, .inl (SqL.of e), by show 2 ≤ 1050; decide, fun H2 S2 => isL_lst (S2 _ _ e), rfl, fun i x b hx hb2 => ?_, fun z => ?_⟩
                · match i, hx, hb2 with
                  | 0, hx, hb2 => cases hx; cases hb2; exact ⟨true, fun H2 _ => isI_int _, (in_zero (b := bn)).symm⟩
                  | 1, hx, hb2 => cases hx; cases hb2; exact ⟨true, fun H2 _ => isI_int _, eb⟩
                · have : v = 0 := ev (by simpa using z)
                  subst this
                  exact ⟨[0, 0], rfl, by decide⟩
              match j_odd, e_odd with
              | 0, z => cases z; exact .inl fun H2 _ => isL_int _
              | 1, z => cases z; exact .inl fun H2 _ => isL_str _
              | 2, z => cases z; exact one g_la (fun H2 _ => isI_int _) (by rw [in_top]; rfl)
              | 3, z => cases z; exact two g_lb (b1 := true) (in_zero (b := bn)).symm (fun _ => rfl)
              | 4, z => cases z; exact one g_lc (fun H2 _ => isI_int _) rfl
              | 5, z => cases z; exact one g_ld (fun H2 _ => isI_bl _) rfl
              | 6, z => cases z; exact one g_le (fun H2 _ => isI_non) rfl
              | 7, z => cases z; exact .inl fun H2 S2 => isL_dK (S2 _ _ g_lf)
              | 8, z => cases z; exact one g_lh (fun H2 S2 => isI_lst (S2 _ _ g_lg)) rfl
              | 9, z => cases z; exact two g_lk (b1 := false) rfl (fun z => nomatch z)
              | j + 10, z => cases z
            have nn : odd ≠ V.non := by
              clear badO
              match j_odd, e_odd with
              | 0, z => cases z; exact nofun
              | 1, z => cases z; exact nofun
              | 2, z => cases z; exact nofun
              | 3, z => cases z; exact nofun
              | 4, z => cases z; exact nofun
              | 5, z => cases z; exact nofun
              | 6, z => cases z; exact nofun
              | 7, z => cases z; exact nofun
              | 8, z => cases z; exact nofun
              | 9, z => cases z; exact nofun
              | j + 10, z => cases z
            have badN : ∀ H', Kp p H37 H' → NotO K C H' none' := by
              intro H' kp
              match j_none', e_none' with
              | 0, z => cases z; exact O_Layout.non
              | 1, z => cases z; exact O_Layout.lst (kp _ _ g_D np_D fun _ z => nomatch z)
              | 2, z => cases z; exact O_Layout.str _
              | 3, z => cases z; exact O_Layout.int _
              | 4, z => cases z; exact O_Layout.lst (kp _ _ g_lm np_lm fun _ z => nomatch z)
              | j + 5, z => cases z
            clear g_la g_lb g_lc g_ld g_le g_lf g_lg g_lh g_lk e_odd e_none' g_ln g_D g_lm h_ln S_ln h_lm S_lm S34 h_lo S_lo h_la S_la h_lb S_lb h_lc S_lc h_ld S_ld h_le S_le h_lf S_lf h_lg S_lg h_lh S_lh h_lk S_lk
            have kp : Kp p H37 H37 := Kp.refl
            repeat (first | (with_reducible refine st_tC ?_) | (with_reducible refine st_tOp ?_) | ((with_reducible apply st_n); rfl; rfl; (first | trivial | (show _ ≤ _; omega) | (show _ < _; omega) | (show _ ∨ _; omega) | assumption | exact ⟨by assumption, by omega⟩ | exact ⟨W30.one, by omega⟩ | fail); rfl) | (with_reducible refine st_i0 rfl rfl rfl ?_) | ((with_reducible refine st_i rfl rfl ?_ rfl ?_); first | omega | exact ⟨by decide, by decide, by decide⟩ | exact .inl ⟨by decide, by decide⟩ | exact .inl ⟨by omega, by omega⟩ | exact .inr ⟨by omega, by omega⟩ | fail) | ((fail_if_success refine Exists.intro (α := Nat → Nat → L2.St → Hp → Prop) ?_ ?_); (fail_if_success refine Exists.intro (α := L2.St → Hp → Prop) ?_ ?_); (fail_if_success refine Exists.intro (α := Nat → L2.St → Hp → Prop) ?_ ?_); apply Exists.intro) | ((refine And.intro ?_ ?_); first | with_reducible rfl | with_reducible assumption | rfl | ((with_reducible apply SqL.of); assumption) | ((with_reducible apply SqT.of); assumption) | ((with_reducible apply OwnC.cl); assumption) | (with_reducible exact isI_int _) | exact within_args | (with_reducible exact upd_same) | ((with_reducible apply Mid.o); assumption) | ((with_reducible apply Mid.t); assumption) | exact .inl ⟨rfl, _, SqL.of (by assumption)⟩ | (with_reducible exact ⟨_, SqT.of (by assumption)⟩) | (with_reducible exact ⟨_, SqL.of (by assumption)⟩) | omega | exact Nat.le_of_ble_eq_true rfl | exact nat9 (by omega) | exact ⟨_, rfl⟩ | (show _ ≤ sizeLine; decide) | exact ⟨by decide, by decide, by decide⟩ | exact .inl ⟨by decide, by decide⟩ | exact .inl ⟨by omega, by omega⟩ | exact .inr ⟨by omega, by omega⟩ | assumption | fail) | ((with_reducible refine iteF' ?_ ?_); first | rfl | exact decide_eq_false (by omega) | exact in_no (by omega) (by omega) | exact in_no (by omega) (by assumption) | (simp <;> fail) | fail) | ((with_reducible refine iteT' ?_ ?_); first | rfl | exact decide_eq_true (by omega) | (simp <;> fail) | fail))
            intro Ha ea Ta
            replace M := M.ext ea Ta
            replace hl := lay_ext hl ea
            replace kp := kp.trans (.ext ea)
            repeat (first | (with_reducible refine st_tC ?_) | (with_reducible refine st_tOp ?_) | ((with_reducible apply st_n); rfl; rfl; (first | trivial | (show _ ≤ _; omega) | (show _ < _; omega) | (show _ ∨ _; omega) | assumption | exact ⟨by assumption, by omega⟩ | exact ⟨W30.one, by omega⟩ | fail); rfl) | (with_reducible refine st_i0 rfl rfl rfl ?_) | ((with_reducible refine st_i rfl rfl ?_ rfl ?_); first | omega | exact ⟨by decide, by decide, by decide⟩ | exact .inl ⟨by decide, by decide⟩ | exact .inl ⟨by omega, by omega⟩ | exact .inr ⟨by omega, by omega⟩ | fail) | ((fail_if_success refine Exists.intro (α := Nat → Nat → L2.St → Hp → Prop) ?_ ?_); (fail_if_success refine Exists.intro (α := L2.St → Hp → Prop) ?_ ?_); (fail_if_success refine Exists.intro (α := Nat → L2.St → Hp → Prop) ?_ ?_); apply Exists.intro) | ((refine And.intro ?_ ?_); first | with_reducible rfl | with_reducible assumption | rfl | ((with_reducible apply SqL.of); assumption) | ((with_reducible apply SqT.of); assumption) | ((with_reducible apply OwnC.cl); assumption) | (with_reducible exact isI_int _) | exact within_args | (with_reducible exact upd_same) | ((with_reducible apply Mid.o); assumption) | ((with_reducible apply Mid.t); assumption) | exact .inl ⟨rfl, _, SqL.of (by assumption)⟩ | (with_reducible exact ⟨_, SqT.of (by assumption)⟩) | (with_reducible exact ⟨_, SqL.of (by assumption)⟩) | omega | exact Nat.le_of_ble_eq_true rfl | exact nat9 (by omega) | exact ⟨_, rfl⟩ | (show _ ≤ sizeLine; decide) | exact ⟨by decide, by decide, by decide⟩ | exact .inl ⟨by decide, by decide⟩ | exact .inl ⟨by omega, by omega⟩ | exact .inr ⟨by omega, by omega⟩ | assumption | fail) | ((with_reducible refine iteF' ?_ ?_); first | rfl | exact decide_eq_false (by omega) | exact in_no (by omega) (by omega) | exact in_no (by omega) (by assumption) | (simp <;> fail) | fail) | ((with_reducible refine iteT' ?_ ?_); first | rfl | exact decide_eq_true (by omega) | (simp <;> fail) | fail))
            refine .inl ⟨badN _ kp, fun dd hdd => ⟨dd, "layout", rfl, upd_same, .inr ⟨rfl, fun t1 Hb Sb g_t1 => ?_⟩⟩⟩
            have Sd := (same_new (o := .xd [(("part" : Str), .str "layout")]) hdd).trans Sb
            replace M := M.same Sd; replace hl := hl.same Sd
            replace kp := kp.trans (.same Sd)
            clear badN Sd Sb hdd ea Ta
            repeat (first | (with_reducible refine st_tC ?_) | (with_reducible refine st_tOp ?_) | ((with_reducible apply st_n); rfl; rfl; (first | trivial | (show _ ≤ _; omega) | (show _ < _; omega) | (show _ ∨ _; omega) | assumption | exact ⟨by assumption, by omega⟩ | exact ⟨W30.one, by omega⟩ | fail); rfl) | (with_reducible refine st_i0 rfl rfl rfl ?_) | ((with_reducible refine st_i rfl rfl ?_ rfl ?_); first | omega | exact ⟨by decide, by decide, by decide⟩ | exact .inl ⟨by decide, by decide⟩ | exact .inl ⟨by omega, by omega⟩ | exact .inr ⟨by omega, by omega⟩ | fail) | ((fail_if_success refine Exists.intro (α := Nat → Nat → L2.St → Hp → Prop) ?_ ?_); (fail_if_success refine Exists.intro (α := L2.St → Hp → Prop) ?_ ?_); (fail_if_success refine Exists.intro (α := Nat → L2.St → Hp → Prop) ?_ ?_); apply Exists.intro) | ((refine And.intro ?_ ?_); first | with_reducible rfl | with_reducible assumption | rfl | ((with_reducible apply SqL.of); assumption) | ((with_reducible apply SqT.of); assumption) | ((with_reducible apply OwnC.cl); assumption) | (with_reducible exact isI_int _) | exact within_args | (with_reducible exact upd_same) | ((with_reducible apply Mid.o); assumption) | ((with_reducible apply Mid.t); assumption) | exact .inl ⟨rfl, _, SqL.of (by assumption)⟩ | (with_reducible exact ⟨_, SqT.of (by assumption)⟩) | (with_reducible exact ⟨_, SqL.of (by assumption)⟩) | omega | exact Nat.le_of_ble_eq_true rfl | exact nat9 (by omega) | exact ⟨_, rfl⟩ | (show _ ≤ sizeLine; decide) | exact ⟨by decide, by decide, by decide⟩ | exact .inl ⟨by decide, by decide⟩ | exact .inl ⟨by omega, by omega⟩ | exact .inr ⟨by omega, by omega⟩ | assumption | fail) | ((with_reducible refine iteF' ?_ ?_); first | rfl | exact decide_eq_false (by omega) | exact in_no (by omega) (by omega) | exact in_no (by omega) (by assumption) | (simp <;> fail) | fail) | ((with_reducible refine iteT' ?_ ?_); first | rfl | exact decide_eq_true (by omega) | (simp <;> fail) | fail))
            intro Ha ea Ta
            replace M := M.ext ea Ta
            replace hl := lay_ext hl ea
            replace kp := kp.trans (.ext ea)
            replace g_t1 := ea _ _ g_t1 (fun _ z => nomatch z)
            repeat (first | (with_reducible refine st_tC ?_) | (with_reducible refine st_tOp ?_) | ((with_reducible apply st_n); rfl; rfl; (first | trivial | (show _ ≤ _; omega) | (show _ < _; omega) | (show _ ∨ _; omega) | assumption | exact ⟨by assumption, by omega⟩ | exact ⟨W30.one, by omega⟩ | fail); rfl) | (with_reducible refine st_i0 rfl rfl rfl ?_) | ((with_reducible refine st_i rfl rfl ?_ rfl ?_); first | omega | exact ⟨by decide, by decide, by decide⟩ | exact .inl ⟨by decide, by decide⟩ | exact .inl ⟨by omega, by omega⟩ | exact .inr ⟨by omega, by omega⟩ | fail) | ((fail_if_success refine Exists.intro (α := Nat → Nat → L2.St → Hp → Prop) ?_ ?_); (fail_if_success refine Exists.intro (α := L2.St → Hp → Prop) ?_ ?_); (fail_if_success refine Exists.intro (α := Nat → L2.St → Hp → Prop) ?_ ?_); apply Exists.intro) | ((refine And.intro ?_ ?_); first | with_reducible rfl | with_reducible assumption | rfl | ((with_reducible apply SqL.of); assumption) | ((with_reducible apply SqT.of); assumption) | ((with_reducible apply OwnC.cl); assumption) | (with_reducible exact isI_int _) | exact within_args | (with_reducible exact upd_same) | ((with_reducible apply Mid.o); assumption) | ((with_reducible apply Mid.t); assumption) | exact .inl ⟨rfl, _, SqL.of (by assumption)⟩ | (with_reducible exact ⟨_, SqT.of (by assumption)⟩) | (with_reducible exact ⟨_, SqL.of (by assumption)⟩) | omega | exact Nat.le_of_ble_eq_true rfl | exact nat9 (by omega) | exact ⟨_, rfl⟩ | (show _ ≤ sizeLine; decide) | exact ⟨by decide, by decide, by decide⟩ | exact .inl ⟨by decide, by decide⟩ | exact .inl ⟨by omega, by omega⟩ | exact .inr ⟨by omega, by omega⟩ | assumption | fail) | ((with_reducible refine iteF' ?_ ?_); first | rfl | exact decide_eq_false (by omega) | exact in_no (by omega) (by omega) | exact in_no (by omega) (by assumption) | (simp <;> fail) | fail) | ((with_reducible refine iteT' ?_ ?_); first | rfl | exact decide_eq_true (by omega) | (simp <;> fail) | fail))
            refine .inr ⟨x, bn, ms, rfl, hl, lok, .inr (.inl ⟨nn, badO _ kp, fun Hx Sx dd hdd => ⟨dd, "words", rfl, upd_same, .inl ⟨rfl, fun t2 Hc Sc g_t2 => ?_⟩⟩⟩)⟩
            have Sd := Sx.trans ((same_new (o := .xd [(("part" : Str), .str "words")]) hdd).trans Sc)
            replace M := M.same Sd; replace hl := hl.same Sd; replace g_t1 := Sd _ _ g_t1
            clear badO Sd Sc Sx hdd ea Ta kp nn
            repeat (first | (with_reducible refine st_tC ?_) | (with_reducible refine st_tOp ?_) | ((with_reducible apply st_n); rfl; rfl; (first | trivial | (show _ ≤ _; omega) | (show _ < _; omega) | (show _ ∨ _; omega) | assumption | exact ⟨by assumption, by omega⟩ | exact ⟨W30.one, by omega⟩ | fail); rfl) | (with_reducible refine st_i0 rfl rfl rfl ?_) | ((with_reducible refine st_i rfl rfl ?_ rfl ?_); first | omega | exact ⟨by decide, by decide, by decide⟩ | exact .inl ⟨by decide, by decide⟩ | exact .inl ⟨by omega, by omega⟩ | exact .inr ⟨by omega, by omega⟩ | fail) | ((fail_if_success refine Exists.intro (α := Nat → Nat → L2.St → Hp → Prop) ?_ ?_); (fail_if_success refine Exists.intro (α := L2.St → Hp → Prop) ?_ ?_); (fail_if_success refine Exists.intro (α := Nat → L2.St → Hp → Prop) ?_ ?_); apply Exists.intro) | ((refine And.intro ?_ ?_); first | with_reducible rfl | with_reducible assumption | rfl | ((with_reducible apply SqL.of); assumption) | ((with_reducible apply SqT.of); assumption) | ((with_reducible apply OwnC.cl); assumption) | (with_reducible exact isI_int _) | exact within_args | (with_reducible exact upd_same) | ((with_reducible apply Mid.o); assumption) | ((with_reducible apply Mid.t); assumption) | exact .inl ⟨rfl, _, SqL.of (by assumption)⟩ | (with_reducible exact ⟨_, SqT.of (by assumption)⟩) | (with_reducible exact ⟨_, SqL.of (by assumption)⟩) | omega | exact Nat.le_of_ble_eq_true rfl | exact nat9 (by omega) | exact ⟨_, rfl⟩ | (show _ ≤ sizeLine; decide) | exact ⟨by decide, by decide, by decide⟩ | exact .inl ⟨by decide, by decide⟩ | exact .inl ⟨by omega, by omega⟩ | exact .inr ⟨by omega, by omega⟩ | assumption | fail) | ((with_reducible refine iteF' ?_ ?_); first | rfl | exact decide_eq_false (by omega) | exact in_no (by omega) (by omega) | exact in_no (by omega) (by assumption) | (simp <;> fail) | fail) | ((with_reducible refine iteT' ?_ ?_); first | rfl | exact decide_eq_true (by omega) | (simp <;> fail) | fail))
            intro h hh
            have s1 : Lq [(Pt, LQ)] p b _ h Hc (upd Hc h (.lst [V.ref t1, .ref t2])) [V.ref t1, .ref t2] [some ("layout", "layout"), some ("bits", "words")] :=
              ⟨Kq.upd, M.same (same_new hh), upd_same, M.pD hh, M.bD hh, ⟨t1, rfl, same_new hh _ _ g_t1⟩, ⟨t2, rfl, same_new hh _ _ g_t2⟩, trivial⟩
            obtain ⟨_, _, _, hpp, _⟩ := id M.o
            have isW : ∀ H', Kq p h Hc H' → IsLay H' C x bn ms := fun H' kq => IsLay.kq hl hh hpp kq
            clear hl M hpp g_t1 g_t2
            have M := s1.mid
            have g_h := s1.at'
            repeat (first | (refine ⟨.inl ⟨rfl, _, SqL.of (by assumption)⟩, ?_⟩) | (with_reducible refine st_tC ?_) | (with_reducible refine st_tOp ?_) | ((with_reducible apply st_n); rfl; rfl; (first | trivial | (show _ ≤ _; omega) | (show _ < _; omega) | (show _ ∨ _; omega) | assumption | exact ⟨by assumption, by omega⟩ | exact ⟨W30.one, by omega⟩ | fail); rfl) | (with_reducible refine st_i0 rfl rfl rfl ?_) | ((with_reducible refine st_i rfl rfl ?_ rfl ?_); first | omega | exact ⟨by decide, by decide, by decide⟩ | exact .inl ⟨by decide, by decide⟩ | exact .inl ⟨by omega, by omega⟩ | exact .inr ⟨by omega, by omega⟩ | fail) | ((fail_if_success refine Exists.intro (α := Nat → Nat → L2.St → Hp → Prop) ?_ ?_); (fail_if_success refine Exists.intro (α := L2.St → Hp → Prop) ?_ ?_); (fail_if_success refine Exists.intro (α := Nat → L2.St → Hp → Prop) ?_ ?_); apply Exists.intro) | ((refine And.intro ?_ ?_); first | with_reducible rfl | with_reducible assumption | rfl | ((with_reducible apply SqL.of); assumption) | ((with_reducible apply SqT.of); assumption) | ((with_reducible apply OwnC.cl); assumption) | (with_reducible exact isI_int _) | exact within_args | (with_reducible exact upd_same) | ((with_reducible apply Mid.o); assumption) | ((with_reducible apply Mid.t); assumption) | exact .inl ⟨rfl, _, SqL.of (by assumption)⟩ | (with_reducible exact ⟨_, SqT.of (by assumption)⟩) | (with_reducible exact ⟨_, SqL.of (by assumption)⟩) | omega | exact Nat.le_of_ble_eq_true rfl | exact nat9 (by omega) | exact ⟨_, rfl⟩ | (show _ ≤ sizeLine; decide) | exact ⟨by decide, by decide, by decide⟩ | exact .inl ⟨by decide, by decide⟩ | exact .inl ⟨by omega, by omega⟩ | exact .inr ⟨by omega, by omega⟩ | assumption | fail) | ((with_reducible refine iteF' ?_ ?_); first | rfl | exact decide_eq_false (by omega) | exact in_no (by omega) (by omega) | exact in_no (by omega) (by assumption) | (simp <;> fail) | fail) | ((with_reducible refine iteT' ?_ ?_); first | rfl | exact decide_eq_true (by omega) | (simp <;> fail) | fail))
            intro Ha2 ea Ta
            replace M := M.ext ea Ta
            have kq := s1.kp.trans (.ext ea)
            repeat (first | (with_reducible refine st_tC ?_) | (with_reducible refine st_tOp ?_) | ((with_reducible apply st_n); rfl; rfl; (first | trivial | (show _ ≤ _; omega) | (show _ < _; omega) | (show _ ∨ _; omega) | assumption | exact ⟨by assumption, by omega⟩ | exact ⟨W30.one, by omega⟩ | fail); rfl) | (with_reducible refine st_i0 rfl rfl rfl ?_) | ((with_reducible refine st_i rfl rfl ?_ rfl ?_); first | omega | exact ⟨by decide, by decide, by decide⟩ | exact .inl ⟨by decide, by decide⟩ | exact .inl ⟨by omega, by omega⟩ | exact .inr ⟨by omega, by omega⟩ | fail) | ((fail_if_success refine Exists.intro (α := Nat → Nat → L2.St → Hp → Prop) ?_ ?_); (fail_if_success refine Exists.intro (α := L2.St → Hp → Prop) ?_ ?_); (fail_if_success refine Exists.intro (α := Nat → L2.St → Hp → Prop) ?_ ?_); apply Exists.intro) | ((refine And.intro ?_ ?_); first | with_reducible rfl | with_reducible assumption | rfl | ((with_reducible apply SqL.of); assumption) | ((with_reducible apply SqT.of); assumption) | ((with_reducible apply OwnC.cl); assumption) | (with_reducible exact isI_int _) | exact within_args | (with_reducible exact upd_same) | ((with_reducible apply Mid.o); assumption) | ((with_reducible apply Mid.t); assumption) | exact .inl ⟨rfl, _, SqL.of (by assumption)⟩ | (with_reducible exact ⟨_, SqT.of (by assumption)⟩) | (with_reducible exact ⟨_, SqL.of (by assumption)⟩) | omega | exact Nat.le_of_ble_eq_true rfl | exact nat9 (by omega) | exact ⟨_, rfl⟩ | (show _ ≤ sizeLine; decide) | exact ⟨by decide, by decide, by decide⟩ | exact .inl ⟨by decide, by decide⟩ | exact .inl ⟨by omega, by omega⟩ | exact .inr ⟨by omega, by omega⟩ | assumption | fail) | ((with_reducible refine iteF' ?_ ?_); first | rfl | exact decide_eq_false (by omega) | exact in_no (by omega) (by omega) | exact in_no (by omega) (by assumption) | (simp <;> fail) | fail) | ((with_reducible refine iteT' ?_ ?_); first | rfl | exact decide_eq_true (by omega) | (simp <;> fail) | fail))
            intro e0 he0
            generalize hE : upd _ e0 _ = He0
            obtain ⟨Se0, ge0⟩ := new_facts he0 hE
            clear hE
            repeat (first | (with_reducible refine st_tC ?_) | (with_reducible refine st_tOp ?_) | ((with_reducible apply st_n); rfl; rfl; (first | trivial | (show _ ≤ _; omega) | (show _ < _; omega) | (show _ ∨ _; omega) | assumption | exact ⟨by assumption, by omega⟩ | exact ⟨W30.one, by omega⟩ | fail); rfl) | (with_reducible refine st_i0 rfl rfl rfl ?_) | ((with_reducible refine st_i rfl rfl ?_ rfl ?_); first | omega | exact ⟨by decide, by decide, by decide⟩ | exact .inl ⟨by decide, by decide⟩ | exact .inl ⟨by omega, by omega⟩ | exact .inr ⟨by omega, by omega⟩ | fail) | ((fail_if_success refine Exists.intro (α := Nat → Nat → L2.St → Hp → Prop) ?_ ?_); (fail_if_success refine Exists.intro (α := L2.St → Hp → Prop) ?_ ?_); (fail_if_success refine Exists.intro (α := Nat → L2.St → Hp → Prop) ?_ ?_); apply Exists.intro) | ((refine And.intro ?_ ?_); first | with_reducible rfl | with_reducible assumption | rfl | ((with_reducible apply SqL.of); assumption) | ((with_reducible apply SqT.of); assumption) | ((with_reducible apply OwnC.cl); assumption) | (with_reducible exact isI_int _) | exact within_args | (with_reducible exact upd_same) | ((with_reducible apply Mid.o); assumption) | ((with_reducible apply Mid.t); assumption) | exact .inl ⟨rfl, _, SqL.of (by assumption)⟩ | (with_reducible exact ⟨_, SqT.of (by assumption)⟩) | (with_reducible exact ⟨_, SqL.of (by assumption)⟩) | omega | exact Nat.le_of_ble_eq_true rfl | exact nat9 (by omega) | exact ⟨_, rfl⟩ | (show _ ≤ sizeLine; decide) | exact ⟨by decide, by decide, by decide⟩ | exact .inl ⟨by decide, by decide⟩ | exact .inl ⟨by omega, by omega⟩ | exact .inr ⟨by omega, by omega⟩ | assumption | fail) | ((with_reducible refine iteF' ?_ ?_); first | rfl | exact decide_eq_false (by omega) | exact in_no (by omega) (by omega) | exact in_no (by omega) (by assumption) | (simp <;> fail) | fail) | ((with_reducible refine iteT' ?_ ?_); first | rfl | exact decide_eq_true (by omega) | (simp <;> fail) | fail))
            refine .inr ⟨x, bn, ms, rfl, isW _ (kq.trans (.same Se0)), lok, .inr (.inr ⟨[], (fun z => nomatch z), ⟨e0, rfl, .inl (SqL.of ge0), Nat.zero_le _, fun H2 S2 => isL_lst (S2 _ _ ge0), (fun n hn => nomatch hn), .nil⟩, fun q1 Hz nz Sz gz => fun Hb Sb => ?_⟩)⟩
            obtain ⟨at1, s2⟩ := s1.sstep ea Ta (Se0.trans (Sz.trans Sb)) (k := none) (v := V.non) rfl
            clear s1 M g_h kq ea Ta isW gz Sz Sb nz Se0 ge0 he0
            repeat (first | (exact at1) | (with_reducible refine st_tC ?_) | (with_reducible refine st_tOp ?_) | ((with_reducible apply st_n); rfl; rfl; (first | trivial | (show _ ≤ _; omega) | (show _ < _; omega) | (show _ ∨ _; omega) | assumption | exact ⟨by assumption, by omega⟩ | exact ⟨W30.one, by omega⟩ | fail); rfl) | (with_reducible refine st_i0 rfl rfl rfl ?_) | ((with_reducible refine st_i rfl rfl ?_ rfl ?_); first | omega | exact ⟨by decide, by decide, by decide⟩ | exact .inl ⟨by decide, by decide⟩ | exact .inl ⟨by omega, by omega⟩ | exact .inr ⟨by omega, by omega⟩ | fail) | ((fail_if_success refine Exists.intro (α := Nat → Nat → L2.St → Hp → Prop) ?_ ?_); (fail_if_success refine Exists.intro (α := L2.St → Hp → Prop) ?_ ?_); (fail_if_success refine Exists.intro (α := Nat → L2.St → Hp → Prop) ?_ ?_); apply Exists.intro) | ((refine And.intro ?_ ?_); first | with_reducible rfl | with_reducible assumption | rfl | ((with_reducible apply SqL.of); assumption) | ((with_reducible apply SqT.of); assumption) | ((with_reducible apply OwnC.cl); assumption) | (with_reducible exact isI_int _) | exact within_args | (with_reducible exact upd_same) | ((with_reducible apply Mid.o); assumption) | ((with_reducible apply Mid.t); assumption) | exact .inl ⟨rfl, _, SqL.of (by assumption)⟩ | (with_reducible exact ⟨_, SqT.of (by assumption)⟩) | (with_reducible exact ⟨_, SqL.of (by assumption)⟩) | omega | exact Nat.le_of_ble_eq_true rfl | exact nat9 (by omega) | exact ⟨_, rfl⟩ | (show _ ≤ sizeLine; decide) | exact ⟨by decide, by decide, by decide⟩ | exact .inl ⟨by decide, by decide⟩ | exact .inl ⟨by omega, by omega⟩ | exact .inr ⟨by omega, by omega⟩ | assumption | fail) | ((with_reducible refine iteF' ?_ ?_); first | rfl | exact decide_eq_false (by omega) | exact in_no (by omega) (by omega) | exact in_no (by omega) (by assumption) | (simp <;> fail) | fail) | ((with_reducible refine iteT' ?_ ?_); first | rfl | exact decide_eq_true (by omega) | (simp <;> fail) | fail))
            clear at1
            have M := s2.mid
            have at9 := s2.at'
            have re9 := s2.res
            clear s2
            repeat (first | (with_reducible refine st_tC ?_) | (with_reducible refine st_tOp ?_) | ((with_reducible apply st_n); rfl; rfl; (first | trivial | (show _ ≤ _; omega) | (show _ < _; omega) | (show _ ∨ _; omega) | assumption | exact ⟨by assumption, by omega⟩ | exact ⟨W30.one, by omega⟩ | fail); rfl) | (with_reducible refine st_i0 rfl rfl rfl ?_) | ((with_reducible refine st_i rfl rfl ?_ rfl ?_); first | omega | exact ⟨by decide, by decide, by decide⟩ | exact .inl ⟨by decide, by decide⟩ | exact .inl ⟨by omega, by omega⟩ | exact .inr ⟨by omega, by omega⟩ | fail) | ((fail_if_success refine Exists.intro (α := Nat → Nat → L2.St → Hp → Prop) ?_ ?_); (fail_if_success refine Exists.intro (α := L2.St → Hp → Prop) ?_ ?_); (fail_if_success refine Exists.intro (α := Nat → L2.St → Hp → Prop) ?_ ?_); apply Exists.intro) | ((refine And.intro ?_ ?_); first | with_reducible rfl | with_reducible assumption | rfl | ((with_reducible apply SqL.of); assumption) | ((with_reducible apply SqT.of); assumption) | ((with_reducible apply OwnC.cl); assumption) | (with_reducible exact isI_int _) | exact within_args | (with_reducible exact upd_same) | ((with_reducible apply Mid.o); assumption) | ((with_reducible apply Mid.t); assumption) | exact .inl ⟨rfl, _, SqL.of (by assumption)⟩ | (with_reducible exact ⟨_, SqT.of (by assumption)⟩) | (with_reducible exact ⟨_, SqL.of (by assumption)⟩) | omega | exact Nat.le_of_ble_eq_true rfl | exact nat9 (by omega) | exact ⟨_, rfl⟩ | (show _ ≤ sizeLine; decide) | exact ⟨by decide, by decide, by decide⟩ | exact .inl ⟨by decide, by decide⟩ | exact .inl ⟨by omega, by omega⟩ | exact .inr ⟨by omega, by omega⟩ | assumption | fail) | ((with_reducible refine iteF' ?_ ?_); first | rfl | exact decide_eq_false (by omega) | exact in_no (by omega) (by omega) | exact in_no (by omega) (by assumption) | (simp <;> fail) | fail) | ((with_reducible refine iteT' ?_ ?_); first | rfl | exact decide_eq_true (by omega) | (simp <;> fail) | fail))
            intro q0 hq0
            generalize hE : upd _ q0 _ = Hq0
            obtain ⟨Sq0, gq0⟩ := new_facts hq0 hE
            clear hE
            replace M := M.same Sq0; replace at9 := Sq0 _ _ at9
            replace re9 := re9.keep (.same Sq0)
            have D := Res.snoc (H := Hq0) (vs := []) (ks := []) (k := some ("layout", "layout")) ⟨q0, rfl, gq0⟩ trivial
            repeat (first | (with_reducible refine st_tC ?_) | (with_reducible refine st_tOp ?_) | ((with_reducible apply st_n); rfl; rfl; (first | trivial | (show _ ≤ _; omega) | (show _ < _; omega) | (show _ ∨ _; omega) | assumption | exact ⟨by assumption, by omega⟩ | exact ⟨W30.one, by omega⟩ | fail); rfl) | (with_reducible refine st_i0 rfl rfl rfl ?_) | ((with_reducible refine st_i rfl rfl ?_ rfl ?_); first | omega | exact ⟨by decide, by decide, by decide⟩ | exact .inl ⟨by decide, by decide⟩ | exact .inl ⟨by omega, by omega⟩ | exact .inr ⟨by omega, by omega⟩ | fail) | ((fail_if_success refine Exists.intro (α := Nat → Nat → L2.St → Hp → Prop) ?_ ?_); (fail_if_success refine Exists.intro (α := L2.St → Hp → Prop) ?_ ?_); (fail_if_success refine Exists.intro (α := Nat → L2.St → Hp → Prop) ?_ ?_); apply Exists.intro) | ((refine And.intro ?_ ?_); first | with_reducible rfl | with_reducible assumption | rfl | ((with_reducible apply SqL.of); assumption) | ((with_reducible apply SqT.of); assumption) | ((with_reducible apply OwnC.cl); assumption) | (with_reducible exact isI_int _) | exact within_args | (with_reducible exact upd_same) | ((with_reducible apply Mid.o); assumption) | ((with_reducible apply Mid.t); assumption) | exact .inl ⟨rfl, _, SqL.of (by assumption)⟩ | (with_reducible exact ⟨_, SqT.of (by assumption)⟩) | (with_reducible exact ⟨_, SqL.of (by assumption)⟩) | omega | exact Nat.le_of_ble_eq_true rfl | exact nat9 (by omega) | exact ⟨_, rfl⟩ | (show _ ≤ sizeLine; decide) | exact ⟨by decide, by decide, by decide⟩ | exact .inl ⟨by decide, by decide⟩ | exact .inl ⟨by omega, by omega⟩ | exact .inr ⟨by omega, by omega⟩ | assumption | fail) | ((with_reducible refine iteF' ?_ ?_); first | rfl | exact decide_eq_false (by omega) | exact in_no (by omega) (by omega) | exact in_no (by omega) (by assumption) | (simp <;> fail) | fail) | ((with_reducible refine iteT' ?_ ?_); first | rfl | exact decide_eq_true (by omega) | (simp <;> fail) | fail))
            intro q1 hq1
            generalize hE : upd _ q1 _ = Hq1
            obtain ⟨Sq1, gq1⟩ := new_facts hq1 hE
            clear hE
            replace M := M.same Sq1; replace at9 := Sq1 _ _ at9
            replace re9 := re9.keep (.same Sq1)
            have D := Res.snoc (k := some ("bits", "words")) ⟨q1, rfl, gq1⟩ (D.keep (.same Sq1))
            repeat (first | (with_reducible refine st_tC ?_) | (with_reducible refine st_tOp ?_) | ((with_reducible apply st_n); rfl; rfl; (first | trivial | (show _ ≤ _; omega) | (show _ < _; omega) | (show _ ∨ _; omega) | assumption | exact ⟨by assumption, by omega⟩ | exact ⟨W30.one, by omega⟩ | fail); rfl) | (with_reducible refine st_i0 rfl rfl rfl ?_) | ((with_reducible refine st_i rfl rfl ?_ rfl ?_); first | omega | exact ⟨by decide, by decide, by decide⟩ | exact .inl ⟨by decide, by decide⟩ | exact .inl ⟨by omega, by omega⟩ | exact .inr ⟨by omega, by omega⟩ | fail) | ((fail_if_success refine Exists.intro (α := Nat → Nat → L2.St → Hp → Prop) ?_ ?_); (fail_if_success refine Exists.intro (α := L2.St → Hp → Prop) ?_ ?_); (fail_if_success refine Exists.intro (α := Nat → L2.St → Hp → Prop) ?_ ?_); apply Exists.intro) | ((refine And.intro ?_ ?_); first | with_reducible rfl | with_reducible assumption | rfl | ((with_reducible apply SqL.of); assumption) | ((with_reducible apply SqT.of); assumption) | ((with_reducible apply OwnC.cl); assumption) | (with_reducible exact isI_int _) | exact within_args | (with_reducible exact upd_same) | ((with_reducible apply Mid.o); assumption) | ((with_reducible apply Mid.t); assumption) | exact .inl ⟨rfl, _, SqL.of (by assumption)⟩ | (with_reducible exact ⟨_, SqT.of (by assumption)⟩) | (with_reducible exact ⟨_, SqL.of (by assumption)⟩) | omega | exact Nat.le_of_ble_eq_true rfl | exact nat9 (by omega) | exact ⟨_, rfl⟩ | (show _ ≤ sizeLine; decide) | exact ⟨by decide, by decide, by decide⟩ | exact .inl ⟨by decide, by decide⟩ | exact .inl ⟨by omega, by omega⟩ | exact .inr ⟨by omega, by omega⟩ | assumption | fail) | ((with_reducible refine iteF' ?_ ?_); first | rfl | exact decide_eq_false (by omega) | exact in_no (by omega) (by omega) | exact in_no (by omega) (by assumption) | (simp <;> fail) | fail) | ((with_reducible refine iteT' ?_ ?_); first | rfl | exact decide_eq_true (by omega) | (simp <;> fail) | fail))
            have D := Res.snoc (k := none) (v := V.non) rfl D
            intro qa hqa
            generalize hE : upd _ qa _ = Hqa
            obtain ⟨Sqa, gqa⟩ := new_facts hqa hE
            clear hE
            replace M := M.same Sqa; replace at9 := Sqa _ _ at9
            replace re9 := re9.keep (.same Sqa)
            replace D := D.keep (.same Sqa)
            repeat (first | (refine ⟨.list (dueK.map entD), .list (dueK.map entD), Dp.lst (SqL.of at9) re9.dp, Dp.lst (SqL.of gqa) D.dp, (by decide +kernel), (by decide +kernel), ?_⟩) | (with_reducible refine st_tC ?_) | (with_reducible refine st_tOp ?_) | ((with_reducible apply st_n); rfl; rfl; (first | trivial | (show _ ≤ _; omega) | (show _ < _; omega) | (show _ ∨ _; omega) | assumption | exact ⟨by assumption, by omega⟩ | exact ⟨W30.one, by omega⟩ | fail); rfl) | (with_reducible refine st_i0 rfl rfl rfl ?_) | ((with_reducible refine st_i rfl rfl ?_ rfl ?_); first | omega | exact ⟨by decide, by decide, by decide⟩ | exact .inl ⟨by decide, by decide⟩ | exact .inl ⟨by omega, by omega⟩ | exact .inr ⟨by omega, by omega⟩ | fail) | ((fail_if_success refine Exists.intro (α := Nat → Nat → L2.St → Hp → Prop) ?_ ?_); (fail_if_success refine Exists.intro (α := L2.St → Hp → Prop) ?_ ?_); (fail_if_success refine Exists.intro (α := Nat → L2.St → Hp → Prop) ?_ ?_); apply Exists.intro) | ((refine And.intro ?_ ?_); first | with_reducible rfl | with_reducible assumption | rfl | ((with_reducible apply SqL.of); assumption) | ((with_reducible apply SqT.of); assumption) | ((with_reducible apply OwnC.cl); assumption) | (with_reducible exact isI_int _) | exact within_args | (with_reducible exact upd_same) | ((with_reducible apply Mid.o); assumption) | ((with_reducible apply Mid.t); assumption) | exact .inl ⟨rfl, _, SqL.of (by assumption)⟩ | (with_reducible exact ⟨_, SqT.of (by assumption)⟩) | (with_reducible exact ⟨_, SqL.of (by assumption)⟩) | omega | exact Nat.le_of_ble_eq_true rfl | exact nat9 (by omega) | exact ⟨_, rfl⟩ | (show _ ≤ sizeLine; decide) | exact ⟨by decide, by decide, by decide⟩ | exact .inl ⟨by decide, by decide⟩ | exact .inl ⟨by omega, by omega⟩ | exact .inr ⟨by omega, by omega⟩ | assumption | fail) | ((with_reducible refine iteF' ?_ ?_); first | rfl | exact decide_eq_false (by omega) | exact in_no (by omega) (by omega) | exact in_no (by omega) (by assumption) | (simp <;> fail) | fail) | ((with_reducible refine iteT' ?_ ?_); first | rfl | exact decide_eq_true (by omega) | (simp <;> fail) | fail))
            exact ⟨M.mono (by omega), _, _, _, _, _, _, _, _, _, _, rfl⟩
      · rintro σ H2 ⟨M, u2, u3, u4, u5, u6, u7, u8, u9, u10, u11, rfl⟩
        repeat (first | (with_reducible refine st_tC ?_) | (with_reducible refine st_tOp ?_) | ((with_reducible apply st_n); rfl; rfl; (first | trivial | (show _ ≤ _; omega) | (show _ < _; omega) | (show _ ∨ _; omega) | assumption | exact ⟨by assumption, by omega⟩ | exact ⟨W30.one, by omega⟩ | fail); rfl) | (with_reducible refine st_i0 rfl rfl rfl ?_) | ((with_reducible refine st_i rfl rfl ?_ rfl ?_); first | omega | exact ⟨by decide, by decide, by decide⟩ | exact .inl ⟨by decide, by decide⟩ | exact .inl ⟨by omega, by omega⟩ | exact .inr ⟨by omega, by omega⟩ | fail) | ((fail_if_success refine Exists.intro (α := Nat → Nat → L2.St → Hp → Prop) ?_ ?_); (fail_if_success refine Exists.intro (α := L2.St → Hp → Prop) ?_ ?_); (fail_if_success refine Exists.intro (α := Nat → L2.St → Hp → Prop) ?_ ?_); apply Exists.intro) | ((refine And.intro ?_ ?_); first | with_reducible rfl | with_reducible assumption | rfl | ((with_reducible apply SqL.of); assumption) | ((with_reducible apply SqT.of); assumption) | ((with_reducible apply OwnC.cl); assumption) | (with_reducible exact isI_int _) | exact within_args | (with_reducible exact upd_same) | ((with_reducible apply Mid.o); assumption) | ((with_reducible apply Mid.t); assumption) | exact .inl ⟨rfl, _, SqL.of (by assumption)⟩ | (with_reducible exact ⟨_, SqT.of (by assumption)⟩) | (with_reducible exact ⟨_, SqL.of (by assumption)⟩) | omega | exact Nat.le_of_ble_eq_true rfl | exact nat9 (by omega) | exact ⟨_, rfl⟩ | (show _ ≤ sizeLine; decide) | exact ⟨by decide, by decide, by decide⟩ | exact .inl ⟨by decide, by decide⟩ | exact .inl ⟨by omega, by omega⟩ | exact .inr ⟨by omega, by omega⟩ | assumption | fail) | ((with_reducible refine iteF' ?_ ?_); first | rfl | exact decide_eq_false (by omega) | exact in_no (by omega) (by omega) | exact in_no (by omega) (by assumption) | (simp <;> fail) | fail) | ((with_reducible refine iteT' ?_ ?_); first | rfl | exact decide_eq_true (by omega) | (simp <;> fail) | fail))
        exact k _
    obtain ⟨t, h1, h2⟩ := t0
    exact ⟨t, h1.nox, h2⟩
end
end K70
namespace K70
open PySem PySem.Spec PyProof.Rows L2 OB SkE LamX ClX
theorem all_mk {l : PySem.W.OpenLaw} {w : World} {K : PySem.W.Frag} {h : Heap} {mg : Str → Option Value} {fa f_is_integer f_is_within f_is_list f_are_unlike f_need_number f_items_of f_integer_of f_item_at f_integer_at f_need_end f_gray f__is_meaning f__meaning_at f_need_layout f_table_of dT_table_of f__row_of f__law_tub f__law_scoop f__law_pick f__law_ordered f__law_sign f__law_due f__law_heard f__law_word f_law CF C_BadNumber fi_BadNumber N_BadNumber C_BadBits fi_BadBits N_BadBits C_BadLayout fi_BadLayout N_BadLayout C_BadText fi_BadText N_BadText C_Layout f_Layout_init f_Layout_eq f_Layout_str f_Layout_read p_Layout_read c Pt : Addr} {cd_is_integer oc_is_integer kV_is_integer dc_is_integer pm_is_integer ct_is_integer cd_is_within oc_is_within kV_is_within dc_is_within pm_is_within ct_is_within cd_is_list oc_is_list kV_is_list dc_is_list pm_is_list ct_is_list cd_are_unlike oc_are_unlike kV_are_unlike dc_are_unlike pm_are_unlike ct_are_unlike cd_need_number oc_need_number kV_need_number dc_need_number pm_need_number ct_need_number cd_items_of oc_items_of kV_items_of dc_items_of pm_items_of ct_items_of cd_integer_of oc_integer_of kV_integer_of dc_integer_of pm_integer_of ct_integer_of cd_item_at oc_item_at kV_item_at dc_item_at pm_item_at ct_item_at cd_integer_at oc_integer_at kV_integer_at dc_integer_at pm_integer_at ct_integer_at cd_need_end oc_need_end kV_need_end dc_need_end pm_need_end ct_need_end cd_gray oc_gray kV_gray dc_gray pm_gray ct_gray cd__is_meaning oc__is_meaning kV__is_meaning dc__is_meaning pm__is_meaning ct__is_meaning cd__meaning_at oc__meaning_at kV__meaning_at dc__meaning_at pm__meaning_at ct__meaning_at cd_need_layout oc_need_layout kV_need_layout dc_need_layout pm_need_layout ct_need_layout cd_table_of oc_table_of kV_table_of dc_table_of pm_table_of ct_table_of cd__row_of oc__row_of kV__row_of dc__row_of pm__row_of ct__row_of cd__law_tub oc__law_tub kV__law_tub dc__law_tub pm__law_tub ct__law_tub cd__law_scoop oc__law_scoop kV__law_scoop dc__law_scoop pm__law_scoop ct__law_scoop cd__law_pick oc__law_pick kV__law_pick dc__law_pick pm__law_pick ct__law_pick cd__law_ordered oc__law_ordered kV__law_ordered dc__law_ordered pm__law_ordered ct__law_ordered cd__law_sign oc__law_sign kV__law_sign dc__law_sign pm__law_sign ct__law_sign cd__law_due oc__law_due kV__law_due dc__law_due pm__law_due ct__law_due cd__law_heard oc__law_heard kV__law_heard dc__law_heard pm__law_heard ct__law_heard cd__law_word oc__law_word kV__law_word dc__law_word pm__law_word ct__law_word oc_law kV_law dc_law pm_law ct_law oi_BadNumber kVi_BadNumber dci_BadNumber pmi_BadNumber cti_BadNumber cdi_BadNumber oi_BadBits kVi_BadBits dci_BadBits pmi_BadBits cti_BadBits cdi_BadBits oi_BadLayout kVi_BadLayout dci_BadLayout pmi_BadLayout cti_BadLayout cdi_BadLayout oi_BadText kVi_BadText dci_BadText pmi_BadText cti_BadText cdi_BadText oc_Layout_init kV_Layout_init dc_Layout_init pm_Layout_init cd_Layout_init ct_Layout_init oc_Layout_eq kV_Layout_eq dc_Layout_eq pm_Layout_eq cd_Layout_eq ct_Layout_eq oc_Layout_str kV_Layout_str dc_Layout_str pm_Layout_str cd_Layout_str ct_Layout_str oc_Layout_read kV_Layout_read dc_Layout_read pm_Layout_read cd_Layout_read ct_Layout_read : Value} {od_is_integer an_is_integer od_is_within an_is_within od_is_list an_is_list od_are_unlike an_are_unlike od_need_number an_need_number od_items_of an_items_of od_integer_of an_integer_of od_item_at an_item_at od_integer_at an_integer_at od_need_end an_need_end od_gray an_gray od__is_meaning an__is_meaning od__meaning_at an__meaning_at od_need_layout an_need_layout od_table_of an_table_of od__row_of an__row_of od__law_tub an__law_tub od__law_scoop an__law_scoop od__law_pick an__law_pick od__law_ordered an__law_ordered od__law_sign an__law_sign od__law_due an__law_due od__law_heard an__law_heard od__law_word an__law_word od_law an_law odi_BadNumber ani_BadNumber dd_BadNumber odi_BadBits ani_BadBits dd_BadBits odi_BadLayout ani_BadLayout dd_BadLayout odi_BadText ani_BadText dd_BadText od_Layout_init an_Layout_init od_Layout_eq an_Layout_eq od_Layout_str an_Layout_str od_Layout_read an_Layout_read odC : Option Addr} {sl_is_integer sl_is_within sl_is_list sl_are_unlike sl_need_number sl_items_of sl_integer_of sl_item_at sl_integer_at sl_need_end sl_gray sl__is_meaning sl__meaning_at sl_need_layout sl_table_of dS_table_of sl__row_of sl__law_tub sl__law_scoop sl__law_pick sl__law_ordered sl__law_sign sl__law_due sl__law_heard sl__law_word sl_law sli_BadNumber sli_BadBits sli_BadLayout sli_BadText sl_Layout_init sl_Layout_eq sl_Layout_str sl_Layout_read slC : Array (Option Value)} {vsC : Array Value} {dN_table_of : Nat} {t_MOST_DIGITS t_MOST_BITS t_MOST_STATE t_NOTHING_layouts t_SIGNS t_NOTHING_tables : Tok}{rs_Layout_read : List Value} {nm_BadNumber q_BadNumber : Str} {bs_BadNumber sub_BadNumber : List Value} {sn_BadNumber : List Str} {ab_BadNumber : Bool} {col_BadNumber : Option Bool} {m0_BadNumber m1_BadNumber m2_BadNumber m3_BadNumber m5_BadNumber : Option Value} {nm_BadBits q_BadBits : Str} {bs_BadBits sub_BadBits : List Value} {sn_BadBits : List Str} {ab_BadBits : Bool} {col_BadBits : Option Bool} {m0_BadBits m1_BadBits m2_BadBits m3_BadBits m5_BadBits : Option Value} {nm_BadLayout q_BadLayout : Str} {bs_BadLayout sub_BadLayout : List Value} {sn_BadLayout : List Str} {ab_BadLayout : Bool} {col_BadLayout : Option Bool} {m0_BadLayout m1_BadLayout m2_BadLayout m3_BadLayout m5_BadLayout : Option Value} {nm_BadText q_BadText : Str} {bs_BadText sub_BadText : List Value} {sn_BadText : List Str} {ab_BadText : Bool} {col_BadText : Option Bool} {m0_BadText m1_BadText m2_BadText m3_BadText m5_BadText : Option Value}
    (X : K.In h) (G : h.Ns mainGlobals mg) (hfa : mg "law" = some (.ref fa))
    (a_is_integer : PySem.W.nsIn K mainGlobals "is_integer" = some (some (.ref f_is_integer)))
    (l_is_integer : K.lookup f_is_integer = some ⟨oc_is_integer, od_is_integer, .func (PySem.W.fnOf "is_integer" "is_integer" (defArgs s_is_integer) (defBody s_is_integer) (defScope s_is_integer) .none kV_is_integer dc_is_integer pm_is_integer an_is_integer cd_is_integer ct_is_integer), sl_is_integer⟩)
    (c_is_integer : PySem.W.codeIn K cd_is_integer "is_integer" = true)
    (k_is_integer : PySem.W.keepIn K (.ref f_is_integer) = true)
    (a_is_within : PySem.W.nsIn K mainGlobals "is_within" = some (some (.ref f_is_within)))
    (l_is_within : K.lookup f_is_within = some ⟨oc_is_within, od_is_within, .func (PySem.W.fnOf "is_within" "is_within" (defArgs s_is_within) (defBody s_is_within) (defScope s_is_within) .none kV_is_within dc_is_within pm_is_within an_is_within cd_is_within ct_is_within), sl_is_within⟩)
    (c_is_within : PySem.W.codeIn K cd_is_within "is_within" = true)
    (k_is_within : PySem.W.keepIn K (.ref f_is_within) = true)
    (a_is_list : PySem.W.nsIn K mainGlobals "is_list" = some (some (.ref f_is_list)))
    (l_is_list : K.lookup f_is_list = some ⟨oc_is_list, od_is_list, .func (PySem.W.fnOf "is_list" "is_list" (defArgs s_is_list) (defBody s_is_list) (defScope s_is_list) .none kV_is_list dc_is_list pm_is_list an_is_list cd_is_list ct_is_list), sl_is_list⟩)
    (c_is_list : PySem.W.codeIn K cd_is_list "is_list" = true)
    (k_is_list : PySem.W.keepIn K (.ref f_is_list) = true)
    (a_are_unlike : PySem.W.nsIn K mainGlobals "are_unlike" = some (some (.ref f_are_unlike)))
    (l_are_unlike : K.lookup f_are_unlike = some ⟨oc_are_unlike, od_are_unlike, .func (PySem.W.fnOf "are_unlike" "are_unlike" (defArgs s_are_unlike) (defBody s_are_unlike) (defScope s_are_unlike) .none kV_are_unlike dc_are_unlike pm_are_unlike an_are_unlike cd_are_unlike ct_are_unlike), sl_are_unlike⟩)
    (c_are_unlike : PySem.W.codeIn K cd_are_unlike "are_unlike" = true)
    (k_are_unlike : PySem.W.keepIn K (.ref f_are_unlike) = true)
    (a_need_number : PySem.W.nsIn K mainGlobals "need_number" = some (some (.ref f_need_number)))
    (l_need_number : K.lookup f_need_number = some ⟨oc_need_number, od_need_number, .func (PySem.W.fnOf "need_number" "need_number" (defArgs s_need_number) (defBody s_need_number) (defScope s_need_number) .none kV_need_number dc_need_number pm_need_number an_need_number cd_need_number ct_need_number), sl_need_number⟩)
    (c_need_number : PySem.W.codeIn K cd_need_number "need_number" = true)
    (k_need_number : PySem.W.keepIn K (.ref f_need_number) = true)
    (a_items_of : PySem.W.nsIn K mainGlobals "items_of" = some (some (.ref f_items_of)))
    (l_items_of : K.lookup f_items_of = some ⟨oc_items_of, od_items_of, .func (PySem.W.fnOf "items_of" "items_of" (defArgs s_items_of) (defBody s_items_of) (defScope s_items_of) .none kV_items_of dc_items_of pm_items_of an_items_of cd_items_of ct_items_of), sl_items_of⟩)
    (c_items_of : PySem.W.codeIn K cd_items_of "items_of" = true)
    (k_items_of : PySem.W.keepIn K (.ref f_items_of) = true)
    (a_integer_of : PySem.W.nsIn K mainGlobals "integer_of" = some (some (.ref f_integer_of)))
    (l_integer_of : K.lookup f_integer_of = some ⟨oc_integer_of, od_integer_of, .func (PySem.W.fnOf "integer_of" "integer_of" (defArgs s_integer_of) (defBody s_integer_of) (defScope s_integer_of) .none kV_integer_of dc_integer_of pm_integer_of an_integer_of cd_integer_of ct_integer_of), sl_integer_of⟩)
    (c_integer_of : PySem.W.codeIn K cd_integer_of "integer_of" = true)
    (k_integer_of : PySem.W.keepIn K (.ref f_integer_of) = true)
    (a_item_at : PySem.W.nsIn K mainGlobals "item_at" = some (some (.ref f_item_at)))
    (l_item_at : K.lookup f_item_at = some ⟨oc_item_at, od_item_at, .func (PySem.W.fnOf "item_at" "item_at" (defArgs s_item_at) (defBody s_item_at) (defScope s_item_at) .none kV_item_at dc_item_at pm_item_at an_item_at cd_item_at ct_item_at), sl_item_at⟩)
    (c_item_at : PySem.W.codeIn K cd_item_at "item_at" = true)
    (k_item_at : PySem.W.keepIn K (.ref f_item_at) = true)
    (a_integer_at : PySem.W.nsIn K mainGlobals "integer_at" = some (some (.ref f_integer_at)))
    (l_integer_at : K.lookup f_integer_at = some ⟨oc_integer_at, od_integer_at, .func (PySem.W.fnOf "integer_at" "integer_at" (defArgs s_integer_at) (defBody s_integer_at) (defScope s_integer_at) .none kV_integer_at dc_integer_at pm_integer_at an_integer_at cd_integer_at ct_integer_at), sl_integer_at⟩)
    (c_integer_at : PySem.W.codeIn K cd_integer_at "integer_at" = true)
    (k_integer_at : PySem.W.keepIn K (.ref f_integer_at) = true)
    (a_need_end : PySem.W.nsIn K mainGlobals "need_end" = some (some (.ref f_need_end)))
    (l_need_end : K.lookup f_need_end = some ⟨oc_need_end, od_need_end, .func (PySem.W.fnOf "need_end" "need_end" (defArgs s_need_end) (defBody s_need_end) (defScope s_need_end) .none kV_need_end dc_need_end pm_need_end an_need_end cd_need_end ct_need_end), sl_need_end⟩)
    (c_need_end : PySem.W.codeIn K cd_need_end "need_end" = true)
    (k_need_end : PySem.W.keepIn K (.ref f_need_end) = true)
    (a_gray : PySem.W.nsIn K mainGlobals "gray" = some (some (.ref f_gray)))
    (l_gray : K.lookup f_gray = some ⟨oc_gray, od_gray, .func (PySem.W.fnOf "gray" "gray" (defArgs s_gray) (defBody s_gray) (defScope s_gray) .none kV_gray dc_gray pm_gray an_gray cd_gray ct_gray), sl_gray⟩)
    (c_gray : PySem.W.codeIn K cd_gray "gray" = true)
    (k_gray : PySem.W.keepIn K (.ref f_gray) = true)
    (a__is_meaning : PySem.W.nsIn K mainGlobals "_is_meaning" = some (some (.ref f__is_meaning)))
    (l__is_meaning : K.lookup f__is_meaning = some ⟨oc__is_meaning, od__is_meaning, .func (PySem.W.fnOf "_is_meaning" "_is_meaning" (defArgs s__is_meaning) (defBody s__is_meaning) (defScope s__is_meaning) .none kV__is_meaning dc__is_meaning pm__is_meaning an__is_meaning cd__is_meaning ct__is_meaning), sl__is_meaning⟩)
    (c__is_meaning : PySem.W.codeIn K cd__is_meaning "_is_meaning" = true)
    (k__is_meaning : PySem.W.keepIn K (.ref f__is_meaning) = true)
    (a__meaning_at : PySem.W.nsIn K mainGlobals "_meaning_at" = some (some (.ref f__meaning_at)))
    (l__meaning_at : K.lookup f__meaning_at = some ⟨oc__meaning_at, od__meaning_at, .func (PySem.W.fnOf "_meaning_at" "_meaning_at" (defArgs s__meaning_at) (defBody s__meaning_at) (defScope s__meaning_at) .none kV__meaning_at dc__meaning_at pm__meaning_at an__meaning_at cd__meaning_at ct__meaning_at), sl__meaning_at⟩)
    (c__meaning_at : PySem.W.codeIn K cd__meaning_at "_meaning_at" = true)
    (k__meaning_at : PySem.W.keepIn K (.ref f__meaning_at) = true)
    (a_need_layout : PySem.W.nsIn K mainGlobals "need_layout" = some (some (.ref f_need_layout)))
    (l_need_layout : K.lookup f_need_layout = some ⟨oc_need_layout, od_need_layout, .func (PySem.W.fnOf "need_layout" "need_layout" (defArgs s_need_layout) (defBody s_need_layout) (defScope s_need_layout) .none kV_need_layout dc_need_layout pm_need_layout an_need_layout cd_need_layout ct_need_layout), sl_need_layout⟩)
    (c_need_layout : PySem.W.codeIn K cd_need_layout "need_layout" = true)
    (k_need_layout : PySem.W.keepIn K (.ref f_need_layout) = true)
    (a_table_of : PySem.W.nsIn K mainGlobals "table_of" = some (some (.ref f_table_of)))
    (l_table_of : K.lookup f_table_of = some ⟨oc_table_of, od_table_of, .func (PySem.W.fnOf "table_of" "table_of" (defArgs s_table_of) (defBody s_table_of) (defScope s_table_of) (.ref dT_table_of) kV_table_of dc_table_of pm_table_of an_table_of cd_table_of ct_table_of), sl_table_of⟩)
    (lT_table_of : K.lookup dT_table_of = some ⟨.type "tuple", none, .seq #[.none] dN_table_of, dS_table_of⟩)
    (c_table_of : PySem.W.codeIn K cd_table_of "table_of" = true)
    (k_table_of : PySem.W.keepIn K (.ref f_table_of) = true)
    (a__row_of : PySem.W.nsIn K mainGlobals "_row_of" = some (some (.ref f__row_of)))
    (l__row_of : K.lookup f__row_of = some ⟨oc__row_of, od__row_of, .func (PySem.W.fnOf "_row_of" "_row_of" (defArgs s__row_of) (defBody s__row_of) (defScope s__row_of) .none kV__row_of dc__row_of pm__row_of an__row_of cd__row_of ct__row_of), sl__row_of⟩)
    (c__row_of : PySem.W.codeIn K cd__row_of "_row_of" = true)
    (k__row_of : PySem.W.keepIn K (.ref f__row_of) = true)
    (a__law_tub : PySem.W.nsIn K mainGlobals "_law_tub" = some (some (.ref f__law_tub)))
    (l__law_tub : K.lookup f__law_tub = some ⟨oc__law_tub, od__law_tub, .func (PySem.W.fnOf "_law_tub" "_law_tub" (defArgs s__law_tub) (defBody s__law_tub) (defScope s__law_tub) .none kV__law_tub dc__law_tub pm__law_tub an__law_tub cd__law_tub ct__law_tub), sl__law_tub⟩)
    (c__law_tub : PySem.W.codeIn K cd__law_tub "_law_tub" = true)
    (k__law_tub : PySem.W.keepIn K (.ref f__law_tub) = true)
    (a__law_scoop : PySem.W.nsIn K mainGlobals "_law_scoop" = some (some (.ref f__law_scoop)))
    (l__law_scoop : K.lookup f__law_scoop = some ⟨oc__law_scoop, od__law_scoop, .func (PySem.W.fnOf "_law_scoop" "_law_scoop" (defArgs s__law_scoop) (defBody s__law_scoop) (defScope s__law_scoop) .none kV__law_scoop dc__law_scoop pm__law_scoop an__law_scoop cd__law_scoop ct__law_scoop), sl__law_scoop⟩)
    (c__law_scoop : PySem.W.codeIn K cd__law_scoop "_law_scoop" = true)
    (k__law_scoop : PySem.W.keepIn K (.ref f__law_scoop) = true)
    (a__law_pick : PySem.W.nsIn K mainGlobals "_law_pick" = some (some (.ref f__law_pick)))
    (l__law_pick : K.lookup f__law_pick = some ⟨oc__law_pick, od__law_pick, .func (PySem.W.fnOf "_law_pick" "_law_pick" (defArgs s__law_pick) (defBody s__law_pick) (defScope s__law_pick) .none kV__law_pick dc__law_pick pm__law_pick an__law_pick cd__law_pick ct__law_pick), sl__law_pick⟩)
    (c__law_pick : PySem.W.codeIn K cd__law_pick "_law_pick" = true)
    (k__law_pick : PySem.W.keepIn K (.ref f__law_pick) = true)
    (a__law_ordered : PySem.W.nsIn K mainGlobals "_law_ordered" = some (some (.ref f__law_ordered)))
    (l__law_ordered : K.lookup f__law_ordered = some ⟨oc__law_ordered, od__law_ordered, .func (PySem.W.fnOf "_law_ordered" "_law_ordered" (defArgs s__law_ordered) (defBody s__law_ordered) (defScope s__law_ordered) .none kV__law_ordered dc__law_ordered pm__law_ordered an__law_ordered cd__law_ordered ct__law_ordered), sl__law_ordered⟩)
    (c__law_ordered : PySem.W.codeIn K cd__law_ordered "_law_ordered" = true)
    (k__law_ordered : PySem.W.keepIn K (.ref f__law_ordered) = true)
    (a__law_sign : PySem.W.nsIn K mainGlobals "_law_sign" = some (some (.ref f__law_sign)))
    (l__law_sign : K.lookup f__law_sign = some ⟨oc__law_sign, od__law_sign, .func (PySem.W.fnOf "_law_sign" "_law_sign" (defArgs s__law_sign) (defBody s__law_sign) (defScope s__law_sign) .none kV__law_sign dc__law_sign pm__law_sign an__law_sign cd__law_sign ct__law_sign), sl__law_sign⟩)
    (c__law_sign : PySem.W.codeIn K cd__law_sign "_law_sign" = true)
    (k__law_sign : PySem.W.keepIn K (.ref f__law_sign) = true)
    (a__law_due : PySem.W.nsIn K mainGlobals "_law_due" = some (some (.ref f__law_due)))
    (l__law_due : K.lookup f__law_due = some ⟨oc__law_due, od__law_due, .func (PySem.W.fnOf "_law_due" "_law_due" (defArgs s__law_due) (defBody s__law_due) (defScope s__law_due) .none kV__law_due dc__law_due pm__law_due an__law_due cd__law_due ct__law_due), sl__law_due⟩)
    (c__law_due : PySem.W.codeIn K cd__law_due "_law_due" = true)
    (k__law_due : PySem.W.keepIn K (.ref f__law_due) = true)
    (a__law_heard : PySem.W.nsIn K mainGlobals "_law_heard" = some (some (.ref f__law_heard)))
    (l__law_heard : K.lookup f__law_heard = some ⟨oc__law_heard, od__law_heard, .func (PySem.W.fnOf "_law_heard" "_law_heard" (defArgs s__law_heard) (defBody s__law_heard) (defScope s__law_heard) .none kV__law_heard dc__law_heard pm__law_heard an__law_heard cd__law_heard ct__law_heard), sl__law_heard⟩)
    (c__law_heard : PySem.W.codeIn K cd__law_heard "_law_heard" = true)
    (k__law_heard : PySem.W.keepIn K (.ref f__law_heard) = true)
    (a__law_word : PySem.W.nsIn K mainGlobals "_law_word" = some (some (.ref f__law_word)))
    (l__law_word : K.lookup f__law_word = some ⟨oc__law_word, od__law_word, .func (PySem.W.fnOf "_law_word" "_law_word" (defArgs s__law_word) (defBody s__law_word) (defScope s__law_word) .none kV__law_word dc__law_word pm__law_word an__law_word cd__law_word ct__law_word), sl__law_word⟩)
    (c__law_word : PySem.W.codeIn K cd__law_word "_law_word" = true)
    (k__law_word : PySem.W.keepIn K (.ref f__law_word) = true)
    (a_law : PySem.W.nsIn K mainGlobals "law" = some (some (.ref f_law)))
    (l_law : K.lookup f_law = some ⟨oc_law, od_law, .func (PySem.W.fnOf "law" "law" (defArgs s_law) (defBody s_law) (defScope s_law) .none kV_law dc_law pm_law an_law (.ref c) ct_law), sl_law⟩)
    (c_law : PySem.W.codeIn K (.ref c) "law" = true)
    (k_law : PySem.W.keepIn K (.ref f_law) = true)
    (aF : PySem.W.nsIn K mainGlobals "FlipError" = some (some (.ref CF)))
    (eF : PySem.W.subIn K (.ref CF) (.type "BaseException") = some true)
    (dF : PySem.W.hasDictIn K CF = true)
    (tF : PySem.W.typeIn K (.ref CF) = some (.type "type"))
    (a_BadNumber : PySem.W.nsIn K mainGlobals "BadNumber" = some (some (.ref C_BadNumber)))
    (x_BadNumber : K.lookup C_BadNumber = some (excClassObj nm_BadNumber q_BadNumber C_BadNumber N_BadNumber bs_BadNumber [.ref CF, .type "ValueError", .type "Exception", .type "BaseException", .type "object"] true sn_BadNumber sub_BadNumber ab_BadNumber col_BadNumber dd_BadNumber m0_BadNumber m1_BadNumber m2_BadNumber m3_BadNumber m5_BadNumber "ValueError.__new__"))
    (sa_BadNumber : PySem.W.findIn K (.ref C_BadNumber) "__setattr__" = some (some (.builtin "object.__setattr__")))
    (e_BadNumber : PySem.W.subIn K (.ref C_BadNumber) (.type "BaseException") = some true)
    (t_BadNumber : PySem.W.typeIn K (.ref C_BadNumber) = some (.type "type"))
    (k_BadNumber : PySem.W.keepIn K (.ref C_BadNumber) = true)
    (i_BadNumber : PySem.W.findIn K (.ref C_BadNumber) "__init__" = some (some (.ref fi_BadNumber)))
    (ti_BadNumber : PySem.W.typeIn K (.ref fi_BadNumber) = some (.type "function"))
    (li_BadNumber : K.lookup fi_BadNumber = some ⟨oi_BadNumber, odi_BadNumber, .func (PySem.W.fnOf "__init__" "BadNumber.__init__" (defArgs s_init_BadNumber) (defBody s_init_BadNumber) (defScope s_init_BadNumber) .none kVi_BadNumber dci_BadNumber pmi_BadNumber ani_BadNumber cdi_BadNumber cti_BadNumber), sli_BadNumber⟩)
    (ci_BadNumber : PySem.W.codeIn K cdi_BadNumber "BadNumber.__init__" = true)
    (ki_BadNumber : PySem.W.keepIn K (.ref fi_BadNumber) = true)
    (no_BadNumber_part : PySem.W.findIn K (.ref C_BadNumber) "part" = some none)
    (ga_BadNumber : PySem.W.findIn K (.ref C_BadNumber) "__getattribute__" = some (some (.builtin "BaseException.__getattribute__")))
    (gg_BadNumber : PySem.W.findIn K (.ref C_BadNumber) "__getattr__" = some none)
    (hd_BadNumber : PySem.W.hasDictIn K C_BadNumber = true)
    (ha_BadNumber : PySem.W.findIn K (.ref C_BadNumber) "__class__" = some (some (.builtin "object.__class__")))
    (hm_BadNumber : PySem.W.mroIn K C_BadNumber (.type "object") = some true)
    (sf_BadNumber : PySem.W.subIn K (.ref C_BadNumber) (.ref CF) = some true)
    (is_BadNumber : PySem.W.isClsIn K C_BadNumber = true)
    (z_BadNumber : PySem.W.subIn K (.type "NoneType") (.ref C_BadNumber) = some false)
    (a_BadBits : PySem.W.nsIn K mainGlobals "BadBits" = some (some (.ref C_BadBits)))
    (x_BadBits : K.lookup C_BadBits = some (excClassObj nm_BadBits q_BadBits C_BadBits N_BadBits bs_BadBits [.ref CF, .type "ValueError", .type "Exception", .type "BaseException", .type "object"] true sn_BadBits sub_BadBits ab_BadBits col_BadBits dd_BadBits m0_BadBits m1_BadBits m2_BadBits m3_BadBits m5_BadBits "ValueError.__new__"))
    (sa_BadBits : PySem.W.findIn K (.ref C_BadBits) "__setattr__" = some (some (.builtin "object.__setattr__")))
    (e_BadBits : PySem.W.subIn K (.ref C_BadBits) (.type "BaseException") = some true)
    (t_BadBits : PySem.W.typeIn K (.ref C_BadBits) = some (.type "type"))
    (k_BadBits : PySem.W.keepIn K (.ref C_BadBits) = true)
    (i_BadBits : PySem.W.findIn K (.ref C_BadBits) "__init__" = some (some (.ref fi_BadBits)))
    (ti_BadBits : PySem.W.typeIn K (.ref fi_BadBits) = some (.type "function"))
    (li_BadBits : K.lookup fi_BadBits = some ⟨oi_BadBits, odi_BadBits, .func (PySem.W.fnOf "__init__" "BadBits.__init__" (defArgs s_init_BadBits) (defBody s_init_BadBits) (defScope s_init_BadBits) .none kVi_BadBits dci_BadBits pmi_BadBits ani_BadBits cdi_BadBits cti_BadBits), sli_BadBits⟩)
    (ci_BadBits : PySem.W.codeIn K cdi_BadBits "BadBits.__init__" = true)
    (ki_BadBits : PySem.W.keepIn K (.ref fi_BadBits) = true)
    (no_BadBits_part : PySem.W.findIn K (.ref C_BadBits) "part" = some none)
    (ga_BadBits : PySem.W.findIn K (.ref C_BadBits) "__getattribute__" = some (some (.builtin "BaseException.__getattribute__")))
    (gg_BadBits : PySem.W.findIn K (.ref C_BadBits) "__getattr__" = some none)
    (hd_BadBits : PySem.W.hasDictIn K C_BadBits = true)
    (ha_BadBits : PySem.W.findIn K (.ref C_BadBits) "__class__" = some (some (.builtin "object.__class__")))
    (hm_BadBits : PySem.W.mroIn K C_BadBits (.type "object") = some true)
    (sf_BadBits : PySem.W.subIn K (.ref C_BadBits) (.ref CF) = some true)
    (is_BadBits : PySem.W.isClsIn K C_BadBits = true)
    (z_BadBits : PySem.W.subIn K (.type "NoneType") (.ref C_BadBits) = some false)
    (a_BadLayout : PySem.W.nsIn K mainGlobals "BadLayout" = some (some (.ref C_BadLayout)))
    (x_BadLayout : K.lookup C_BadLayout = some (excClassObj nm_BadLayout q_BadLayout C_BadLayout N_BadLayout bs_BadLayout [.ref CF, .type "ValueError", .type "Exception", .type "BaseException", .type "object"] true sn_BadLayout sub_BadLayout ab_BadLayout col_BadLayout dd_BadLayout m0_BadLayout m1_BadLayout m2_BadLayout m3_BadLayout m5_BadLayout "ValueError.__new__"))
    (sa_BadLayout : PySem.W.findIn K (.ref C_BadLayout) "__setattr__" = some (some (.builtin "object.__setattr__")))
    (e_BadLayout : PySem.W.subIn K (.ref C_BadLayout) (.type "BaseException") = some true)
    (t_BadLayout : PySem.W.typeIn K (.ref C_BadLayout) = some (.type "type"))
    (k_BadLayout : PySem.W.keepIn K (.ref C_BadLayout) = true)
    (i_BadLayout : PySem.W.findIn K (.ref C_BadLayout) "__init__" = some (some (.ref fi_BadLayout)))
    (ti_BadLayout : PySem.W.typeIn K (.ref fi_BadLayout) = some (.type "function"))
    (li_BadLayout : K.lookup fi_BadLayout = some ⟨oi_BadLayout, odi_BadLayout, .func (PySem.W.fnOf "__init__" "BadLayout.__init__" (defArgs s_init_BadLayout) (defBody s_init_BadLayout) (defScope s_init_BadLayout) .none kVi_BadLayout dci_BadLayout pmi_BadLayout ani_BadLayout cdi_BadLayout cti_BadLayout), sli_BadLayout⟩)
    (ci_BadLayout : PySem.W.codeIn K cdi_BadLayout "BadLayout.__init__" = true)
    (ki_BadLayout : PySem.W.keepIn K (.ref fi_BadLayout) = true)
    (no_BadLayout_part : PySem.W.findIn K (.ref C_BadLayout) "part" = some none)
    (ga_BadLayout : PySem.W.findIn K (.ref C_BadLayout) "__getattribute__" = some (some (.builtin "BaseException.__getattribute__")))
    (gg_BadLayout : PySem.W.findIn K (.ref C_BadLayout) "__getattr__" = some none)
    (hd_BadLayout : PySem.W.hasDictIn K C_BadLayout = true)
    (ha_BadLayout : PySem.W.findIn K (.ref C_BadLayout) "__class__" = some (some (.builtin "object.__class__")))
    (hm_BadLayout : PySem.W.mroIn K C_BadLayout (.type "object") = some true)
    (sf_BadLayout : PySem.W.subIn K (.ref C_BadLayout) (.ref CF) = some true)
    (is_BadLayout : PySem.W.isClsIn K C_BadLayout = true)
    (z_BadLayout : PySem.W.subIn K (.type "NoneType") (.ref C_BadLayout) = some false)
    (a_BadText : PySem.W.nsIn K mainGlobals "BadText" = some (some (.ref C_BadText)))
    (x_BadText : K.lookup C_BadText = some (excClassObj nm_BadText q_BadText C_BadText N_BadText bs_BadText [.ref CF, .type "ValueError", .type "Exception", .type "BaseException", .type "object"] true sn_BadText sub_BadText ab_BadText col_BadText dd_BadText m0_BadText m1_BadText m2_BadText m3_BadText m5_BadText "ValueError.__new__"))
    (sa_BadText : PySem.W.findIn K (.ref C_BadText) "__setattr__" = some (some (.builtin "object.__setattr__")))
    (e_BadText : PySem.W.subIn K (.ref C_BadText) (.type "BaseException") = some true)
    (t_BadText : PySem.W.typeIn K (.ref C_BadText) = some (.type "type"))
    (k_BadText : PySem.W.keepIn K (.ref C_BadText) = true)
    (i_BadText : PySem.W.findIn K (.ref C_BadText) "__init__" = some (some (.ref fi_BadText)))
    (ti_BadText : PySem.W.typeIn K (.ref fi_BadText) = some (.type "function"))
    (li_BadText : K.lookup fi_BadText = some ⟨oi_BadText, odi_BadText, .func (PySem.W.fnOf "__init__" "BadText.__init__" (defArgs s_init_BadText) (defBody s_init_BadText) (defScope s_init_BadText) .none kVi_BadText dci_BadText pmi_BadText ani_BadText cdi_BadText cti_BadText), sli_BadText⟩)
    (ci_BadText : PySem.W.codeIn K cdi_BadText "BadText.__init__" = true)
    (ki_BadText : PySem.W.keepIn K (.ref fi_BadText) = true)
    (no_BadText_line : PySem.W.findIn K (.ref C_BadText) "line" = some none)
    (no_BadText_item : PySem.W.findIn K (.ref C_BadText) "item" = some none)
    (ga_BadText : PySem.W.findIn K (.ref C_BadText) "__getattribute__" = some (some (.builtin "BaseException.__getattribute__")))
    (gg_BadText : PySem.W.findIn K (.ref C_BadText) "__getattr__" = some none)
    (hd_BadText : PySem.W.hasDictIn K C_BadText = true)
    (ha_BadText : PySem.W.findIn K (.ref C_BadText) "__class__" = some (some (.builtin "object.__class__")))
    (hm_BadText : PySem.W.mroIn K C_BadText (.type "object") = some true)
    (sf_BadText : PySem.W.subIn K (.ref C_BadText) (.ref CF) = some true)
    (is_BadText : PySem.W.isClsIn K C_BadText = true)
    (z_BadText : PySem.W.subIn K (.type "NoneType") (.ref C_BadText) = some false)
    (sub_BadNumber_BadNumber : PySem.W.subIn K (.ref C_BadNumber) (.ref C_BadNumber) = some true)
    (sub_BadNumber_BadBits : PySem.W.subIn K (.ref C_BadNumber) (.ref C_BadBits) = some false)
    (sub_BadNumber_BadLayout : PySem.W.subIn K (.ref C_BadNumber) (.ref C_BadLayout) = some false)
    (sub_BadNumber_BadText : PySem.W.subIn K (.ref C_BadNumber) (.ref C_BadText) = some false)
    (sub_BadBits_BadNumber : PySem.W.subIn K (.ref C_BadBits) (.ref C_BadNumber) = some false)
    (sub_BadBits_BadBits : PySem.W.subIn K (.ref C_BadBits) (.ref C_BadBits) = some true)
    (sub_BadBits_BadLayout : PySem.W.subIn K (.ref C_BadBits) (.ref C_BadLayout) = some false)
    (sub_BadBits_BadText : PySem.W.subIn K (.ref C_BadBits) (.ref C_BadText) = some false)
    (sub_BadLayout_BadNumber : PySem.W.subIn K (.ref C_BadLayout) (.ref C_BadNumber) = some false)
    (sub_BadLayout_BadBits : PySem.W.subIn K (.ref C_BadLayout) (.ref C_BadBits) = some false)
    (sub_BadLayout_BadLayout : PySem.W.subIn K (.ref C_BadLayout) (.ref C_BadLayout) = some true)
    (sub_BadLayout_BadText : PySem.W.subIn K (.ref C_BadLayout) (.ref C_BadText) = some false)
    (sub_BadText_BadNumber : PySem.W.subIn K (.ref C_BadText) (.ref C_BadNumber) = some false)
    (sub_BadText_BadBits : PySem.W.subIn K (.ref C_BadText) (.ref C_BadBits) = some false)
    (sub_BadText_BadLayout : PySem.W.subIn K (.ref C_BadText) (.ref C_BadLayout) = some false)
    (sub_BadText_BadText : PySem.W.subIn K (.ref C_BadText) (.ref C_BadText) = some true)
    (spn : PySem.W.specialIn K (.builtin "object.__class__") "__get__" = some (some (.builtin "getset_descriptor.__get__")))
    (tkn : PySem.W.takesIn K (.builtin "object.__class__") = some true)
    (a_MOST_DIGITS : PySem.W.nsIn K mainGlobals "MOST_DIGITS" = some (some (.int 140 t_MOST_DIGITS)))
    (a_MOST_BITS : PySem.W.nsIn K mainGlobals "MOST_BITS" = some (some (.int 8 t_MOST_BITS)))
    (a_MOST_STATE : PySem.W.nsIn K mainGlobals "MOST_STATE" = some (some (.int 63 t_MOST_STATE)))
    (a_NOTHING_layouts : PySem.W.nsIn K mainGlobals "NOTHING_layouts" = some (some (.str "-" t_NOTHING_layouts)))
    (a_SIGNS : PySem.W.nsIn K mainGlobals "SIGNS" = some (some (.str "0123456789abcdefghijklmnopqrstuvwxyzABCDEFGHIJKLMNOPQRSTUVWXYZ+=" t_SIGNS)))
    (a_NOTHING_tables : PySem.W.nsIn K mainGlobals "NOTHING_tables" = some (some (.str "." t_NOTHING_tables)))
    (n_abs : PySem.W.nsIn K mainGlobals "abs" = some none)
    (n_all : PySem.W.nsIn K mainGlobals "all" = some none)
    (n_bool : PySem.W.nsIn K mainGlobals "bool" = some none)
    (n_enumerate : PySem.W.nsIn K mainGlobals "enumerate" = some none)
    (n_int : PySem.W.nsIn K mainGlobals "int" = some none)
    (n_isinstance : PySem.W.nsIn K mainGlobals "isinstance" = some none)
    (n_len : PySem.W.nsIn K mainGlobals "len" = some none)
    (n_list : PySem.W.nsIn K mainGlobals "list" = some none)
    (n_range : PySem.W.nsIn K mainGlobals "range" = some none)
    (n_repr : PySem.W.nsIn K mainGlobals "repr" = some none)
    (n_set : PySem.W.nsIn K mainGlobals "set" = some none)
    (n_str : PySem.W.nsIn K mainGlobals "str" = some none)
    (n_tuple : PySem.W.nsIn K mainGlobals "tuple" = some none)
    (aC_Layout : PySem.W.nsIn K mainGlobals "Layout" = some (some (.ref C_Layout)))
    (pg_Layout : PySem.W.plainGet K C_Layout Str.empty = true)
    (hdC_Layout : PySem.W.hasDictIn K C_Layout = true)
    (po_Layout : PySem.W.plainOver K C_Layout = true)
    (saC_Layout : PySem.W.findIn K (.ref C_Layout) "__setattr__" = some (some (.builtin "object.__setattr__")))
    (mkC_Layout : PySem.W.makesIn K C_Layout = true)
    (kcC_Layout : PySem.W.keepIn K (.ref C_Layout) = true)
    (haC_Layout : PySem.W.findIn K (.ref C_Layout) "__class__" = some (some (.builtin "object.__class__")))
    (hmC_Layout : PySem.W.mroIn K C_Layout (.type "object") = some true)
    (isC_Layout : PySem.W.isClsIn K C_Layout = true)
    (tyC_Layout : PySem.W.typeIn K (.ref C_Layout) = some (.type "type"))
    (sfC_Layout : PySem.W.subIn K (.ref C_Layout) (.ref C_Layout) = some true)
    (suNoneType_Layout : PySem.W.subIn K (.type "NoneType") (.ref C_Layout) = some false)
    (suint_Layout : PySem.W.subIn K (.type "int") (.ref C_Layout) = some false)
    (subool_Layout : PySem.W.subIn K (.type "bool") (.ref C_Layout) = some false)
    (sustr_Layout : PySem.W.subIn K (.type "str") (.ref C_Layout) = some false)
    (sulist_Layout : PySem.W.subIn K (.type "list") (.ref C_Layout) = some false)
    (sutuple_Layout : PySem.W.subIn K (.type "tuple") (.ref C_Layout) = some false)
    (sudict_Layout : PySem.W.subIn K (.type "dict") (.ref C_Layout) = some false)
    (nC_Layout_bits : PySem.W.findIn K (.ref C_Layout) "bits" = some none)
    (nC_Layout_means : PySem.W.findIn K (.ref C_Layout) "means" = some none)
    (fi_Layout_init : PySem.W.findIn K (.ref C_Layout) "__init__" = some (some (.ref f_Layout_init)))
    (if_Layout_init : PySem.W.isFn K (.ref f_Layout_init) = true)
    (l_Layout_init : K.lookup f_Layout_init = some ⟨oc_Layout_init, od_Layout_init, .func (PySem.W.fnOf "__init__" "Layout.__init__" (defArgs s_Layout_init) (defBody s_Layout_init) (defScope s_Layout_init) .none kV_Layout_init dc_Layout_init pm_Layout_init an_Layout_init cd_Layout_init ct_Layout_init), sl_Layout_init⟩)
    (c_Layout_init : PySem.W.codeIn K cd_Layout_init "Layout.__init__" = true)
    (k_Layout_init : PySem.W.keepIn K (.ref f_Layout_init) = true)
    (fi_Layout_eq : PySem.W.findIn K (.ref C_Layout) "__eq__" = some (some (.ref f_Layout_eq)))
    (if_Layout_eq : PySem.W.isFn K (.ref f_Layout_eq) = true)
    (l_Layout_eq : K.lookup f_Layout_eq = some ⟨oc_Layout_eq, od_Layout_eq, .func (PySem.W.fnOf "__eq__" "Layout.__eq__" (defArgs s_Layout_eq) (defBody s_Layout_eq) (defScope s_Layout_eq) .none kV_Layout_eq dc_Layout_eq pm_Layout_eq an_Layout_eq cd_Layout_eq ct_Layout_eq), sl_Layout_eq⟩)
    (c_Layout_eq : PySem.W.codeIn K cd_Layout_eq "Layout.__eq__" = true)
    (k_Layout_eq : PySem.W.keepIn K (.ref f_Layout_eq) = true)
    (ne_Layout : PySem.W.findIn K (.ref C_Layout) "__ne__" = some (some (.builtin "object.__ne__")))
    (fi_Layout_str : PySem.W.findIn K (.ref C_Layout) "__str__" = some (some (.ref f_Layout_str)))
    (if_Layout_str : PySem.W.isFn K (.ref f_Layout_str) = true)
    (l_Layout_str : K.lookup f_Layout_str = some ⟨oc_Layout_str, od_Layout_str, .func (PySem.W.fnOf "__str__" "Layout.__str__" (defArgs s_Layout_str) (defBody s_Layout_str) (defScope s_Layout_str) .none kV_Layout_str dc_Layout_str pm_Layout_str an_Layout_str cd_Layout_str ct_Layout_str), sl_Layout_str⟩)
    (c_Layout_str : PySem.W.codeIn K cd_Layout_str "Layout.__str__" = true)
    (k_Layout_str : PySem.W.keepIn K (.ref f_Layout_str) = true)
    (sm_Layout_read : PySem.W.findCls K (.ref C_Layout) (.type "type") "read" = some (.get (.builtin "staticmethod.__get__") (.ref p_Layout_read) .none (.ref C_Layout)))
    (rc_Layout_read : PySem.W.recIn K p_Layout_read "staticmethod" = some (.ref f_Layout_read :: rs_Layout_read))
    (l_Layout_read : K.lookup f_Layout_read = some ⟨oc_Layout_read, od_Layout_read, .func (PySem.W.fnOf "read" "Layout.read" (defArgs s_Layout_read) (defBody s_Layout_read) (defScope s_Layout_read) .none kV_Layout_read dc_Layout_read pm_Layout_read an_Layout_read cd_Layout_read ct_Layout_read), sl_Layout_read⟩)
    (c_Layout_read : PySem.W.codeIn K cd_Layout_read "Layout.read" = true)
    (k_Layout_read : PySem.W.keepIn K (.ref f_Layout_read) = true)
    (rdC_Layout : PySem.W.readsIn K C_Layout (.type "type") = true)
    (gaC_Layout : PySem.W.specialIn K (.ref C_Layout) "__getattribute__" = some (some (.builtin "type.__getattribute__")))
    (l_code : K.lookup c = some ⟨.type "code", odC, .fields vsC, slC⟩)
    (v11 : vsC[11]? = some (.ref Pt))
    (hdc : PySem.W.codeHdIn K c Pt = true)
    (kPt : K.lookup Pt = none)
    (hPt : h.get? Pt = some { cls := .none, data := .fields #[] }) :
    OB.LawG l w K CX0 16 63 "script" mg fa h := by
  have efa := hfa.symm.trans (PySem.W.mg_of X G a_law)
  cases efa
  have D_is_integer : Df K mg "is_integer" s_is_integer ["value"] f_is_integer _ := ⟨fun_mk (st := s_is_integer) l_is_integer c_is_integer k_is_integer, PySem.W.mg_of X G a_is_integer, (fun_mk (st := s_is_integer) l_is_integer c_is_integer k_is_integer).binds (ps := ["value"]) fun _ _ _ _ _ _ us hl => match us, hl with | [_], _ => rfl⟩
  have D_is_within : Df K mg "is_within" s_is_within ["value", "least", "most"] f_is_within _ := ⟨fun_mk (st := s_is_within) l_is_within c_is_within k_is_within, PySem.W.mg_of X G a_is_within, (fun_mk (st := s_is_within) l_is_within c_is_within k_is_within).binds (ps := ["value", "least", "most"]) fun _ _ _ _ _ _ us hl => match us, hl with | [_, _, _], _ => rfl⟩
  have D_is_list : Df K mg "is_list" s_is_list ["value"] f_is_list _ := ⟨fun_mk (st := s_is_list) l_is_list c_is_list k_is_list, PySem.W.mg_of X G a_is_list, (fun_mk (st := s_is_list) l_is_list c_is_list k_is_list).binds (ps := ["value"]) fun _ _ _ _ _ _ us hl => match us, hl with | [_], _ => rfl⟩
  have D_are_unlike : Df K mg "are_unlike" s_are_unlike ["value", "least", "most"] f_are_unlike _ := ⟨fun_mk (st := s_are_unlike) l_are_unlike c_are_unlike k_are_unlike, PySem.W.mg_of X G a_are_unlike, (fun_mk (st := s_are_unlike) l_are_unlike c_are_unlike k_are_unlike).binds (ps := ["value", "least", "most"]) fun _ _ _ _ _ _ us hl => match us, hl with | [_, _, _], _ => rfl⟩
  have D_need_number : Df K mg "need_number" s_need_number ["value", "part", "least", "most"] f_need_number _ := ⟨fun_mk (st := s_need_number) l_need_number c_need_number k_need_number, PySem.W.mg_of X G a_need_number, (fun_mk (st := s_need_number) l_need_number c_need_number k_need_number).binds (ps := ["value", "part", "least", "most"]) fun _ _ _ _ _ _ us hl => match us, hl with | [_, _, _, _], _ => rfl⟩
  have D_items_of : Df K mg "items_of" s_items_of ["text"] f_items_of _ := ⟨fun_mk (st := s_items_of) l_items_of c_items_of k_items_of, PySem.W.mg_of X G a_items_of, (fun_mk (st := s_items_of) l_items_of c_items_of k_items_of).binds (ps := ["text"]) fun _ _ _ _ _ _ us hl => match us, hl with | [_], _ => rfl⟩
  have D_integer_of : Df K mg "integer_of" s_integer_of ["item"] f_integer_of _ := ⟨fun_mk (st := s_integer_of) l_integer_of c_integer_of k_integer_of, PySem.W.mg_of X G a_integer_of, (fun_mk (st := s_integer_of) l_integer_of c_integer_of k_integer_of).binds (ps := ["item"]) fun _ _ _ _ _ _ us hl => match us, hl with | [_], _ => rfl⟩
  have D_item_at : Df K mg "item_at" s_item_at ["items", "at"] f_item_at _ := ⟨fun_mk (st := s_item_at) l_item_at c_item_at k_item_at, PySem.W.mg_of X G a_item_at, (fun_mk (st := s_item_at) l_item_at c_item_at k_item_at).binds (ps := ["items", "at"]) fun _ _ _ _ _ _ us hl => match us, hl with | [_, _], _ => rfl⟩
  have D_integer_at : Df K mg "integer_at" s_integer_at ["items", "at", "least", "most"] f_integer_at _ := ⟨fun_mk (st := s_integer_at) l_integer_at c_integer_at k_integer_at, PySem.W.mg_of X G a_integer_at, (fun_mk (st := s_integer_at) l_integer_at c_integer_at k_integer_at).binds (ps := ["items", "at", "least", "most"]) fun _ _ _ _ _ _ us hl => match us, hl with | [_, _, _, _], _ => rfl⟩
  have D_need_end : Df K mg "need_end" s_need_end ["items", "at"] f_need_end _ := ⟨fun_mk (st := s_need_end) l_need_end c_need_end k_need_end, PySem.W.mg_of X G a_need_end, (fun_mk (st := s_need_end) l_need_end c_need_end k_need_end).binds (ps := ["items", "at"]) fun _ _ _ _ _ _ us hl => match us, hl with | [_, _], _ => rfl⟩
  have D_gray : Df K mg "gray" s_gray ["number"] f_gray _ := ⟨fun_mk (st := s_gray) l_gray c_gray k_gray, PySem.W.mg_of X G a_gray, (fun_mk (st := s_gray) l_gray c_gray k_gray).binds (ps := ["number"]) fun _ _ _ _ _ _ us hl => match us, hl with | [_], _ => rfl⟩
  have D__is_meaning : Df K mg "_is_meaning" s__is_meaning ["value"] f__is_meaning _ := ⟨fun_mk (st := s__is_meaning) l__is_meaning c__is_meaning k__is_meaning, PySem.W.mg_of X G a__is_meaning, (fun_mk (st := s__is_meaning) l__is_meaning c__is_meaning k__is_meaning).binds (ps := ["value"]) fun _ _ _ _ _ _ us hl => match us, hl with | [_], _ => rfl⟩
  have D__meaning_at : Df K mg "_meaning_at" s__meaning_at ["items", "at"] f__meaning_at _ := ⟨fun_mk (st := s__meaning_at) l__meaning_at c__meaning_at k__meaning_at, PySem.W.mg_of X G a__meaning_at, (fun_mk (st := s__meaning_at) l__meaning_at c__meaning_at k__meaning_at).binds (ps := ["items", "at"]) fun _ _ _ _ _ _ us hl => match us, hl with | [_, _], _ => rfl⟩
  have D_need_layout : Df K mg "need_layout" s_need_layout ["value", "part"] f_need_layout _ := ⟨fun_mk (st := s_need_layout) l_need_layout c_need_layout k_need_layout, PySem.W.mg_of X G a_need_layout, (fun_mk (st := s_need_layout) l_need_layout c_need_layout k_need_layout).binds (ps := ["value", "part"]) fun _ _ _ _ _ _ us hl => match us, hl with | [_, _], _ => rfl⟩
  have D_table_of : DfT K mg f_table_of _ := ⟨⟨⟨_, _, _, _, _, _, _, _, _, _, rfl, l_table_of, c_table_of, .inr ⟨(fun z => nomatch z), dT_table_of, _, _, _, rfl, lT_table_of, rfl, .cons rfl .nil⟩, .inl rfl⟩, k_table_of⟩, PySem.W.mg_of X G a_table_of⟩
  have D__row_of : Df K mg "_row_of" s__row_of ["signs", "columns", "row"] f__row_of _ := ⟨fun_mk (st := s__row_of) l__row_of c__row_of k__row_of, PySem.W.mg_of X G a__row_of, (fun_mk (st := s__row_of) l__row_of c__row_of k__row_of).binds (ps := ["signs", "columns", "row"]) fun _ _ _ _ _ _ us hl => match us, hl with | [_, _, _], _ => rfl⟩
  have D__law_tub : Df K mg "_law_tub" s__law_tub ["script"] f__law_tub _ := ⟨fun_mk (st := s__law_tub) l__law_tub c__law_tub k__law_tub, PySem.W.mg_of X G a__law_tub, (fun_mk (st := s__law_tub) l__law_tub c__law_tub k__law_tub).binds (ps := ["script"]) fun _ _ _ _ _ _ us hl => match us, hl with | [_], _ => rfl⟩
  have D__law_scoop : Df K mg "_law_scoop" s__law_scoop ["tub", "many"] f__law_scoop _ := ⟨fun_mk (st := s__law_scoop) l__law_scoop c__law_scoop k__law_scoop, PySem.W.mg_of X G a__law_scoop, (fun_mk (st := s__law_scoop) l__law_scoop c__law_scoop k__law_scoop).binds (ps := ["tub", "many"]) fun _ _ _ _ _ _ us hl => match us, hl with | [_, _], _ => rfl⟩
  have D__law_pick : Df K mg "_law_pick" s__law_pick ["tub", "some"] f__law_pick _ := ⟨fun_mk (st := s__law_pick) l__law_pick c__law_pick k__law_pick, PySem.W.mg_of X G a__law_pick, (fun_mk (st := s__law_pick) l__law_pick c__law_pick k__law_pick).binds (ps := ["tub", "some"]) fun _ _ _ _ _ _ us hl => match us, hl with | [_, _], _ => rfl⟩
  have D__law_ordered : Df K mg "_law_ordered" s__law_ordered ["many"] f__law_ordered _ := ⟨fun_mk (st := s__law_ordered) l__law_ordered c__law_ordered k__law_ordered, PySem.W.mg_of X G a__law_ordered, (fun_mk (st := s__law_ordered) l__law_ordered c__law_ordered k__law_ordered).binds (ps := ["many"]) fun _ _ _ _ _ _ us hl => match us, hl with | [_], _ => rfl⟩
  have D__law_sign : Df K mg "_law_sign" s__law_sign ["state"] f__law_sign _ := ⟨fun_mk (st := s__law_sign) l__law_sign c__law_sign k__law_sign, PySem.W.mg_of X G a__law_sign, (fun_mk (st := s__law_sign) l__law_sign c__law_sign k__law_sign).binds (ps := ["state"]) fun _ _ _ _ _ _ us hl => match us, hl with | [_], _ => rfl⟩
  have D__law_due : Df K mg "_law_due" s__law_due ["bits", "means", "shown"] f__law_due _ := ⟨fun_mk (st := s__law_due) l__law_due c__law_due k__law_due, PySem.W.mg_of X G a__law_due, (fun_mk (st := s__law_due) l__law_due c__law_due k__law_due).binds (ps := ["bits", "means", "shown"]) fun _ _ _ _ _ _ us hl => match us, hl with | [_, _, _], _ => rfl⟩
  have D__law_heard : Df K mg "_law_heard" s__law_heard ["ask"] f__law_heard _ := ⟨fun_mk (st := s__law_heard) l__law_heard c__law_heard k__law_heard, PySem.W.mg_of X G a__law_heard, (fun_mk (st := s__law_heard) l__law_heard c__law_heard k__law_heard).binds (ps := ["ask"]) fun _ _ _ _ _ _ us hl => match us, hl with | [_], _ => rfl⟩
  have D__law_word : Df K mg "_law_word" s__law_word ["caught"] f__law_word _ := ⟨fun_mk (st := s__law_word) l__law_word c__law_word k__law_word, PySem.W.mg_of X G a__law_word, (fun_mk (st := s__law_word) l__law_word c__law_word k__law_word).binds (ps := ["caught"]) fun _ _ _ _ _ _ us hl => match us, hl with | [_], _ => rfl⟩
  have FI_BadNumber := fun_mk (st := s_init_BadNumber) li_BadNumber ci_BadNumber ki_BadNumber
  have BI_BadNumber := FI_BadNumber.binds (ps := ["self", "part"]) fun _ _ _ _ _ _ us hl => match us, hl with | [_, _], _ => rfl
  have O_BadNumber : OexC K C_BadNumber := ⟨⟨_, _, _, _, _, _, _, _, _, _, _, _, _, _, _, x_BadNumber, by rfl⟩, sa_BadNumber, e_BadNumber, t_BadNumber, k_BadNumber⟩
  have XF_BadNumber : XfC K C_BadNumber := ⟨ga_BadNumber, gg_BadNumber, e_BadNumber, hd_BadNumber⟩
  have EC_BadNumber : ExcC K C_BadNumber := ⟨ga_BadNumber, gg_BadNumber, e_BadNumber, hd_BadNumber, ha_BadNumber, spn, tkn, hm_BadNumber⟩
  have EX_BadNumber : PySem.W.exmOne K (.ref C_BadNumber) (.ref CF) = some true := PySem.W.exm_ref eF dF tF sf_BadNumber
  have kit_BadNumber_BadNumber : PySem.W.kitOne K (.ref C_BadNumber) (.ref C_BadNumber) = some true := kit_sub is_BadNumber t_BadNumber sub_BadNumber_BadNumber sub_BadNumber_BadNumber
  have kit_BadBits_BadNumber : PySem.W.kitOne K (.ref C_BadBits) (.ref C_BadNumber) = some false := kit_sub is_BadNumber t_BadNumber sub_BadNumber_BadNumber sub_BadBits_BadNumber
  have kit_BadLayout_BadNumber : PySem.W.kitOne K (.ref C_BadLayout) (.ref C_BadNumber) = some false := kit_sub is_BadNumber t_BadNumber sub_BadNumber_BadNumber sub_BadLayout_BadNumber
  have kit_BadText_BadNumber : PySem.W.kitOne K (.ref C_BadText) (.ref C_BadNumber) = some false := kit_sub is_BadNumber t_BadNumber sub_BadNumber_BadNumber sub_BadText_BadNumber
  have kz_BadNumber : PySem.W.kitOne K (.type "NoneType") (.ref C_BadNumber) = some false := kit_sub is_BadNumber t_BadNumber sub_BadNumber_BadNumber z_BadNumber
  have g_BadNumber : mg "BadNumber" = some (.ref C_BadNumber) := PySem.W.mg_of X G a_BadNumber
  have FI_BadBits := fun_mk (st := s_init_BadBits) li_BadBits ci_BadBits ki_BadBits
  have BI_BadBits := FI_BadBits.binds (ps := ["self", "part"]) fun _ _ _ _ _ _ us hl => match us, hl with | [_, _], _ => rfl
  have O_BadBits : OexC K C_BadBits := ⟨⟨_, _, _, _, _, _, _, _, _, _, _, _, _, _, _, x_BadBits, by rfl⟩, sa_BadBits, e_BadBits, t_BadBits, k_BadBits⟩
  have XF_BadBits : XfC K C_BadBits := ⟨ga_BadBits, gg_BadBits, e_BadBits, hd_BadBits⟩
  have EC_BadBits : ExcC K C_BadBits := ⟨ga_BadBits, gg_BadBits, e_BadBits, hd_BadBits, ha_BadBits, spn, tkn, hm_BadBits⟩
  have EX_BadBits : PySem.W.exmOne K (.ref C_BadBits) (.ref CF) = some true := PySem.W.exm_ref eF dF tF sf_BadBits
  have kit_BadNumber_BadBits : PySem.W.kitOne K (.ref C_BadNumber) (.ref C_BadBits) = some false := kit_sub is_BadBits t_BadBits sub_BadBits_BadBits sub_BadNumber_BadBits
  have kit_BadBits_BadBits : PySem.W.kitOne K (.ref C_BadBits) (.ref C_BadBits) = some true := kit_sub is_BadBits t_BadBits sub_BadBits_BadBits sub_BadBits_BadBits
  have kit_BadLayout_BadBits : PySem.W.kitOne K (.ref C_BadLayout) (.ref C_BadBits) = some false := kit_sub is_BadBits t_BadBits sub_BadBits_BadBits sub_BadLayout_BadBits
  have kit_BadText_BadBits : PySem.W.kitOne K (.ref C_BadText) (.ref C_BadBits) = some false := kit_sub is_BadBits t_BadBits sub_BadBits_BadBits sub_BadText_BadBits
  have kz_BadBits : PySem.W.kitOne K (.type "NoneType") (.ref C_BadBits) = some false := kit_sub is_BadBits t_BadBits sub_BadBits_BadBits z_BadBits
  have g_BadBits : mg "BadBits" = some (.ref C_BadBits) := PySem.W.mg_of X G a_BadBits
  have FI_BadLayout := fun_mk (st := s_init_BadLayout) li_BadLayout ci_BadLayout ki_BadLayout
  have BI_BadLayout := FI_BadLayout.binds (ps := ["self", "part"]) fun _ _ _ _ _ _ us hl => match us, hl with | [_, _], _ => rfl
  have O_BadLayout : OexC K C_BadLayout := ⟨⟨_, _, _, _, _, _, _, _, _, _, _, _, _, _, _, x_BadLayout, by rfl⟩, sa_BadLayout, e_BadLayout, t_BadLayout, k_BadLayout⟩
  have XF_BadLayout : XfC K C_BadLayout := ⟨ga_BadLayout, gg_BadLayout, e_BadLayout, hd_BadLayout⟩
  have EC_BadLayout : ExcC K C_BadLayout := ⟨ga_BadLayout, gg_BadLayout, e_BadLayout, hd_BadLayout, ha_BadLayout, spn, tkn, hm_BadLayout⟩
  have EX_BadLayout : PySem.W.exmOne K (.ref C_BadLayout) (.ref CF) = some true := PySem.W.exm_ref eF dF tF sf_BadLayout
  have kit_BadNumber_BadLayout : PySem.W.kitOne K (.ref C_BadNumber) (.ref C_BadLayout) = some false := kit_sub is_BadLayout t_BadLayout sub_BadLayout_BadLayout sub_BadNumber_BadLayout
  have kit_BadBits_BadLayout : PySem.W.kitOne K (.ref C_BadBits) (.ref C_BadLayout) = some false := kit_sub is_BadLayout t_BadLayout sub_BadLayout_BadLayout sub_BadBits_BadLayout
  have kit_BadLayout_BadLayout : PySem.W.kitOne K (.ref C_BadLayout) (.ref C_BadLayout) = some true := kit_sub is_BadLayout t_BadLayout sub_BadLayout_BadLayout sub_BadLayout_BadLayout
  have kit_BadText_BadLayout : PySem.W.kitOne K (.ref C_BadText) (.ref C_BadLayout) = some false := kit_sub is_BadLayout t_BadLayout sub_BadLayout_BadLayout sub_BadText_BadLayout
  have kz_BadLayout : PySem.W.kitOne K (.type "NoneType") (.ref C_BadLayout) = some false := kit_sub is_BadLayout t_BadLayout sub_BadLayout_BadLayout z_BadLayout
  have g_BadLayout : mg "BadLayout" = some (.ref C_BadLayout) := PySem.W.mg_of X G a_BadLayout
  have FI_BadText := fun_mk (st := s_init_BadText) li_BadText ci_BadText ki_BadText
  have BI_BadText := FI_BadText.binds (ps := ["self", "line", "item"]) fun _ _ _ _ _ _ us hl => match us, hl with | [_, _, _], _ => rfl
  have O_BadText : OexC K C_BadText := ⟨⟨_, _, _, _, _, _, _, _, _, _, _, _, _, _, _, x_BadText, by rfl⟩, sa_BadText, e_BadText, t_BadText, k_BadText⟩
  have XF_BadText : XfC K C_BadText := ⟨ga_BadText, gg_BadText, e_BadText, hd_BadText⟩
  have EC_BadText : ExcC K C_BadText := ⟨ga_BadText, gg_BadText, e_BadText, hd_BadText, ha_BadText, spn, tkn, hm_BadText⟩
  have EX_BadText : PySem.W.exmOne K (.ref C_BadText) (.ref CF) = some true := PySem.W.exm_ref eF dF tF sf_BadText
  have kit_BadNumber_BadText : PySem.W.kitOne K (.ref C_BadNumber) (.ref C_BadText) = some false := kit_sub is_BadText t_BadText sub_BadText_BadText sub_BadNumber_BadText
  have kit_BadBits_BadText : PySem.W.kitOne K (.ref C_BadBits) (.ref C_BadText) = some false := kit_sub is_BadText t_BadText sub_BadText_BadText sub_BadBits_BadText
  have kit_BadLayout_BadText : PySem.W.kitOne K (.ref C_BadLayout) (.ref C_BadText) = some false := kit_sub is_BadText t_BadText sub_BadText_BadText sub_BadLayout_BadText
  have kit_BadText_BadText : PySem.W.kitOne K (.ref C_BadText) (.ref C_BadText) = some true := kit_sub is_BadText t_BadText sub_BadText_BadText sub_BadText_BadText
  have kz_BadText : PySem.W.kitOne K (.type "NoneType") (.ref C_BadText) = some false := kit_sub is_BadText t_BadText sub_BadText_BadText z_BadText
  have g_BadText : mg "BadText" = some (.ref C_BadText) := PySem.W.mg_of X G a_BadText
  have F_Layout_init := fun_mk (st := s_Layout_init) l_Layout_init c_Layout_init k_Layout_init
  have b_Layout_init := F_Layout_init.binds (ps := ["self", "bits", "means"]) fun _ _ _ _ _ _ us hl => match us, hl with | [_, _, _], _ => rfl
  have F_Layout_eq := fun_mk (st := s_Layout_eq) l_Layout_eq c_Layout_eq k_Layout_eq
  have b_Layout_eq := F_Layout_eq.binds (ps := ["self", "other"]) fun _ _ _ _ _ _ us hl => match us, hl with | [_, _], _ => rfl
  have EQ_Layout : OwnEqC K C_Layout f_Layout_eq := ⟨fi_Layout_eq, if_Layout_eq, ne_Layout, hmC_Layout⟩
  have F_Layout_str := fun_mk (st := s_Layout_str) l_Layout_str c_Layout_str k_Layout_str
  have b_Layout_str := F_Layout_str.binds (ps := ["self"]) fun _ _ _ _ _ _ us hl => match us, hl with | [_], _ => rfl
  have ST_Layout : OwnStrC K C_Layout f_Layout_str := ⟨fi_Layout_str, if_Layout_str⟩
  have F_Layout_read := fun_mk (st := s_Layout_read) l_Layout_read c_Layout_read k_Layout_read
  have b_Layout_read := F_Layout_read.binds (ps := ["text"]) fun _ _ _ _ _ _ us hl => match us, hl with | [_], _ => rfl
  have SM_Layout_read : CStat K C_Layout (.type "type") "read" p_Layout_read f_Layout_read := ⟨sm_Layout_read, ⟨_, rc_Layout_read⟩, k_Layout_read⟩
  have RD_Layout : CRead K C_Layout (.type "type") := ⟨rdC_Layout, gaC_Layout⟩
  have O_Layout : OwnC K mg "Layout" C_Layout f_Layout_init := ⟨⟨pg_Layout, hdC_Layout, po_Layout, saC_Layout⟩, PySem.W.mg_of X G aC_Layout, ⟨mkC_Layout, fi_Layout_init, if_Layout_init, kcC_Layout⟩, haC_Layout, spn, tkn, hmC_Layout, kit_sub isC_Layout tyC_Layout sfC_Layout sfC_Layout, fun n hn => by
    simp only [List.mem_cons, List.not_mem_nil, or_false] at hn
    rcases hn with rfl | rfl | rfl | rfl | rfl | rfl | rfl
    · exact kit_sub isC_Layout tyC_Layout sfC_Layout suNoneType_Layout
    · exact kit_sub isC_Layout tyC_Layout sfC_Layout suint_Layout
    · exact kit_sub isC_Layout tyC_Layout sfC_Layout subool_Layout
    · exact kit_sub isC_Layout tyC_Layout sfC_Layout sustr_Layout
    · exact kit_sub isC_Layout tyC_Layout sfC_Layout sulist_Layout
    · exact kit_sub isC_Layout tyC_Layout sfC_Layout sutuple_Layout
    · exact kit_sub isC_Layout tyC_Layout sfC_Layout sudict_Layout
    , sutuple_Layout⟩
  have T : Blt mg := ⟨⟨_, PySem.W.mg_of X G a_MOST_DIGITS⟩, ⟨_, PySem.W.mg_of X G a_MOST_BITS⟩, ⟨_, PySem.W.mg_of X G a_MOST_STATE⟩, ⟨_, PySem.W.mg_of X G a_NOTHING_layouts⟩, ⟨_, PySem.W.mg_of X G a_SIGNS⟩, ⟨_, PySem.W.mg_of X G a_NOTHING_tables⟩, PySem.W.mg_none_of X G n_abs, PySem.W.mg_none_of X G n_all, PySem.W.mg_none_of X G n_bool, PySem.W.mg_none_of X G n_enumerate, PySem.W.mg_none_of X G n_int, PySem.W.mg_none_of X G n_isinstance, PySem.W.mg_none_of X G n_len, PySem.W.mg_none_of X G n_list, PySem.W.mg_none_of X G n_range, PySem.W.mg_none_of X G n_repr, PySem.W.mg_none_of X G n_set, PySem.W.mg_none_of X G n_str, PySem.W.mg_none_of X G n_tuple⟩
  refine ⟨PySem.W.fnOf "law" "law" (defArgs s_law) (defBody s_law) (defScope s_law) .none kV_law dc_law pm_law an_law (.ref c) ct_law, [(c, Pt)], spLaw K Pt, ⟨fun p hp => ?_, fun p hp => ?_, fun p hp => ?_⟩, fun s u => .of_eq rfl, fun H a ns hl _ hP hS => ⟨a, ns, rfl, hS, hl, hP _ List.mem_cons_self, fun _ => rfl⟩, fun base hK hG hTB => ?_⟩
  · rw [List.mem_singleton.mp hp]
    exact hPt
  · rw [List.mem_singleton.mp hp]
    exact kPt
  · rw [List.mem_singleton.mp hp]
    exact PySem.W.codeHd_of_K X hdc
  · skip
    have R_BadNumber : Err l.prog w K mg base "BadNumber" "part" C_BadNumber fi_BadNumber _ := ⟨O_BadNumber, i_BadNumber, ti_BadNumber, ok_init1 FI_BadNumber sc_init_BadNumber rfl (.inl rfl) (.inl rfl), BI_BadNumber, g_BadNumber, no_BadNumber_part⟩
    have R_BadBits : Err l.prog w K mg base "BadBits" "part" C_BadBits fi_BadBits _ := ⟨O_BadBits, i_BadBits, ti_BadBits, ok_init1 FI_BadBits sc_init_BadBits rfl (.inl rfl) (.inl rfl), BI_BadBits, g_BadBits, no_BadBits_part⟩
    have R_BadLayout : Err l.prog w K mg base "BadLayout" "part" C_BadLayout fi_BadLayout _ := ⟨O_BadLayout, i_BadLayout, ti_BadLayout, ok_init1 FI_BadLayout sc_init_BadLayout rfl (.inl rfl) (.inl rfl), BI_BadLayout, g_BadLayout, no_BadLayout_part⟩
    have Z : Kinds K mg CF C_BadBits C_BadLayout := ⟨PySem.W.mg_of X G aF, g_BadBits, g_BadLayout, ⟨XF_BadBits, EC_BadBits, EX_BadBits, no_BadBits_part⟩, ⟨XF_BadLayout, EC_BadLayout, EX_BadLayout, no_BadLayout_part⟩, kit_BadBits_BadBits, kit_BadBits_BadLayout, kit_BadLayout_BadBits, kit_BadLayout_BadLayout, kz_BadBits, kz_BadLayout⟩
    have G_is_integer := ok_is_integer (P := l.prog) (w := w) (base := base) D_is_integer.F T
    have G_is_within := ok_is_within (P := l.prog) (w := w) (base := base) D_is_within.F D_is_integer T
    have G_need_number := ok_need_number (P := l.prog) (w := w) (base := base) D_need_number.F D_is_within D_is_integer T R_BadNumber
    have G__law_tub := ok__law_tub (P := l.prog) (w := w) (base := base) D__law_tub.F T
    have G__law_scoop := ok__law_scoop (P := l.prog) (w := w) (base := base) D__law_scoop.F T
    have G__law_pick := ok__law_pick (P := l.prog) (w := w) (base := base) D__law_pick.F T D__law_scoop
    have G_is_list := ok_is_list (P := l.prog) (w := w) (base := base) D_is_list.F T
    have G__is_meaning := ok__is_meaning (P := l.prog) (w := w) (base := base) D__is_meaning.F T D_is_within D_is_integer
    have G_Layout_init := ok_Layout_init (P := l.prog) (w := w) (base := base) F_Layout_init T O_Layout nC_Layout_bits nC_Layout_means D_is_within D_is_integer D_is_list D__is_meaning
    have G_Layout_eq := ok_Layout_eq (P := l.prog) (w := w) (base := base) F_Layout_eq T O_Layout nC_Layout_bits nC_Layout_means
    have G_Layout_str := ok_Layout_str (P := l.prog) (w := w) (base := base) F_Layout_str T O_Layout nC_Layout_bits nC_Layout_means
    have G_are_unlike := ok_are_unlike (P := l.prog) (w := w) (base := base) D_are_unlike.F T D_is_list D_is_within D_is_integer
    have G_gray := ok_gray (P := l.prog) (w := w) (base := base) D_gray.F D_need_number G_need_number
    have G_need_layout := ok_need_layout (P := l.prog) (w := w) (base := base) D_need_layout.F T O_Layout R_BadLayout
    have G__law_ordered := ok__law_ordered (P := l.prog) (w := w) (base := base) D__law_ordered.F T
    have G__law_sign := ok__law_sign (P := l.prog) (w := w) (base := base) D__law_sign.F T
    have G__law_due := ok__law_due (P := l.prog) (w := w) (base := base) D__law_due.F T D__law_ordered D__law_sign
    have G__row_of := ok__row_of (P := l.prog) (w := w) (base := base) D__row_of.F T D_gray G_gray
    have G_table_of := ok_table_of (P := l.prog) (w := w) (base := base) D_table_of.F T O_Layout nC_Layout_bits nC_Layout_means R_BadBits D_need_layout G_need_layout D_are_unlike G_are_unlike D__row_of G__row_of
    have G__law_word := ok__law_word (P := l.prog) (w := w) (base := base) D__law_word.F T Z
    exact ok_law T l_law c_law (hTB _ List.mem_cons_self) Z O_Layout D__law_tub G__law_tub D__law_scoop D__law_pick D__law_ordered D_table_of G_table_of D__law_due G__law_due D__law_heard D__law_word G__law_word b_Layout_init G_Layout_init ST_Layout b_Layout_str G_Layout_str
end K70
open PySem PySem.W PyProof.Rows
set_option maxRecDepth 100000 in
set_option maxHeartbeats 0 in
theorem PySem.Challenge.cw_oneflip_k70_tables_in_gray_order_holds : PySem.Challenge.rw_oneflip_k70_tables_in_gray_order.Holds := by
  w_on; o_law; k_head; (case hw => w_witness2)
  k_fill
  refine OB.walk_G (l := PySem.Challenge.rw_oneflip_k70_tables_in_gray_order) (n := 63) (k := 16) (x := "script") (CX := fun _ => L2.CX0) rfl (by decide) rfl ⟨rfl, by decide, by decide⟩ (fun w h Y => PySem.W.km_in_of Y) ?F (fun _ _ _ _ _ z => z)
  case F =>
    intro w mg fa h Y KX G hmg
    refine' K70.all_mk KX G hmg ?a_is_integer ?l_is_integer ?c_is_integer ?k_is_integer ?a_is_within ?l_is_within ?c_is_within ?k_is_within ?a_is_list ?l_is_list ?c_is_list ?k_is_list ?a_are_unlike ?l_are_unlike ?c_are_unlike ?k_are_unlike ?a_need_number ?l_need_number ?c_need_number ?k_need_number ?a_items_of ?l_items_of ?c_items_of ?k_items_of ?a_integer_of ?l_integer_of ?c_integer_of ?k_integer_of ?a_item_at ?l_item_at ?c_item_at ?k_item_at ?a_integer_at ?l_integer_at ?c_integer_at ?k_integer_at ?a_need_end ?l_need_end ?c_need_end ?k_need_end ?a_gray ?l_gray ?c_gray ?k_gray ?a__is_meaning ?l__is_meaning ?c__is_meaning ?k__is_meaning ?a__meaning_at ?l__meaning_at ?c__meaning_at ?k__meaning_at ?a_need_layout ?l_need_layout ?c_need_layout ?k_need_layout ?a_table_of ?l_table_of ?lT_table_of ?c_table_of ?k_table_of ?a__row_of ?l__row_of ?c__row_of ?k__row_of ?a__law_tub ?l__law_tub ?c__law_tub ?k__law_tub ?a__law_scoop ?l__law_scoop ?c__law_scoop ?k__law_scoop ?a__law_pick ?l__law_pick ?c__law_pick ?k__law_pick ?a__law_ordered ?l__law_ordered ?c__law_ordered ?k__law_ordered ?a__law_sign ?l__law_sign ?c__law_sign ?k__law_sign ?a__law_due ?l__law_due ?c__law_due ?k__law_due ?a__law_heard ?l__law_heard ?c__law_heard ?k__law_heard ?a__law_word ?l__law_word ?c__law_word ?k__law_word ?a_law ?l_law ?c_law ?k_law ?aF ?eF ?dF ?tF ?a_BadNumber ?x_BadNumber ?sa_BadNumber ?e_BadNumber ?t_BadNumber ?k_BadNumber ?i_BadNumber ?ti_BadNumber ?li_BadNumber ?ci_BadNumber ?ki_BadNumber ?no_BadNumber_part ?ga_BadNumber ?gg_BadNumber ?hd_BadNumber ?ha_BadNumber ?hm_BadNumber ?sf_BadNumber ?is_BadNumber ?z_BadNumber ?a_BadBits ?x_BadBits ?sa_BadBits ?e_BadBits ?t_BadBits ?k_BadBits ?i_BadBits ?ti_BadBits ?li_BadBits ?ci_BadBits ?ki_BadBits ?no_BadBits_part ?ga_BadBits ?gg_BadBits ?hd_BadBits ?ha_BadBits ?hm_BadBits ?sf_BadBits ?is_BadBits ?z_BadBits ?a_BadLayout ?x_BadLayout ?sa_BadLayout ?e_BadLayout ?t_BadLayout ?k_BadLayout ?i_BadLayout ?ti_BadLayout ?li_BadLayout ?ci_BadLayout ?ki_BadLayout ?no_BadLayout_part ?ga_BadLayout ?gg_BadLayout ?hd_BadLayout ?ha_BadLayout ?hm_BadLayout ?sf_BadLayout ?is_BadLayout ?z_BadLayout ?a_BadText ?x_BadText ?sa_BadText ?e_BadText ?t_BadText ?k_BadText ?i_BadText ?ti_BadText ?li_BadText ?ci_BadText ?ki_BadText ?no_BadText_line ?no_BadText_item ?ga_BadText ?gg_BadText ?hd_BadText ?ha_BadText ?hm_BadText ?sf_BadText ?is_BadText ?z_BadText ?sub_BadNumber_BadNumber ?sub_BadNumber_BadBits ?sub_BadNumber_BadLayout ?sub_BadNumber_BadText ?sub_BadBits_BadNumber ?sub_BadBits_BadBits ?sub_BadBits_BadLayout ?sub_BadBits_BadText ?sub_BadLayout_BadNumber ?sub_BadLayout_BadBits ?sub_BadLayout_BadLayout ?sub_BadLayout_BadText ?sub_BadText_BadNumber ?sub_BadText_BadBits ?sub_BadText_BadLayout ?sub_BadText_BadText ?spn ?tkn ?a_MOST_DIGITS ?a_MOST_BITS ?a_MOST_STATE ?a_NOTHING_layouts ?a_SIGNS ?a_NOTHING_tables ?n_abs ?n_all ?n_bool ?n_enumerate ?n_int ?n_isinstance ?n_len ?n_list ?n_range ?n_repr ?n_set ?n_str ?n_tuple ?aC_Layout ?pg_Layout ?hdC_Layout ?po_Layout ?saC_Layout ?mkC_Layout ?kcC_Layout ?haC_Layout ?hmC_Layout ?isC_Layout ?tyC_Layout ?sfC_Layout ?suNoneType_Layout ?suint_Layout ?subool_Layout ?sustr_Layout ?sulist_Layout ?sutuple_Layout ?sudict_Layout ?nC_Layout_bits ?nC_Layout_means ?fi_Layout_init ?if_Layout_init ?l_Layout_init ?c_Layout_init ?k_Layout_init ?fi_Layout_eq ?if_Layout_eq ?l_Layout_eq ?c_Layout_eq ?k_Layout_eq ?ne_Layout ?fi_Layout_str ?if_Layout_str ?l_Layout_str ?c_Layout_str ?k_Layout_str ?sm_Layout_read ?rc_Layout_read ?l_Layout_read ?c_Layout_read ?k_Layout_read ?rdC_Layout ?gaC_Layout ?l_code ?v11 ?hdc ?kPt ?hPt
    (case a_is_integer => k_is)
    (case l_is_integer => k_is)
    (case c_is_integer => k_is)
    (case k_is_integer => k_is)
    (case a_is_within => k_is)
    (case l_is_within => k_is)
    (case c_is_within => k_is)
    (case k_is_within => k_is)
    (case a_is_list => k_is)
    (case l_is_list => k_is)
    (case c_is_list => k_is)
    (case k_is_list => k_is)
    (case a_are_unlike => k_is)
    (case l_are_unlike => k_is)
    (case c_are_unlike => k_is)
    (case k_are_unlike => k_is)
    (case a_need_number => k_is)
    (case l_need_number => k_is)
    (case c_need_number => k_is)
    (case k_need_number => k_is)
    (case a_items_of => k_is)
    (case l_items_of => k_is)
    (case c_items_of => k_is)
    (case k_items_of => k_is)
    (case a_integer_of => k_is)
    (case l_integer_of => k_is)
    (case c_integer_of => k_is)
    (case k_integer_of => k_is)
    (case a_item_at => k_is)
    (case l_item_at => k_is)
    (case c_item_at => k_is)
    (case k_item_at => k_is)
    (case a_integer_at => k_is)
    (case l_integer_at => k_is)
    (case c_integer_at => k_is)
    (case k_integer_at => k_is)
    (case a_need_end => k_is)
    (case l_need_end => k_is)
    (case c_need_end => k_is)
    (case k_need_end => k_is)
    (case a_gray => k_is)
    (case l_gray => k_is)
    (case c_gray => k_is)
    (case k_gray => k_is)
    (case a__is_meaning => k_is)
    (case l__is_meaning => k_is)
    (case c__is_meaning => k_is)
    (case k__is_meaning => k_is)
    (case a__meaning_at => k_is)
    (case l__meaning_at => k_is)
    (case c__meaning_at => k_is)
    (case k__meaning_at => k_is)
    (case a_need_layout => k_is)
    (case l_need_layout => k_is)
    (case c_need_layout => k_is)
    (case k_need_layout => k_is)
    (case a_table_of => k_is)
    (case l_table_of => k_is)
    (case lT_table_of => k_is)
    (case c_table_of => k_is)
    (case k_table_of => k_is)
    (case a__row_of => k_is)
    (case l__row_of => k_is)
    (case c__row_of => k_is)
    (case k__row_of => k_is)
    (case a__law_tub => k_is)
    (case l__law_tub => k_is)
    (case c__law_tub => k_is)
    (case k__law_tub => k_is)
    (case a__law_scoop => k_is)
    (case l__law_scoop => k_is)
    (case c__law_scoop => k_is)
    (case k__law_scoop => k_is)
    (case a__law_pick => k_is)
    (case l__law_pick => k_is)
    (case c__law_pick => k_is)
    (case k__law_pick => k_is)
    (case a__law_ordered => k_is)
    (case l__law_ordered => k_is)
    (case c__law_ordered => k_is)
    (case k__law_ordered => k_is)
    (case a__law_sign => k_is)
    (case l__law_sign => k_is)
    (case c__law_sign => k_is)
    (case k__law_sign => k_is)
    (case a__law_due => k_is)
    (case l__law_due => k_is)
    (case c__law_due => k_is)
    (case k__law_due => k_is)
    (case a__law_heard => k_is)
    (case l__law_heard => k_is)
    (case c__law_heard => k_is)
    (case k__law_heard => k_is)
    (case a__law_word => k_is)
    (case l__law_word => k_is)
    (case c__law_word => k_is)
    (case k__law_word => k_is)
    (case a_law => k_is)
    (case l_law => k_is)
    (case c_law => k_is)
    (case k_law => k_is)
    (case aF => k_is)
    (case eF => k_is)
    (case dF => k_is)
    (case tF => k_is)
    (case a_BadNumber => k_is)
    (case x_BadNumber => k_is)
    (case sa_BadNumber => k_is)
    (case e_BadNumber => k_is)
    (case t_BadNumber => k_is)
    (case k_BadNumber => k_is)
    (case i_BadNumber => k_is)
    (case ti_BadNumber => k_is)
    (case li_BadNumber => k_is)
    (case ci_BadNumber => k_is)
    (case ki_BadNumber => k_is)
    (case no_BadNumber_part => k_is)
    (case ga_BadNumber => k_is)
    (case gg_BadNumber => k_is)
    (case hd_BadNumber => k_is)
    (case ha_BadNumber => k_is)
    (case hm_BadNumber => k_is)
    (case sf_BadNumber => k_is)
    (case is_BadNumber => k_is)
    (case z_BadNumber => k_is)
    (case a_BadBits => k_is)
    (case x_BadBits => k_is)
    (case sa_BadBits => k_is)
    (case e_BadBits => k_is)
    (case t_BadBits => k_is)
    (case k_BadBits => k_is)
    (case i_BadBits => k_is)
    (case ti_BadBits => k_is)
    (case li_BadBits => k_is)
    (case ci_BadBits => k_is)
    (case ki_BadBits => k_is)
    (case no_BadBits_part => k_is)
    (case ga_BadBits => k_is)
    (case gg_BadBits => k_is)
    (case hd_BadBits => k_is)
    (case ha_BadBits => k_is)
    (case hm_BadBits => k_is)
    (case sf_BadBits => k_is)
    (case is_BadBits => k_is)
    (case z_BadBits => k_is)
    (case a_BadLayout => k_is)
    (case x_BadLayout => k_is)
    (case sa_BadLayout => k_is)
    (case e_BadLayout => k_is)
    (case t_BadLayout => k_is)
    (case k_BadLayout => k_is)
    (case i_BadLayout => k_is)
    (case ti_BadLayout => k_is)
    (case li_BadLayout => k_is)
    (case ci_BadLayout => k_is)
    (case ki_BadLayout => k_is)
    (case no_BadLayout_part => k_is)
    (case ga_BadLayout => k_is)
    (case gg_BadLayout => k_is)
    (case hd_BadLayout => k_is)
    (case ha_BadLayout => k_is)
    (case hm_BadLayout => k_is)
    (case sf_BadLayout => k_is)
    (case is_BadLayout => k_is)
    (case z_BadLayout => k_is)
    (case a_BadText => k_is)
    (case x_BadText => k_is)
    (case sa_BadText => k_is)
    (case e_BadText => k_is)
    (case t_BadText => k_is)
    (case k_BadText => k_is)
    (case i_BadText => k_is)
    (case ti_BadText => k_is)
    (case li_BadText => k_is)
    (case ci_BadText => k_is)
    (case ki_BadText => k_is)
    (case no_BadText_line => k_is)
    (case no_BadText_item => k_is)
    (case ga_BadText => k_is)
    (case gg_BadText => k_is)
    (case hd_BadText => k_is)
    (case ha_BadText => k_is)
    (case hm_BadText => k_is)
    (case sf_BadText => k_is)
    (case is_BadText => k_is)
    (case z_BadText => k_is)
    (case sub_BadNumber_BadNumber => k_is)
    (case sub_BadNumber_BadBits => k_is)
    (case sub_BadNumber_BadLayout => k_is)
    (case sub_BadNumber_BadText => k_is)
    (case sub_BadBits_BadNumber => k_is)
    (case sub_BadBits_BadBits => k_is)
    (case sub_BadBits_BadLayout => k_is)
    (case sub_BadBits_BadText => k_is)
    (case sub_BadLayout_BadNumber => k_is)
    (case sub_BadLayout_BadBits => k_is)
    (case sub_BadLayout_BadLayout => k_is)
    (case sub_BadLayout_BadText => k_is)
    (case sub_BadText_BadNumber => k_is)
    (case sub_BadText_BadBits => k_is)
    (case sub_BadText_BadLayout => k_is)
    (case sub_BadText_BadText => k_is)
    (case spn => k_is)
    (case tkn => k_is)
    (case a_MOST_DIGITS => k_is)
    (case a_MOST_BITS => k_is)
    (case a_MOST_STATE => k_is)
    (case a_NOTHING_layouts => k_is)
    (case a_SIGNS => k_is)
    (case a_NOTHING_tables => k_is)
    (case n_abs => k_is)
    (case n_all => k_is)
    (case n_bool => k_is)
    (case n_enumerate => k_is)
    (case n_int => k_is)
    (case n_isinstance => k_is)
    (case n_len => k_is)
    (case n_list => k_is)
    (case n_range => k_is)
    (case n_repr => k_is)
    (case n_set => k_is)
    (case n_str => k_is)
    (case n_tuple => k_is)
    (case aC_Layout => k_is)
    (case pg_Layout => k_is)
    (case hdC_Layout => k_is)
    (case po_Layout => k_is)
    (case saC_Layout => k_is)
    (case mkC_Layout => k_is)
    (case kcC_Layout => k_is)
    (case haC_Layout => k_is)
    (case hmC_Layout => k_is)
    (case isC_Layout => k_is)
    (case tyC_Layout => k_is)
    (case sfC_Layout => k_is)
    (case suNoneType_Layout => k_is)
    (case suint_Layout => k_is)
    (case subool_Layout => k_is)
    (case sustr_Layout => k_is)
    (case sulist_Layout => k_is)
    (case sutuple_Layout => k_is)
    (case sudict_Layout => k_is)
    (case nC_Layout_bits => k_is)
    (case nC_Layout_means => k_is)
    (case fi_Layout_init => k_is)
    (case if_Layout_init => k_is)
    (case l_Layout_init => k_is)
    (case c_Layout_init => k_is)
    (case k_Layout_init => k_is)
    (case fi_Layout_eq => k_is)
    (case if_Layout_eq => k_is)
    (case l_Layout_eq => k_is)
    (case c_Layout_eq => k_is)
    (case k_Layout_eq => k_is)
    (case ne_Layout => k_is)
    (case fi_Layout_str => k_is)
    (case if_Layout_str => k_is)
    (case l_Layout_str => k_is)
    (case c_Layout_str => k_is)
    (case k_Layout_str => k_is)
    (case sm_Layout_read => k_is)
    (case rc_Layout_read => k_is)
    (case l_Layout_read => k_is)
    (case c_Layout_read => k_is)
    (case k_Layout_read => k_is)
    (case rdC_Layout => k_is)
    (case gaC_Layout => k_is)
    (case l_code => k_is)
    (case v11 => rfl)
    (case hdc => kernel_rfl)
    (case kPt => kernel_rfl)
    (case hPt => exact PySem.W.km_tabs_of Y _ (by k_mem))
