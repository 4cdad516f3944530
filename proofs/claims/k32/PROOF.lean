import PyProof.Rows.All
import Wide.All
import OpenK.AllK
import Wide.FinOn
import HandS.ForMost
import HandS.Exc
import HandS.ExcValue
import HandS.ExcField
import HandS.ExcIs
import HandS.IsInst
import HandS.Lambda
import HandS.EndTab
import HandS.Wide
import HandS.WideBits
import HandS.RaiseMore
import HandS.WordsList
import HandS.WordsExc
import HandS.ExcInit
import PyProof.Rows.SetFrom
import HandS.SetFor
import HandS.Zip
import HandS.SortInts
import PyProof.ReprRoads
import HandS.FStrTup
import HandS.EndBits
import HandS.OwnEq
import PyProof.FactsAll.object_2
import HandS.ClsMeth
import HandS.MakeKwOnly
import HandS.Defaults
import KE.KFmtOwn
import HandS.ExcOwn
import PyProof.StrLawsRepr
import PyProof.CallFns
import HandS.Text
import HandS.StrMore
import HandS.Set
import HandS.Strs
import PyProof.Rows.RegReprOcc
import HandS.Conv
import HandS.Codes
import HandS.ForDict
import KE.DataMinMax
import PyProof.P3Eq
import KE.SortData
import KE.KNestM
import PySem.Challenge.RW_oneflip_k32_codes_of_fewest_bits
set_option linter.all false
/-! Ones of a number, pairs of neighbours below it. -/
set_option exponentiation.threshold 100000
namespace M04
theorem two_pos (k : Nat) : 0 < 2 ^ k := Nat.pow_pos (by decide)
def cnt (n : Nat) : Nat → Nat
  | 0 => 0
  | k + 1 => cnt n k + n / 2 ^ k % 2
theorem cnt_low (n k : Nat) : cnt n (k + 1) = n % 2 + cnt (n / 2) k := by
  induction k with
  | zero =>
    show 0 + n / 2 ^ 0 % 2 = n % 2 + 0
    rw [Nat.pow_zero, Nat.div_one]
    omega
  | succ k ih =>
    show cnt n (k + 1) + n / 2 ^ (k + 1) % 2 = n % 2 + (cnt (n / 2) k + n / 2 / 2 ^ k % 2)
    rw [ih, Nat.div_div_eq_div_mul, Nat.pow_succ, Nat.mul_comm 2]
    omega
def pc (n : Nat) : Nat := cnt n n
theorem cnt_zero (k : Nat) : cnt 0 k = 0 := by
  induction k with
  | zero => rfl
  | succ k ih =>
    show cnt 0 k + 0 / 2 ^ k % 2 = 0
    rw [ih, Nat.zero_div]
theorem cnt_more {n k : Nat} (h : n < 2 ^ k) : cnt n (k + 1) = cnt n k := by
  show cnt n k + n / 2 ^ k % 2 = cnt n k
  rw [Nat.div_eq_of_lt h]
  rfl
theorem cnt_up {n k : Nat} (h : n < 2 ^ k) (m : Nat) : cnt n (k + m) = cnt n k := by
  induction m with
  | zero => rfl
  | succ m ih =>
    have h2 : n < 2 ^ (k + m) := Nat.lt_of_lt_of_le h (Nat.pow_le_pow_right (by decide) (Nat.le_add_right k m))
    exact (cnt_more h2).trans ih
theorem cnt_pc {n k : Nat} (h : n < 2 ^ k) : cnt n k = pc n := by
  unfold pc
  have h2 : n < 2 ^ n := Nat.lt_two_pow_self
  by_cases c : k ≤ n
  · have e := cnt_up h (n - k)
    rw [show k + (n - k) = n by omega] at e
    exact e.symm
  · have e := cnt_up h2 (k - n)
    rw [show n + (k - n) = k by omega] at e
    exact e
theorem pc_half (n : Nat) : pc n = n % 2 + pc (n / 2) := by
  have h : n < 2 ^ (n + 1) := Nat.lt_trans Nat.lt_two_pow_self (Nat.pow_lt_pow_right (by decide) (Nat.lt_succ_self n))
  have h2 : n / 2 < 2 ^ n := by
    rw [Nat.pow_succ] at h
    omega
  rw [← cnt_pc h, cnt_low, cnt_pc h2]
theorem pc_two (n : Nat) : pc (2 * n) = pc n := by
  rw [pc_half, show 2 * n % 2 = 0 by omega, show 2 * n / 2 = n by omega, Nat.zero_add]
theorem pc_odd (n : Nat) : pc (2 * n + 1) = pc n + 1 := by
  rw [pc_half, show (2 * n + 1) % 2 = 1 by omega, show (2 * n + 1) / 2 = n by omega, Nat.add_comm]
theorem pc_zero : pc 0 = 0 := rfl
/-- the ones of all words below n -/
def E : Nat → Nat
  | 0 => 0
  | n + 1 => E n + pc n
theorem E_two (m : Nat) : E (2 * m) = 2 * E m + m := by
  induction m with
  | zero => rfl
  | succ m ih =>
    show E (2 * m) + pc (2 * m) + pc (2 * m + 1) = 2 * (E m + pc m) + (m + 1)
    rw [ih, pc_two, pc_odd]
    omega
theorem E_odd (m : Nat) : E (2 * m + 1) = E m + E (m + 1) + m := by
  show E (2 * m) + pc (2 * m) = E m + (E m + pc m) + m
  rw [E_two, pc_two]
  omega
theorem E_even (m : Nat) : E (2 * m + 2) = 2 * E (m + 1) + m + 1 := E_two (m + 1)
def T (b : Nat) : Nat := b * 2 ^ b / 2
theorem T_succ (b : Nat) : T (b + 1) = (b + 1) * 2 ^ b := by
  unfold T
  rw [Nat.pow_succ, ← Nat.mul_assoc, Nat.mul_div_cancel _ (by decide)]
theorem T_two (b : Nat) : 2 * T b = b * 2 ^ b := by
  cases b with
  | zero => rfl
  | succ b => rw [T_succ, Nat.pow_succ, Nat.mul_comm 2, Nat.mul_assoc]
theorem pc_pow (q b : Nat) : pc (q * 2 ^ b) = pc q := by
  induction b with
  | zero => rw [Nat.pow_zero, Nat.mul_one]
  | succ b ih => rw [Nat.pow_succ, ← Nat.mul_assoc, Nat.mul_comm, pc_two, ih]
theorem E_pow (q b : Nat) : E (q * 2 ^ b + 2 ^ b) = E (q * 2 ^ b) + pc q * 2 ^ b + T b := by
  induction b with
  | zero =>
    show E (q * 1 + 1) = E (q * 1) + pc q * 1 + 0
    rw [Nat.mul_one, Nat.mul_one]
    rfl
  | succ b ih =>
    have e1 : q * 2 ^ (b + 1) = 2 * (q * 2 ^ b) := by rw [Nat.pow_succ, ← Nat.mul_assoc, Nat.mul_comm]
    have e2 : 2 ^ (b + 1) = 2 * 2 ^ b := by rw [Nat.pow_succ, Nat.mul_comm]
    rw [e1, e2, ← Nat.mul_add, E_two, E_two, ih, T_succ, Nat.mul_add, Nat.mul_add, T_two, Nat.add_mul]
    have e3 : pc q * (2 * 2 ^ b) = 2 * (pc q * 2 ^ b) := by rw [← Nat.mul_assoc, Nat.mul_comm (pc q), Nat.mul_assoc]
    rw [e3]
    omega
/-- the bits of n below c, descending -/
def D (n : Nat) : Nat → List Nat
  | 0 => []
  | c + 1 => if n / 2 ^ c % 2 = 1 then c :: D n c else D n c
def S : List Nat → Nat → Nat → Nat
  | [], _, acc => acc
  | b :: r, a, acc => S r (a + 1) (acc + a * 2 ^ b + T b)
theorem S_is (n c : Nat) : S (D n c) (pc (n / 2 ^ c)) (E (n / 2 ^ c * 2 ^ c)) = E n := by
  induction c with
  | zero =>
    show E (n / 2 ^ 0 * 2 ^ 0) = E n
    rw [Nat.pow_zero, Nat.div_one, Nat.mul_one]
  | succ c ih =>
    have e : n / 2 ^ (c + 1) = n / 2 ^ c / 2 := by rw [Nat.pow_succ, Nat.div_div_eq_div_mul]
    have e2 : n / 2 ^ (c + 1) * 2 ^ (c + 1) = 2 * (n / 2 ^ c / 2) * 2 ^ c := by
      rw [e, Nat.pow_succ, Nat.mul_comm (2 ^ c), ← Nat.mul_assoc, Nat.mul_comm _ 2]
    unfold D
    by_cases h : n / 2 ^ c % 2 = 1
    · rw [if_pos h, e2, e]
      show S (D n c) (pc (n / 2 ^ c / 2) + 1) (E (2 * (n / 2 ^ c / 2) * 2 ^ c) + pc (n / 2 ^ c / 2) * 2 ^ c + T c) = E n
      have p1 : pc (n / 2 ^ c / 2) + 1 = pc (n / 2 ^ c) := by rw [pc_half (n / 2 ^ c), h, Nat.add_comm]
      have p2 : pc (n / 2 ^ c / 2) = pc (2 * (n / 2 ^ c / 2)) := (pc_two _).symm
      have p3 : 2 * (n / 2 ^ c / 2) * 2 ^ c + 2 ^ c = n / 2 ^ c * 2 ^ c := by
        have z : n / 2 ^ c = 2 * (n / 2 ^ c / 2) + 1 := by omega
        conv => rhs; rw [z]
        rw [Nat.add_mul, Nat.one_mul]
      rw [p1, p2, ← E_pow, p3]
      exact ih
    · rw [if_neg h, e2, e]
      have z : 2 * (n / 2 ^ c / 2) = n / 2 ^ c := by omega
      have p1 : pc (n / 2 ^ c / 2) = pc (n / 2 ^ c) := by
        have q := pc_two (n / 2 ^ c / 2)
        rw [z] at q
        exact q.symm
      rw [z, p1]
      exact ih
theorem S_all {n c : Nat} (h : n < 2 ^ c) : S (D n c) 0 0 = E n := by
  have e := S_is n c
  rw [Nat.div_eq_of_lt h, Nat.zero_mul] at e
  exact e
theorem E_two_pow (p : Nat) : E (2 * 2 ^ p) = (p + 1) * 2 ^ p := by
  have e := E_pow 0 (p + 1)
  rw [Nat.zero_mul, Nat.zero_add, T_succ] at e
  have e2 : 2 ^ (p + 1) = 2 * 2 ^ p := by rw [Nat.pow_succ, Nat.mul_comm]
  rw [e2] at e
  rw [e]
  show 0 + 0 * _ + _ = _
  rw [Nat.zero_mul]
  omega
/-- the bits of n below c, ascending -/
theorem D_rev (n c : Nat) : (D n c).reverse = (List.range c).filter fun i => decide (n / 2 ^ i % 2 = 1) := by
  induction c with
  | zero => rfl
  | succ c ih =>
    rw [List.range_succ, List.filter_append, ← ih]
    show (if n / 2 ^ c % 2 = 1 then c :: D n c else D n c).reverse = _
    by_cases h : n / 2 ^ c % 2 = 1
    · rw [if_pos h, List.reverse_cons]
      simp [h]
    · rw [if_neg h]
      simp [h]
theorem D_lt {n c b : Nat} (h : b ∈ D n c) : b < c := by
  have e : b ∈ (D n c).reverse := List.mem_reverse.mpr h
  rw [D_rev] at e
  exact List.mem_range.mp (List.mem_filter.mp e).1
theorem D_len (n c : Nat) : (D n c).length ≤ c := by
  rw [← List.length_reverse, D_rev]
  exact Nat.le_trans (List.length_filter_le _ _) (by rw [List.length_range]; exact Nat.le_refl _)
/-! ### signs -/
/-- the signs of n to the base 2, the lowest first -/
def R (n : Nat) : List Nat := ((Nat.toDigits 2 n).map fun c => c.toNat).reverse
theorem R_small {n : Nat} (h : n < 2) : R n = [48 + n] := by
  unfold R
  rw [Nat.toDigits_of_lt_base h]
  have e : n = 0 ∨ n = 1 := by omega
  rcases e with rfl | rfl <;> rfl
theorem R_big {n : Nat} (h : 2 ≤ n) : R n = (48 + n % 2) :: R (n / 2) := by
  unfold R
  rw [Nat.toDigits_of_base_le (by decide) h, List.map_append, List.reverse_append]
  have e : n % 2 = 0 ∨ n % 2 = 1 := by omega
  rcases e with z | z <;> rw [z] <;> rfl
theorem R_facts : ∀ n : Nat, n < 2 ^ (R n).length ∧ (∀ i, i < (R n).length → (R n)[i]? = some (48 + n / 2 ^ i % 2)) := by
  intro n
  induction n using Nat.strongRecOn with
  | ind n ih =>
    by_cases h : n < 2
    · rw [R_small h]
      refine ⟨by show n < 2 ^ 1; omega, fun i hi => ?_⟩
      have hi : i < 1 := hi
      have e : i = 0 := by omega
      subst e
      show some (48 + n) = some (48 + n / 2 ^ 0 % 2)
      rw [Nat.pow_zero, Nat.div_one, Nat.mod_eq_of_lt h]
    · have h2 : 2 ≤ n := by omega
      obtain ⟨a, b⟩ := ih (n / 2) (by omega)
      rw [R_big h2]
      refine ⟨?_, fun i hi => ?_⟩
      · show n < 2 ^ ((R (n / 2)).length + 1)
        rw [Nat.pow_succ]
        omega
      · cases i with
        | zero =>
          show some (48 + n % 2) = some (48 + n / 2 ^ 0 % 2)
          rw [Nat.pow_zero, Nat.div_one]
        | succ i =>
          show (R (n / 2))[i]? = _
          rw [b i (by have hi : i + 1 < (R (n / 2)).length + 1 := hi; omega), Nat.div_div_eq_div_mul, Nat.pow_succ, Nat.mul_comm 2]
theorem R_len {n k : Nat} (hk : 0 < k) (h : n < 2 ^ k) : (R n).length ≤ k := by
  induction k generalizing n with
  | zero => exact absurd hk (by decide)
  | succ k ih =>
    by_cases c : n < 2
    · rw [R_small c]
      exact Nat.succ_le_succ (Nat.zero_le _)
    · rw [R_big (by omega)]
      rw [Nat.pow_succ] at h
      have hk2 : 0 < k := by
        cases k with
        | zero =>
          rw [Nat.pow_zero] at h
          omega
        | succ k => exact Nat.succ_pos k
      exact Nat.succ_le_succ (ih hk2 (by omega))
theorem R_count (n : Nat) : (R n).countP (fun c => decide (c = 49)) = pc n := by
  induction n using Nat.strongRecOn with
  | ind n ih =>
    by_cases h : n < 2
    · rw [R_small h]
      have e : n = 0 ∨ n = 1 := by omega
      rcases e with rfl | rfl <;> rfl
    · rw [R_big (by omega), List.countP_cons, ih (n / 2) (by omega), pc_half n]
      have e : n % 2 = 0 ∨ n % 2 = 1 := by omega
      rcases e with z | z <;> rw [z] <;> simp <;> omega
theorem cnt_le (n k : Nat) : cnt n k ≤ k := by
  induction k with
  | zero => exact Nat.le_refl _
  | succ k ih =>
    show cnt n k + n / 2 ^ k % 2 ≤ k + 1
    omega
theorem pc_le {n k : Nat} (h : n < 2 ^ k) : pc n ≤ k := by
  rw [← cnt_pc h]
  exact cnt_le n k
theorem E_le {n k : Nat} (h : n ≤ 2 ^ k) : E n ≤ n * k := by
  induction n with
  | zero => exact Nat.zero_le _
  | succ n ih =>
    have a := ih (Nat.le_of_succ_le h)
    have b := pc_le (n := n) (k := k) (Nat.lt_of_succ_le h)
    show E n + pc n ≤ (n + 1) * k
    rw [Nat.add_mul, Nat.one_mul]
    omega
theorem E_lt {n : Nat} (h : n < 2 ^ 402) : E n < 2 ^ 500 := by
  refine Nat.lt_of_le_of_lt (E_le (Nat.le_of_lt h)) ?_
  have a : n * 402 ≤ 2 ^ 402 * 402 := Nat.mul_le_mul_right _ (Nat.le_of_lt h)
  exact Nat.lt_of_le_of_lt a (by decide)
end M04
set_option maxHeartbeats 1000000
namespace M07
def gray (n : Nat) : Nat := n ^^^ (n >>> 1)
theorem gray_bit (n i : Nat) : (gray n).testBit i = (n.testBit i ^^ n.testBit (i + 1)) := by
  unfold gray
  rw [Nat.testBit_xor, Nat.testBit_shiftRight, Nat.add_comm 1 i]
theorem tele (p s : Nat) : (p ^^^ (p >>> s)) ^^^ ((p ^^^ (p >>> s)) >>> s) = p ^^^ (p >>> (2 * s)) := by
  apply Nat.eq_of_testBit_eq
  intro i
  simp only [Nat.testBit_xor, Nat.testBit_shiftRight]
  rw [show 2 * s + i = s + (s + i) by omega]
  cases p.testBit i <;> cases p.testBit (s + i) <;> cases p.testBit (s + (s + i)) <;> rfl
theorem xor_zero_eq {a b : Nat} (h : a ^^^ b = 0) : a = b := by
  apply Nat.eq_of_testBit_eq
  intro i
  have z : (a ^^^ b).testBit i = (0 : Nat).testBit i := by rw [h]
  rw [Nat.testBit_xor, Nat.zero_testBit] at z
  cases e1 : a.testBit i <;> cases e2 : b.testBit i <;> rw [e1, e2] at z <;> first | rfl | cases z
theorem half_zero {q : Nat} (h : q = q >>> 1) : q = 0 := by
  rw [Nat.shiftRight_eq_div_pow] at h
  omega
theorem gray_end {p s : Nat} (h : gray p < 2 ^ s) : p ^^^ (p >>> s) = p := by
  have e : (p >>> s) ^^^ ((p >>> s) >>> 1) = 0 := by
    have z : gray p >>> s = 0 := by
      rw [Nat.shiftRight_eq_div_pow]
      exact Nat.div_eq_of_lt h
    rw [← z]
    unfold gray
    apply Nat.eq_of_testBit_eq
    intro i
    simp only [Nat.testBit_xor, Nat.testBit_shiftRight]
    rw [show s + (1 + i) = 1 + (s + i) by omega]
  have e3 : p >>> s = 0 := half_zero (xor_zero_eq e)
  rw [e3, Nat.xor_zero]
theorem one_bit (x i : Nat) : decide (x / 2 ^ i % 2 = 1) = x.testBit i := (Nat.testBit_eq_decide_div_mod_eq).symm
theorem next_mod (x i : Nat) : x % 2 ^ (i + 1) = x % 2 ^ i + (if x.testBit i = true then 2 ^ i else 0) := by
  rw [Nat.pow_succ, Nat.mod_mul, ← one_bit]
  have h := Nat.mod_two_eq_zero_or_one (x / 2 ^ i)
  rcases h with h | h <;> simp [h]
/-- the lowest bit that is 0 -/
def Low (p low : Nat) : Prop := (∀ j, j < low → p.testBit j = true) ∧ p.testBit low = false
theorem low_mod {p low : Nat} (h : Low p low) : p % 2 ^ (low + 1) = 2 ^ low - 1 := by
  apply Nat.eq_of_testBit_eq
  intro i
  rw [Nat.testBit_mod_two_pow, Nat.testBit_two_pow_sub_one]
  by_cases h1 : i < low
  · rw [h.1 i h1, decide_eq_true h1, decide_eq_true (show i < low + 1 by omega)]
    rfl
  · by_cases h2 : i = low
    · subst h2
      rw [h.2]
      simp
    · rw [decide_eq_false (show ¬ i < low + 1 by omega), decide_eq_false h1]
      rfl
theorem two_pos (k : Nat) : 0 < 2 ^ k := Nat.two_pow_pos k
theorem low_p {p low : Nat} (h : Low p low) (i : Nat) : p.testBit i = if i < low + 1 then decide (i < low) else (p / 2 ^ (low + 1)).testBit (i - (low + 1)) := by
  have e := Nat.div_add_mod p (2 ^ (low + 1))
  rw [low_mod h] at e
  have l : 2 ^ low - 1 < 2 ^ (low + 1) := by
    have a := two_pos low
    rw [Nat.pow_succ]
    omega
  conv => lhs; rw [← e]
  rw [Nat.testBit_two_pow_mul_add _ l, Nat.testBit_two_pow_sub_one]
theorem low_s {p low : Nat} (h : Low p low) (i : Nat) : (p + 1).testBit i = if i < low + 1 then decide (low = i) else (p / 2 ^ (low + 1)).testBit (i - (low + 1)) := by
  have e := Nat.div_add_mod p (2 ^ (low + 1))
  rw [low_mod h] at e
  have a := two_pos low
  have l : 2 ^ low < 2 ^ (low + 1) := by
    rw [Nat.pow_succ]
    omega
  have e2 : p + 1 = 2 ^ (low + 1) * (p / 2 ^ (low + 1)) + 2 ^ low := by omega
  conv => lhs; rw [e2]
  rw [Nat.testBit_two_pow_mul_add _ l, Nat.testBit_two_pow]
theorem gray_next {p low : Nat} (h : Low p low) : gray (p + 1) = gray p ^^^ 2 ^ low := by
  apply Nat.eq_of_testBit_eq
  intro i
  rw [Nat.testBit_xor, gray_bit, gray_bit, low_p h, low_p h, low_s h, low_s h, Nat.testBit_two_pow]
  by_cases h1 : i < low
  · simp only [show i < low + 1 by omega, show i + 1 < low + 1 by omega, if_true]
    by_cases h2 : i + 1 < low
    · simp [h1, h2, show ¬ low = i by omega, show ¬ low = i + 1 by omega]
    · have h3 : low = i + 1 := by omega
      simp [h3]
  · by_cases h2 : i = low
    · subst h2
      simp
    · simp [show ¬ i < low + 1 by omega, show ¬ i + 1 < low + 1 by omega, show ¬ low = i by omega]
theorem xor_pow {x k : Nat} : x ^^^ 2 ^ k = if x.testBit k = true then x - 2 ^ k else x + 2 ^ k := by
  have split : x = 2 ^ (k + 1) * (x / 2 ^ (k + 1)) + ((if x.testBit k = true then 2 ^ k else 0) + x % 2 ^ k) := by
    have e := Nat.div_add_mod x (2 ^ (k + 1))
    rw [next_mod] at e
    omega
  have m := Nat.mod_lt x (two_pos k)
  have l1 : 2 ^ k + x % 2 ^ k < 2 ^ (k + 1) := by
    rw [Nat.pow_succ]
    omega
  have bits : ∀ (q r : Nat) (i : Nat), r < 2 ^ k → (2 ^ (k + 1) * q + (2 ^ k + r)).testBit i = ((2 ^ (k + 1) * q + r) ^^^ 2 ^ k).testBit i := by
    intro q r i hr
    have l2 : 2 ^ k + r < 2 ^ (k + 1) := by
      rw [Nat.pow_succ]
      omega
    have l3 : r < 2 ^ (k + 1) := by
      rw [Nat.pow_succ]
      omega
    rw [Nat.testBit_xor, Nat.testBit_two_pow_mul_add _ l2, Nat.testBit_two_pow_mul_add _ l3, Nat.testBit_two_pow]
    have er : 2 ^ k + r = 2 ^ k * 1 + r := by omega
    rw [er, Nat.testBit_two_pow_mul_add _ hr]
    by_cases h1 : i < k + 1
    · simp only [h1, if_true]
      by_cases h2 : i < k
      · simp [h2, show ¬ k = i by omega]
      · have h3 : i = k := by omega
        subst h3
        simp [Nat.testBit_lt_two_pow hr]
    · simp [h1, show ¬ k = i by omega]
  cases hb : x.testBit k with
  | true =>
    rw [hb] at split
    simp only [if_true] at split
    have e : 2 ^ (k + 1) * (x / 2 ^ (k + 1)) + x % 2 ^ k = x - 2 ^ k := by omega
    simp only [if_true]
    rw [← e]
    apply Nat.eq_of_testBit_eq
    intro i
    have b := bits (x / 2 ^ (k + 1)) (x % 2 ^ k) i m
    rw [← split] at b
    rw [Nat.testBit_xor, b, Nat.testBit_xor]
    cases (2 ^ (k + 1) * (x / 2 ^ (k + 1)) + x % 2 ^ k).testBit i <;> cases (2 ^ k).testBit i <;> rfl
  | false =>
    rw [hb] at split
    simp only [Bool.false_eq_true, if_false, Nat.zero_add] at split
    simp only [Bool.false_eq_true, if_false]
    have e : 2 ^ (k + 1) * (x / 2 ^ (k + 1)) + (2 ^ k + x % 2 ^ k) = x + 2 ^ k := by omega
    rw [← e]
    apply Nat.eq_of_testBit_eq
    intro i
    rw [bits (x / 2 ^ (k + 1)) (x % 2 ^ k) i m, ← split]
theorem gray_lt {n k : Nat} (h : n < 2 ^ k) : gray n < 2 ^ k := by
  unfold gray
  refine Nat.xor_lt_two_pow h ?_
  rw [Nat.shiftRight_eq_div_pow]
  exact Nat.lt_of_le_of_lt (Nat.div_le_self _ _) h
theorem gray_mod {n k : Nat} (h : n < 2 ^ k) : gray n % 2 ^ k = gray n := Nat.mod_eq_of_lt (gray_lt h)
end M07
set_option Elab.async false
set_option maxRecDepth 100000
set_option maxHeartbeats 2000000
/-! Errors that are caught and kept: an exception object behind its suite. -/
namespace OB
open PySem PySem.Spec PyProof.Rows L2

section kit
open PySem.W PySem.Calls
variable {prog : Program} {w : World} {A : Around} {E : Value → Shared → Prop} {s : Shared} {K : Frag} {x D : Addr} {ox : Obj} {od : Option Obj}
theorem cls_data (hc : (clsIn K D).isSome = true) {nm : Str} {a g : Value} (ha : findIn K (.ref D) nm = some (some a)) (hg : specialIn K a "__get__" = some (some g)) (ht : takesIn K a = some true) :
    findObj K D od nm = some (.bind g a) := by
  cases e : clsIn K D with
  | none => rw [e] at hc; cases hc
  | some cd =>
    unfold findObj
    simp [e, ha, hg, ht]
/-- the class of an exception with or without a dict of its own -/
theorem exc_class {Q : Option Value → Shared → Prop} (C : ExcC K D) (X : K.In s.heap) (I : InstAt s.heap x ox D od) (k : Q (some (.ref D)) { s with toks := s.toks + 1 }) :
    wpAny (model prog w) A (getAttr? (.ref x) "__class__") Q E s := by
  have found : findObj K D od "__class__" = some (.bind (.builtin "getset_descriptor.__get__") (.builtin "object.__class__")) :=
    cls_data (by obtain ⟨cd, e, _⟩ := any_some C.hd; simp [e]) C.ha C.hn C.ht
  obtain ⟨h0, g0, d0, t0, o0⟩ := s
  have ty0 := I.type (M := model prog w)
  have own := looks_findIn (M := model prog w) X C.hg
  have gat := looks_findIn (M := model prog w) X C.hk
  have fnd := looks_find (M := model prog w) X I found
  have isE : Looks (model prog w) h0 (isInstance (.ref x) (.type "BaseException")) true := ty0.andThen (looks_subIn X C.hs)
  have q2 : (Value.builtin "BaseException.__getattribute__" == Value.builtin "object.__getattribute__") = false := by decide +kernel
  have q1 : (onTheHeap (Value.ref D) && Value.builtin "BaseException.__getattribute__" == Value.builtin "object.__getattribute__") = false := by
    rw [q2, Bool.and_false]
  unfold getAttr? getAttrBy? getAttrBy
  refine wpAny_bind (wpAny_mkText (wpAny_bind (wpAny_attempt (wpAny_holding (wpAny_bind (ty0.at (wpAny_bind (own.at ?_))))))))
  dsimp only
  rw [q1]
  unfold getAttrByItsOwn hookBefore
  simp only [Bool.false_eq_true, if_false]
  refine wpAny_bind ?_
  rw [if_pos (show onTheHeap (Value.ref D) = true from rfl)]
  refine gat.at ?_
  refine wpAny_bind (wpAny_attempt (wpAny_holding ?_))
  unfold callGetattribute
  rw [if_neg (by decide)]
  unfold boundAndCalled
  rw [PySem.F.excAttr_ValueError.ga.bind (.ref x)]
  refine wpAny_bind (wpAny_pure ?_)
  refine wpAny_call (codeAny_call_builtin PySem.F.excAttr_ValueError.ga.plain PySem.F.entry_bexc_ga ?_)
  refine @check_slot (model prog w) _ _ ⟨h0, g0, d0, t0 + 1, o0⟩ "BaseException.__getattribute__" "BaseException" "__getattribute__" (.ref x) [.str "__class__" t0] [] _ (by decide +kernel) (by decide +kernel) isE
    (PySem.F.args_bexc_ga (.ref x) (.str "__class__" t0)) ?_
  unfold Builtin.«object.__getattribute__»
  refine wpAny_bind (wpAny_of_eq (a := ((Value.ref x : Value), [Value.str "__class__" t0])) (by first | rfl | (simp only [slotArgs]; rfl)) ?_)
  refine wpAny_bind (wpAny_pure (wpAny_bind (ty0.at (wpAny_bind (fnd.at ?_)))))
  dsimp only
  refine wpAny_bind (wpAny_holding (wpAny_call (class_get (s := ⟨h0, g0, d0, t0 + 1, o0⟩) (ox := ox) (od := od) X I C.hm ?_)))
  refine wpAny_pure ?_
  show wpAny _ _ (handedOut (.ref D)) _ _ _
  rw [handedOut_of (v := .ref D) rfl]
  first
    | exact wpAny_pure (wpAny_pure k)
    | exact wpAny_pure k
    | exact wpAny_pure (wpAny_bind (wpAny_pure (wpAny_pure k)))
theorem exc_kit (C : ExcC K D) : KitX K (.ref x) (.ref D) (fun h => InstAt h x ox D od) := by
  obtain ⟨cd, hcd, _⟩ := any_some C.hd
  unfold clsIn at hcd
  split at hcd
  · rename_i c1 d1 cd1 sl1 look
    refine ⟨fun _ _ _ I => I.type, fun M h X _ A' Q' E' s' keep q => ?_, fun h tp dd its n sl X htp => ?_, fun X I k => exc_class C X I k⟩
    · unfold isType loadHead
      exact wpAny_bind (wpAny_loadPart (keep _ _ (X _ _ look)) (wpAny_pure q))
    · cases e : (Value.ref D == Value.ref tp) with
      | false => rfl
      | true =>
        have e2 : D = tp := Value.ref.inj (beq_iff_eq.mp e)
        rw [← e2] at htp
        have z := (X _ _ look).symm.trans htp
        cases z
  · cases hcd
end kit

/-- an exception object that is kept: its class, its own dict -/
def ExA (cls : Value) (d : Option Addr) (a : Addr) : HO := .ext fun h => ∃ (oe : Obj) (vs : Array Value), h.get? a = some oe ∧ Zc cls d oe ∧ oe.data = .fields vs
theorem exA_ok {P : Program} {w : World} {H : Hp} {h : Heap} {a : Addr} {cls : Value} {d : Option Addr} {oe : Obj} {vs : Array Value} (e : h.get? a = some oe) (z : Zc cls d oe) (f : oe.data = .fields vs) : ObjOk P w H h a (ExA cls d a) :=
  ⟨⟨oe, vs, e, z, f⟩, ⟨oe, e⟩, fun _ _ ⟨o, v, q, r⟩ k => ⟨o, v, k o q, r⟩⟩
theorem exA_at {P : Program} {w : World} {H : Hp} {h : Heap} {a : Addr} {cls : Value} {d : Option Addr} (ok : HOk P w H h) (e : H a = some (ExA cls d a)) : ∃ (oe : Obj) (vs : Array Value), h.get? a = some oe ∧ Zc cls d oe ∧ oe.data = .fields vs := by
  have z : ObjOk P w H h a (ExA cls d a) := ok a _ e
  exact z.1

section
variable {X : Cx} {pins : List (Addr × Obj)} {σ : L2.St} {H : Hp} {s : Shared}
/-- an object that came behind the entry is tracked from now on -/
theorem track {a : Addr} {o : HO} (I : Inv X pins σ H s) (hn : H a = none) (h0 : X.s_0.heap.get? a = none) (nL : a ≠ X.env.locals) (nC : ∀ x c, X.env.cells.lookup x = some c → c ≠ a)
    (nP : ∀ p ∈ X.pn ++ pins, p.1 ≠ a) (new : ObjOk X.prog X.w (upd H a o) s.heap a o) : Inv X pins σ (upd H a o) s := by
  have ne : ∀ {b u}, X.s_0.heap.get? b = some u → b ≠ a := fun {b u} e z => by
    rw [z, h0] at e
    cases e
  refine ⟨I.ok, I.os, I.bare, ⟨I.base.keep, I.base.slot, fun b u e n hx => ?_, I.base.there, fun b xs e => ?_, fun b u v e => ?_, fun b ps e => ?_⟩, I.loc, I.cell, ?_, fun x c e => ?_, fun p hp => ?_, ?_, I.len⟩
  · rw [upd_ne (ne e)]
    exact I.base.free b u e n hx
  · have q := I.base.tups b xs e
    rw [upd_ne (ne_of_none q hn)]
    exact q
  · have q := I.base.frzs b u v e
    rw [upd_ne (ne_of_none q hn)]
    exact q
  · obtain ⟨m, q⟩ := I.base.tbls b ps e
    exact ⟨m, by rw [upd_ne (ne_of_none q hn)]; exact q⟩
  · rw [upd_ne (Ne.symm nL)]
    exact I.free
  · rw [upd_ne (nC x c e)]
    exact I.freeC x c e
  · obtain ⟨e, n, r1, r2, r3⟩ := I.pin p hp
    exact ⟨e, by rw [upd_ne (nP p hp)]; exact n, r1, r2, r3⟩
  · exact I.hok.laidN (fun _ _ e => e) hn new
end

/-- what 'except x as n: kept = n' wishes: behind it slot j holds the exception, which is tracked -/
def wKeep (K : PySem.W.Frag) (c : Value) (i j : Nat) (Wout : WX) (D : Ends) : WX := fun cls d σ H =>
  ∃ b, PySem.W.exmOne K cls c = some b ∧
    (b = true → ∀ a, H a = none → D.nx (((σ.set i (some (.ref a))).set j (some (.ref a))).set i none) (upd H a (ExA cls d a))) ∧ (b = false → Wout cls d σ H)

section
variable {X : Cx} {x n m : Str} {c : Value} {i j : Nat} {body : List Stmt} {np pos pos' p1 p2 p3 : Pos} {tb : WX → TS} {Wout : WX}
theorem ps_try_keep (hs : X.stack = X.env :: X.outer) (hf : X.env.frame = some X.env.locals) (hx : X.ex = []) (hN : X.N.Nodup) (hi : X.N[i]? = some n) (hln : X.env.kindOf n = some .local)
    (hj : X.N[j]? = some m) (hlm : X.env.scope.names.lookup m = some .local) (hc : Names X x c) (tk : Takes X Wout)
    (hb : ∀ (W : WX) (pn : List (Addr × Obj)) (xe : Value → Shared → Prop), Takes (X.tr pn xe) W → PassesOwn (model X.prog X.w) X.A X.env xe → PSs (X.tr pn xe) body (tb W))
    (hdn : (n == ("__debug__" : Str)) = false := by decide) (hcn : (n == ("__classdict__" : Str)) = false := by decide)
    (hsw : ∀ env : Env, swapsWith (.Name n p2) (some (.Name m p1)) p3.line env = pure false := by intro _; rfl) :
    PS X (.Try body [.ExceptHandler (some (.Name x np)) (some n) [.Assign [.Name m p1] (.Name n p2) p3] pos'] [] [] pos) (fun D σ H => tb (wKeep X.K c i j Wout D) D σ H) := by
  refine ⟨fun pins s σ H D I h => ?_⟩
  have okX := I.ok
  have frames : X.A.frames = some (X.env :: X.outer) := by rw [okX.frames, hs]
  have lj : Loc X.env.scope m := .inl hlm
  refine wpAny_Try_except ?_
  have run := (hb (wKeep X.K c i j Wout D) (X.pn ++ pins) (fun e s₁ => wpAny (model X.prog X.w) X.A (noteFrame e X.env)
    (fun _ s₂ => wpAny (model X.prog X.w) X.A (setFlight e none)
      (fun _ s₃ => wpAny (model X.prog X.w) X.A (handleBy e X.env [.ExceptHandler (some (.Name x np)) (some n) [.Assign [.Name m p1] (.Name n p2) p3] pos']) (SP X pins D) X.xe s₃) X.xe s₂) X.xe s₁)
    (fun u s' air => ?_) PassesOwn.looking).run [] s σ H D (I.toTry _) h
  · refine wpAny_mono run (fun f s1 end1 => ?_) (fun _ _ z => z)
    cases f with
    | next =>
      obtain ⟨σ1, H1, J1, q⟩ := end1
      exact wpAny_execs_nil ⟨σ1, H1, J1.ofTry okX, q⟩
    | ret u =>
      obtain ⟨v, σ1, H1, J1, r, q⟩ := end1
      exact ⟨v, σ1, H1, J1.ofTry okX, r, q⟩
    | brk =>
      obtain ⟨σ1, H1, J1, q⟩ := end1
      exact ⟨σ1, H1, J1.ofTry okX, q⟩
    | cont =>
      obtain ⟨σ1, H1, J1, q⟩ := end1
      exact ⟨σ1, H1, J1.ofTry okX, q⟩
  · obtain ⟨a, B, sI, pins1, σ1, H1, cls, d, rfl, J0, ground, up0, sky, na, os1, bare1, b, hb1, yes, no⟩ := air
    have J : Inv X pins σ1 H1 sI := J0.ofTry okX
    have skyX : Sky B (X.env :: X.outer) a (Zc cls d) X.env.locals s'.heap := by
      rw [← hs]
      exact sky
    have Ba : B.get? a = none := by
      rcases skyX with ⟨_, z, _⟩ | ⟨_, z, _⟩ | ⟨_, z, _⟩ <;> exact z
    show wpAny (model X.prog X.w) X.A (noteFrame (.ref a) X.env) _ _ _
    refine Sky.land Zc.steady frames hf skyX fun h3 fl3 up3 => ?_
    have J3 : Inv X pins σ1 H1 { s' with heap := h3 } := J.landed ground fl3.1 (up0.trans up3) os1 bare1
    obtain ⟨oe3, vs3, he3, hz3, hd3⟩ := fl3.there
    have off : a ∉ frs (X.env :: X.outer) := fun hm => by
      obtain ⟨_, o', e', hnf⟩ := fl3.2.2.1.mem hm
      rw [he3] at e'
      cases e'
      exact hnf _ hd3
    have sIa : sI.heap.get? a = none := by
      cases e : sI.heap.get? a with
      | none => rfl
      | some o =>
        have z := ground a o e (by rw [hs]; exact off)
        rw [Ba] at z
        cases z
    have s0a : X.s_0.heap.get? a = none := by
      cases e : X.s_0.heap.get? a with
      | none => rfl
      | some o =>
        obtain ⟨o', z⟩ := J.base.there a o e (by rw [hx]; exact fun z => nomatch z)
        rw [sIa] at z
        cases z
    have nL : a ≠ X.env.locals := fun z => off (List.mem_filterMap.mpr ⟨X.env, List.mem_cons_self, by rw [hf, z]⟩)
    have nF : a ∉ X.fs := fun hm => by
      obtain ⟨e, he, q⟩ := List.mem_filterMap.mp hm
      exact off (List.mem_filterMap.mpr ⟨e, List.mem_cons_of_mem _ he, q⟩)
    have nC : ∀ y k, X.env.cells.lookup y = some k → k ≠ a := fun y k e z => by
      obtain ⟨v, o, ho, _⟩ := J.cell y k e
      rw [z, sIa] at ho
      cases ho
    have nP : ∀ p ∈ X.pn ++ pins, p.1 ≠ a := fun p hp z => by
      have q := (J.pin p hp).1
      rw [z, sIa] at q
      cases q
    have S3 := J3.suite he3 hd3 na nL nF
    refine wpAny_handleBy_cons (codeAny_handlers_test ?_) (by intro q; cases q)
    have LT : PySem.W.Looks (model X.prog X.w) h3 (typeOf (.ref a)) cls := fun A Q E s k q => wpAny_typeOf_ref (k _ _ he3) (by rw [hz3.1]; exact q)
    have LM := PySem.W.exm_one (M := model X.prog X.w) (J3.kIn) LT hb1
    have named : ∀ {Q : Value → Shared → Prop} {E : Value → Shared → Prop}, Q c { s' with heap := h3 } →
        wpAny (model X.prog X.w) (X.A.mark (some (.ref a))) (eval (.Name x np) X.env) Q E { s' with heap := h3 } := fun {Q E} q => by
      obtain ⟨hg, hdbg, hm | ⟨hm, hv, hnn⟩⟩ := hc
      · exact ld_glob (X := X.suite a ((a, oe3) :: (X.pn ++ pins))) S3 hg hm q hdbg
      · exact ld_blt (X := X.suite a ((a, oe3) :: (X.pn ++ pins))) S3 hg hm hv q hnn hdbg
    refine named (LM.here ?_)
    cases b with
    | true =>
      refine codeAny_handlers_suite_as ?_
      refine HandSPX.lands_againZ fl3 fun h4 fl4 up4 => ?_
      have J4 : Inv X pins σ1 H1 { s' with heap := h4 } := J.landed ground fl4.1 ((up0.trans up3).trans up4) os1 bare1
      obtain ⟨oe4, vs4, he4, hz4, hd4⟩ := fl4.there
      have S4 := J4.suite he4 hd4 na nL nF
      refine store_ok (X := X.suite a ((a, oe4) :: (X.pn ++ pins))) (v := .ref a) S4 hN hi (.inl hln) rfl (fun s5 S5 => ?_) (.inr hln)
      have hiσ : i < σ1.length := by
        rw [J.len]
        exact (List.getElem?_eq_some_iff.mp hi).1
      have kept := pss_one (ps_set (X := X.suite a ((a, oe4) :: (X.pn ++ pins))) (pos := p3) (pos' := p1) hN hj lj (pe_var (X := X.suite a ((a, oe4) :: (X.pn ++ pins))) (pos := p2) hi (.inl hln) hdn hcn) (hsw _) (.inr hlm))
      refine wpAny_mono (kept.run [] s5 _ H1 { nx := fun σ' H' => H' = H1 ∧ σ' = (σ1.set i (some (.ref a))).set j (some (.ref a)), rt := fun _ _ => False, bk := fun _ _ => False, ct := fun _ _ => False } S5
        ⟨.ref a, by rw [List.getElem?_set_self hiσ], rfl, rfl⟩) (fun f s6 end6 => ?_) (fun _ _ z => False.elim z)
      cases f with
      | next =>
        obtain ⟨σ6, H6, S6, e6, e7⟩ := end6
        subst e6 e7
        have at6 := (S6.pin (a, oe4) (List.mem_append_left _ List.mem_cons_self)).1
        have J6 : Inv X pins _ H6 s6 := S6.unsuite okX
        have J7 := track (o := ExA cls d a) J6 na s0a nL nC nP (exA_ok at6 hz4 hd4)
        exact gone_ok J7 hN hi hln fun s8 J8 => ⟨_, _, J8, yes rfl a na⟩
      | ret u =>
        obtain ⟨_, _, _, _, _, z⟩ := end6
        exact z.elim
      | brk =>
        obtain ⟨_, _, _, z⟩ := end6
        exact z.elim
      | cont =>
        obtain ⟨_, _, _, z⟩ := end6
        exact z.elim
    | false =>
      show wpAny _ X.A (handleBy (.ref a) X.env []) _ _ _
      refine wpAny_handleBy_nil ?_
      obtain ⟨k1, k2, k3, oe, vs, T, oT, ts', he, hz, hd, h1, hr⟩ := id fl3
      unfold PySem.passOn
      refine wpAny_bind (wpAny_field he hd h1 ?_)
      rw [if_neg (by simp)]
      have out : wpAny (model X.prog X.w) X.A (setFlight (.ref a) X.env.frame) (fun _ s4 => wpAny (model X.prog X.w) X.A (throw (.ref a) : Sem Flow) (SP X pins D) X.xe s4) X.xe { s' with heap := h3 } := by
        rw [hf]
        refine HandSPX.setFlight_upZ fl3 fun h4 hh4 up4 => wpAny_throw (tk _ _ ?_)
        exact ⟨a, B, sI, pins, σ1, H1, cls, d, rfl, J, ground, (up0.trans up3).trans up4, .inr (.inr (by rw [hs]; exact hh4)), na, os1, bare1, no rfl⟩
      first
        | exact wpAny_bind (wpAny_pure (wpAny_bind out))
        | exact wpAny_bind out
end

/-- isinstance(e, c), e an exception that is kept -/
def rIsX (K : PySem.W.Frag) : List V → Hp → VK → Prop := fun xs H Q => ∃ (a D : Addr) (d : Option Addr) (c : V) (u : Value) (b : Bool), xs = [.ref a, c] ∧ ExcC K D ∧ H a = some (ExA (.ref D) d a) ∧ (∀ dd, d = some dd → ∃ fs, H dd = some (.xd fs)) ∧ ClsV c u ∧ PySem.W.kitOne K (.ref D) u = some b ∧ Q (.bl b) H
theorem inst_at {X : Cx} {pins : List (Addr × Obj)} {σ : L2.St} {H : Hp} {s : Shared} {a D : Addr} {d : Option Addr} (I : Inv X pins σ H s) (ha : H a = some (ExA (.ref D) d a)) (hd : ∀ dd, d = some dd → ∃ fs, H dd = some (.xd fs)) :
    ∃ oe od, PySem.W.InstAt s.heap a oe D od := by
  obtain ⟨oe, vs, e, ⟨z1, z2⟩, f⟩ := exA_at I.hok ha
  obtain ⟨oc, odd, oda, osl⟩ := oe
  dsimp only at z1 z2 f
  subst z1 z2 f
  cases odd with
  | none => exact ⟨_, none, e, rfl, rfl, trivial⟩
  | some dd =>
    obtain ⟨fs, hfs⟩ := hd dd rfl
    obtain ⟨mA, hns, _⟩ := (show ObjOk X.prog X.w H s.heap dd (.xd fs) from I.hok dd _ hfs)
    obtain ⟨od, ho, _⟩ := lookIn_ns hns
    exact ⟨_, some od, e, rfl, rfl, ho⟩
theorem call_isX {X : Cx} : CallR X (.builtin "isinstance") (rIsX X.K) := by
  intro pins s σ H xs us Q I r h
  obtain ⟨a, D, d, c, u, b, rfl, C, ha, hd, hc, e, q⟩ := h
  obtain ⟨u1, u2, rfl, r1, r2⟩ := vals2 r
  have e2 := hc.eq r2
  subst e2
  obtain rfl : u1 = Value.ref a := r1
  obtain ⟨oe, od, J⟩ := inst_at I ha hd
  exact PySem.W.kia_one (exc_kit C) I.kIn J e (fun z => nomatch z) fun tk => ⟨.bl b, H, I.tok tk, rfl, q⟩
theorem call_or {X : Cx} {f : Value} {r1 r2 : List V → Hp → VK → Prop} (h1 : CallR X f r1) (h2 : CallR X f r2) : CallR X f (fun xs H Q => r1 xs H Q ∨ r2 xs H Q) := by
  intro pins s σ H xs us Q I r h
  rcases h with h | h
  · exact h1 pins s σ H xs us Q I r h
  · exact h2 pins s σ H xs us Q I r h
/-- e.f of an exception that is kept -/
def tXa (K : PySem.W.Frag) (f : Str) (te : TE) : TE := fun σ H Q => te σ H fun x H1 => ∃ (a D dd : Addr) (fs : List (Str × V)) (v : V), x = .ref a ∧ XfC K D ∧ PySem.W.findIn K (.ref D) f = some none ∧ H1 a = some (ExA (.ref D) (some dd) a) ∧ H1 dd = some (.xd fs) ∧ fs.lookup f = some v ∧ Q v H1
theorem pe_xa {X : Cx} {e : Expr} {te : TE} {pos : Pos} {n : Str} (he : PE X e te) (hb : attributeBase e n X.env (eval e X.env) = eval e X.env := by rfl) : PE X (.Attribute e n pos) (tXa X.K n te) := by
  refine ⟨fun pins s σ H Q I h => ?_⟩
  refine attr_of hb (thn (he.run pins s σ H _ I h) fun u s1 got => ?_)
  obtain ⟨y, H1, I1, ry, a, D, dd, fs, v, rfl, T, hno, ha, hdd, hl, q⟩ := got
  obtain rfl : u = Value.ref a := ry
  obtain ⟨oe, vs, eo, ⟨z1, z2⟩, hd⟩ := exA_at I1.hok ha
  obtain ⟨mA, hns, hr⟩ := (show ObjOk X.prog X.w H1 s1.heap dd (.xd fs) from I1.hok dd _ hdd)
  obtain ⟨od, ho, lk⟩ := lookIn_ns hns
  obtain ⟨u, hu, ru⟩ := RelO.some_of (v := v) (o := mA n) (by rw [← hl]; exact hr n)
  have J : PySem.W.InstAt s1.heap a oe D (some od) := ⟨eo, z1, by unfold PySem.W.notCls; rw [hd] <;> rfl, by rw [z2]; exact ho⟩
  exact HandSPX.exc_get I1.kIn J T.ga T.gg T.exC (PySem.W.findObj_own T.hdC hno rfl (by rw [lk, hu])) (handed_of ru) ⟨v, H1, I1.tok _, ru, q⟩
end OB
/-! Lambdas handed to a def: with no parameter, or with one that has a written int as its default. -/
namespace OB
open PySem PySem.Spec PyProof.Rows L2 LamX

section kit
open PySem.W PySem.Calls
abbrev lFn (qual : Str) (params : Arguments) (body : Expr) (scope : Scope) (cl : List (Str × Addr)) (dV pm cdv ct : Value) : FuncData :=
  { name := "<lambda>", qualname := qual, params := params, body := .expr body, scope := scope, globals := mainGlobals, closure := cl, defaults := dV, kwdefaults := .none, doc := .none, pyModule := pm, annotations := none, code := cdv, closureTuple := ct, builtins := builtinsNs }
abbrev lObj (qual : Str) (params : Arguments) (body : Expr) (scope : Scope) (cl : List (Str × Addr)) (dV pm cdv ct : Value) : Obj :=
  { cls := .type "function", data := .func (lFn qual params body scope cl dV pm cdv ct) }
variable {M : Model} {A : Around} {E : Value → Shared → Prop} {s : Shared} {qual : Str} {params : Arguments} {body : Expr} {scope : Scope} {env : Env} {c P : Addr} {ps : Array Value} {pos : Pos} {firstLine : Nat} {mg : Str → Option Value}
  {clos : List (Str × Addr)} {Q : Value → Shared → Prop} {dV : Value}
/-- a lambda's object is made: the code object comes by hcode1 -/
theorem tail_by (hcl : closureFor scope env = pure clos) (hge0 : env.globals = mainGlobals) (hg : s.heap.Ns mainGlobals mg) (hgP : mainGlobals ≠ P) (hb : s.heap.BuiltinsAt mg P)
    {G : Value → Heap → Heap → Prop}
    (hG : ∀ cv h1 h2, G cv h1 h2 → Heap.ExtBut P h1 h2 ∧ h1.objs.size ≤ h2.objs.size)
    (code : ∀ (h1 : Heap) (tk1 : Tok) (Q1 : Value → Shared → Prop), (∀ b o, s.heap.get? b = some o → h1.get? b = some o) → s.heap.objs.size ≤ h1.objs.size →
      (∀ cv h2 tk, G cv h1 h2 → Q1 cv { s with heap := h2, toks := tk }) → wpAny M A (functionCode env pos firstLine "<lambda>" qual params scope (.expr body)) Q1 E { s with heap := h1, toks := tk1 })
    (h : ∀ cv ctv h1 h2 tk, (∀ b o, s.heap.get? b = some o → h1.get? b = some o) → s.heap.objs.size ≤ h1.objs.size → G cv h1 h2 →
      Q (.ref h2.objs.size) { s with heap := h2.push (lObj qual params body scope clos dV ((mg "__name__").getD .none) cv ctv), toks := tk }) :
    wpAny M A (makeTail "<lambda>" qual params (.expr body) scope env dV .none none pos firstLine) Q E s := by
  obtain ⟨bm, ob, hbm, hne0, _, hneP, hbo, hcls, hdict, hdata⟩ := hb
  have go : ∀ (ctv : Value) (h1 : Heap) (tk1 : Tok), (∀ b o, s.heap.get? b = some o → h1.get? b = some o) → s.heap.objs.size ≤ h1.objs.size →
      wpAny M A (functionCode env pos firstLine "<lambda>" qual params scope (.expr body) >>= fun cv => builtinsFor mainGlobals env.builtins >>= fun bi => nsGet mainGlobals "__name__" >>= fun nm => pure Value.none >>= fun doc =>
        newObj (.type "function") (.func { name := "<lambda>", qualname := qual, params := params, body := .expr body, scope := scope, globals := mainGlobals, closure := clos, closureTuple := ctv, code := cv, builtins := bi, defaults := dV, kwdefaults := .none, annotations := none, pyModule := nm.getD .none, doc := doc })) Q E { s with heap := h1, toks := tk1 } := by
    intro ctv h1 tk1 k1 z1
    refine wpAny_bind (code h1 tk1 _ k1 z1 fun cv h2 tk g => ?_)
    obtain ⟨x2, z2⟩ := hG cv h1 h2 g
    have hg2 := (hg.keeps k1).extBut x2 hgP
    refine wpAny_bind (wpAny_builtinsFor hg2 hbm hne0 (x2 _ _ hneP (k1 _ _ hbo)) hcls hdict hdata ?_)
    refine wpAny_bind (wpAny_nsGet hg2 ?_)
    exact wpAny_bind (wpAny_pure (wpAny_newObj_type (h cv ctv h1 h2 tk k1 z1 g) (by size_fits)))
  unfold makeTail
  rw [hcl, hge0]
  refine wpAny_bind (wpAny_pure ?_)
  cases clos with
  | nil => exact wpAny_bind (wpAny_pure (go .none s.heap s.toks (fun _ _ e => e) (Nat.le_refl _)))
  | cons q r =>
    refine wpAny_bind (wpAny_newTextTuple ?_)
    exact go _ _ s.toks (fun b o e => Heap.get?_push_of_some _ e) (by rw [Heap.size_push]; omega)
end kit

section
variable {X : Cx} {pins : List (Addr × Obj)} {σ : L2.St} {H : Hp} {s : Shared}
/-- what stands of a lambda's defaults: none, or a tuple of ints that nobody tracks -/
def DflAt (h : Heap) (H : Hp) (fs : List Addr) (dV : Value) : List Value → Prop
  | [] => dV = .none
  | ds => ∃ (T : Addr) (o : Obj) (n : Nat), dV = .ref T ∧ h.get? T = some o ∧ o.data = .seq ds.toArray n ∧ H T = none ∧ T ∉ fs
/-- a lambda is made from makeTail on -/
theorem lam_tail {T : List (Addr × Str)} {c P : Addr} {params : Arguments} {body : Expr} {scope : Scope} {pos : Pos} {dV : Value} {ds : List Value} {E : Value → Shared → Prop} {Q : Value → Shared → Prop} (I : Inv X pins σ H s) (TB : TabB X.base X.mg c P) (hcode : X.env.code = .ref c)
    (hm : (P, X.env.qual ++ "<lambda>") ∈ T) (hu : ∀ p ∈ T, p.1 = P → p.2 = X.env.qual ++ "<lambda>") (hT : Tabs T H) (hfree : ∀ y ∈ scope.names, y.2 = .free → ∃ c, X.env.cells.lookup y.1 = some c)
    (hd : DflAt s.heap H (X.env.locals :: X.fs) dV ds)
    (h : ∀ (f c' : Addr) (pm ctv : Value) (H1 : Hp) (s' : Shared), Inv X pins σ H1 s' → ExtN H H1 → Tabs T H1 → DflAt s'.heap H1 (X.env.locals :: X.fs) dV ds →
      s'.heap.get? f = some (lObj (X.env.qual ++ "<lambda>") params body scope (cloFrom X.env.cells scope.names []) dV pm (.ref c') ctv) → H1 f = none → f ≠ X.env.locals → f ∉ X.fs → H1 c' = some (CodeO c' (X.env.qual ++ "<lambda>")) → Q (.ref f) s') :
    wpAny (model X.prog X.w) X.A (makeTail "<lambda>" (X.env.qual ++ "<lambda>") params (.expr body) scope X.env dV .none none pos pos.line) Q E s := by
  obtain ⟨ps, hP, ht, ha⟩ := hT _ hm
  have bP : s.heap.BuiltinsAt X.mg P := TB.bm.keeps I.bk
  have hP' : s.heap.get? P = some { cls := .none, data := .fields ps } := I.hok P _ hP
  have nLoc : ∀ f, s.heap.objs.size ≤ f → f ≠ X.env.locals := fun f hf z => by
    have h1 := I.lt
    rw [← z] at h1
    exact Nat.lt_irrefl _ (Nat.lt_of_lt_of_le h1 hf)
  have CH := TB.code.keeps I.bk
  have later : ∀ {h1 : Heap} {H1 : Hp}, (∀ b o, s.heap.get? b = some o → H b = none → b ≠ P → h1.get? b = some o) → (∀ b o, s.heap.get? b = some o → H b = none → H1 b = none) → DflAt h1 H1 (X.env.locals :: X.fs) dV ds := fun {h1 H1} k1 k2 => by
    cases ds with
    | nil => exact hd
    | cons d r =>
      obtain ⟨Td, o, n, e1, e2, e3, e4, e5⟩ := hd
      refine ⟨Td, o, n, e1, k1 _ _ e2 e4 (fun z => ?_), e3, k2 _ _ e2 e4, e5⟩
      rw [z, hP] at e4
      cases e4
  cases hc : codeAmong pos ps.toList with
  | none =>
    refine tail_by (mg := X.mg) (P := P) (closure_ok hfree) I.ok.glob (I.mod.glob.keeps I.bk) TB.gP bP
      (G := fun cv h1 h2 => ∃ c', cv = .ref c' ∧ Heap.ExtBut P h1 h2 ∧ h1.objs.size ≤ c' ∧ c' < h2.objs.size ∧ h2.CodeRec (.ref c') (X.env.qual ++ "<lambda>") ∧ h2.get? P = some (PySem.W.tabObj (ps ++ #[rawInt pos.line, rawInt pos.col, .ref c'])))
      (fun cv h1 h2 ⟨c', _, x, l1, l2, _⟩ => ⟨x, Nat.le_trans l1 (Nat.le_of_lt l2)⟩) (fun h1 tk1 Q1 k1 z1 q1 => ?_) (fun cv ctv h1 h2 tk k1 z1 g => ?_)
    · exact wpAny_functionCodeX hcode ((CH.keeps k1).code (k1 _ _ hP') ht) ((CH.keeps k1).tab (k1 _ _ hP')) hc fun c' h2 tk hx hge hlt _ hrec htb _ => q1 (.ref c') h2 tk ⟨c', rfl, hx, hge, hlt, hrec, htb.2⟩
    · obtain ⟨c', rfl, hx, hge, hlt, hrec, htb⟩ := g
      obtain ⟨c2, oc, vs, t, e2, hoc, hdc, hv⟩ := hrec
      cases e2
      have hge' : s.heap.objs.size ≤ c' := Nat.le_trans z1 hge
      have hsz : s.heap.objs.size ≤ h2.objs.size := Nat.le_trans hge' (Nat.le_of_lt hlt)
      have nC : H c' = none := I.hok.fresh hge'
      have I1 := inv_table (t' := tk) (more := #[rawInt pos.line, rawInt pos.col, .ref c']) (h' := h2.push (lObj (X.env.qual ++ "<lambda>") params body scope (cloFrom X.env.cells scope.names []) dV ((X.mg "__name__").getD .none) (.ref c') ctv)) I hP
        (fun b o hb e => Heap.get?_push_of_some _ (hx b o hb (k1 _ _ e))) (Heap.get?_push_of_some _ htb) hge' ⟨oc, vs, t, Heap.get?_push_of_some _ hoc, hdc, hv⟩
      have hE : ExtN H (upd (upd H P (.tbl (ps ++ #[rawInt pos.line, rawInt pos.col, .ref c']))) c' (CodeO c' (X.env.qual ++ "<lambda>"))) := fun b o e n => by
        rw [upd_ne (ne_of_none e nC), upd_ne (fun z => n ps (Option.some.inj (e.symm.trans (by rw [z]; exact hP))))]
        exact e
      have eL : (ps ++ #[rawInt pos.line, rawInt pos.col, .ref c']).toList = ps.toList ++ [rawInt pos.line, rawInt pos.col, .ref c'] := by simp
      refine h h2.objs.size c' _ ctv _ _ I1 hE (fun p hp => ?_) (later (fun b o e n hb => Heap.get?_push_of_some _ (hx b o hb (k1 _ _ e))) fun b o e n => ?_) (Heap.get?_push_size _ rfl) ?_ (nLoc _ hsz) (I.nofs hsz) upd_same
      · by_cases hb : p.1 = P
        · rw [hu p hp hb, hb]
          refine ⟨_, by rw [upd_ne (ne_of_none hP nC), upd_same], by rw [eL]; exact PySem.TriplesOk_snoc _ _ _ _ ht, fun p' cv hcv => ?_⟩
          rw [eL] at hcv
          rcases among_app _ ht hcv with z | z
          · obtain ⟨c0, e1, e2⟩ := ha p' cv z
            exact ⟨c0, e1, hE _ _ e2 codeO_ne⟩
          · exact ⟨c', z, upd_same⟩
        · obtain ⟨ps', a1, a2, a3⟩ := hT p hp
          refine ⟨ps', by rw [upd_ne (ne_of_none a1 nC), upd_ne hb]; exact a1, a2, fun p' cv hcv => ?_⟩
          obtain ⟨c0, e1, e2⟩ := a3 p' cv hcv
          exact ⟨c0, e1, hE _ _ e2 codeO_ne⟩
      · rw [upd_ne (Nat.ne_of_lt (Nat.lt_of_lt_of_le (Heap.lt_size e) hge')), upd_ne (fun z => by rw [z, hP] at n; cases n)]
        exact n
      · rw [upd_ne (Nat.ne_of_gt hlt), upd_ne (Nat.ne_of_gt (Nat.lt_of_lt_of_le (Heap.lt_size hP') hsz))]
        exact I.hok.fresh hsz
  | some cv0 =>
    obtain ⟨c', e, hco⟩ := ha pos cv0 hc
    subst e
    refine tail_by (mg := X.mg) (P := P) (closure_ok hfree) I.ok.glob (I.mod.glob.keeps I.bk) TB.gP bP
      (G := fun cv h1 h2 => cv = .ref c' ∧ h2 = h1) (fun cv h1 h2 ⟨_, e⟩ => by rw [e]; exact ⟨fun _ _ _ e => e, Nat.le_refl _⟩) (fun h1 tk1 Q1 k1 z1 q1 => ?_) (fun cv ctv h1 h2 tk k1 z1 g => ?_)
    · exact wpAny_functionCode_hit hcode ((CH.keeps k1).code (k1 _ _ hP') ht) hc (q1 (.ref c') h1 tk1 ⟨rfl, rfl⟩)
    · obtain ⟨rfl, rfl⟩ := g
      have kk : ∀ b o, s.heap.get? b = some o → (h2.push (lObj (X.env.qual ++ "<lambda>") params body scope (cloFrom X.env.cells scope.names []) dV ((X.mg "__name__").getD .none) (.ref c') ctv)).get? b = some o := fun b o e => Heap.get?_push_of_some _ (k1 _ _ e)
      exact h h2.objs.size c' _ ctv H _ (I.kept (t' := tk) kk) (ExtN.refl H) hT (later (fun b o e _ _ => kk b o e) fun _ _ _ n => n) (Heap.get?_push_size _ rfl) (I.hok.fresh z1) (nLoc _ z1) (I.nofs z1) hco
end
end OB
namespace OB
open PySem PySem.Spec PyProof.Rows L2 LamX

/-- a lambda's names: captured ones, globals, and its parameters nm, which are no names of the def around -/
structure LamN (sc scope : Scope) (N nm : List Str) : Prop where
  kind : scope.kind = .function
  co : scope.isCoroutine = false
  gen : scope.isGenerator = false
  own : ∀ y ∈ scope.names, y.2 ≠ .cell ∧ (y.2 = .local → y.1 ∉ N)
  par : ∀ x ∈ nm, scope.names.lookup x = some .local
  free : ∀ y ∈ scope.names, y.2 = .free → sc.names.lookup y.1 = some .cell ∨ sc.names.lookup y.1 = some .free
def lamNB (sc scope : Scope) (N nm : List Str) : Bool :=
  decide (scope.kind = .function) && !scope.isCoroutine && !scope.isGenerator &&
    (scope.names.all fun y => !decide (y.2 = .cell) && (!decide (y.2 = .local) || decide (y.1 ∉ N)) && (!decide (y.2 = .free) || decide (sc.names.lookup y.1 = some .cell) || decide (sc.names.lookup y.1 = some .free))) &&
    nm.all fun x => decide (scope.names.lookup x = some .local)
theorem lamN_by {sc scope : Scope} {N nm : List Str} (h : lamNB sc scope N nm = true) : LamN sc scope N nm := by
  unfold lamNB at h
  simp only [Bool.and_eq_true, Bool.or_eq_true, Bool.not_eq_true', decide_eq_true_eq, decide_eq_false_iff_not, List.all_eq_true] at h
  obtain ⟨⟨⟨⟨h1, h2⟩, h3⟩, h4⟩, h5⟩ := h
  refine ⟨h1, h2, h3, fun y hy => ⟨(h4 y hy).1.1, fun e => ?_⟩, fun x hx => h5 x hx, fun y hy e => ?_⟩
  · rcases (h4 y hy).1.2 with z | z
    · exact absurd e z
    · exact z
  · rcases (h4 y hy).2 with (z | z) | z
    · exact absurd e z
    · exact .inl z
    · exact .inr z
theorem LamN.has {X : Cx} {scope : Scope} {N nm : List Str} (L : LamN X.env.scope scope N nm) (ok : X.Ok) : ∀ y ∈ scope.names, y.2 = .free → ∃ c, X.env.cells.lookup y.1 = some c := fun y hy e => by
  rcases L.free y hy e with k | k
  · exact ok.has _ (.inl k)
  · exact ok.has _ (.inr k)
section
variable {X : Cx} {pins : List (Addr × Obj)} {σ : L2.St} {H HZ : Hp} {s s1 : Shared}
theorem lam_start {A : Around} {outer : List Env} {E : XK} {scope : Scope} {f c' : Addr} {h₁ : Heap} {tk : Nat} {nm : List Str} {m1 : Str → Option Value} (I : Inv X pins σ H s) (L : LamN X.env.scope scope X.N nm) (e0 : Env0 X.prog X.w X.K X.mg X.base A outer s1 HZ) (hd : A.handled = none)
    (un : Un (frs X.stack) [] H HZ s.heap s1.heap) (hns : h₁.Ns s1.heap.objs.size m1) (kp : ∀ b o, s1.heap.get? b = some o → h₁.get? b = some o) :
    Inv (lamCx X A outer s1 HZ E scope f c') [] σ HZ { s1 with heap := h₁, toks := tk } := by
  have hfree := L.has I.ok
  have up : ∀ {y c}, (cloFrom X.env.cells scope.names []).lookup y = some c → X.env.cells.lookup y = some c := fun {y c} e => by
    rcases cloFrom_mem (PySem.mem_of_lookup e) with hm | ⟨h1, h2⟩
    · cases hm
    · obtain ⟨c1, hc⟩ := hfree _ h1 rfl
      have hc : X.env.cells.lookup y = some c1 := hc
      rw [hc] at h2
      have h3 : c = c1 := h2
      rw [h3]
      exact hc
  have down : ∀ {y}, scope.names.lookup y = some .free → ∃ c, (cloFrom X.env.cells scope.names []).lookup y = some c := fun {y} hl =>
    mem_lookup (cloFrom_has (cells := X.env.cells) (acc := []) (PySem.mem_of_lookup hl))
  have cellK : ∀ {c : Addr} {v : Option Value}, H c = none → s.heap.IsCell c v → h₁.IsCell c v := fun {c v} n ⟨o, ho, hd⟩ => by
    obtain ⟨sl, q⟩ := un.any ho n (by simp)
    exact ⟨_, kp _ _ q, hd⟩
  have noX : ∀ b : Addr, b ∉ (lamCx X A outer s1 HZ E scope f c').ex := fun b z => absurd (show b ∈ ([] : List Addr) from z) (by simp)
  refine ⟨⟨e0.mod, L.kind, rfl, rfl, Nat.le_refl _, fun y z c e1 e2 => I.ok.inj y z c (up e1) (up e2), fun y hy => ?_, fun y c z _ => ?_, fun _ => hd, Around.frames_deeper e0.frames, .inr ⟨rfl, rfl⟩, fun b z => absurd z (noX b), e0.bs, e0.bsz, fun b _ _ => noX b,
      fun b z => absurd z (noX b), e0.funs, e0.frf⟩,
    rfl, e0.bare, Un.kept kp, ⟨_, hns, fun i y v e1 e2 e3 => ?_⟩, fun y c e => ?_, e0.hok.fresh (Nat.le_refl _), fun y c e => ?_, fun q hq => absurd (show q ∈ ([] : List (Addr × Obj)) ++ [] from hq) (by simp), e0.hok.kept kp, I.len⟩
  · have hy : scope.names.lookup y = some .cell ∨ scope.names.lookup y = some .free := hy
    rcases hy with hy | hy
    · exact absurd rfl (L.own _ (PySem.mem_of_lookup hy)).1
    · exact down hy
  · have z : false = true := z
    cases z
  · have e3 : Vis scope y := e3
    have e1 : X.N[i]? = some y := e1
    rcases e3 with k | k | k
    · exact absurd (List.mem_of_getElem? e1) ((L.own _ (PySem.mem_of_lookup k)).2 rfl)
    · exact absurd rfl (L.own _ (PySem.mem_of_lookup k)).1
    · obtain ⟨m, hn, hl⟩ := I.loc
      have vis : Vis X.env.scope y := (L.free _ (PySem.mem_of_lookup k) rfl).elim (fun k => .inr (.inl k)) (fun k => .inr (.inr k))
      obtain ⟨w', r, q⟩ := hl i y v e1 e2 vis
      obtain ⟨c2, h2⟩ := down k
      refine ⟨w', r, .inr ⟨.inr k, c2, h2, ?_⟩⟩
      have c1 := up h2
      rcases q with ⟨k', _⟩ | ⟨_, c3, e', z⟩
      · have k' : X.env.scope.names.lookup y = some .local := k'
        rcases L.free _ (PySem.mem_of_lookup k) rfl with k2 | k2 <;> rw [show X.env.scope.names.lookup y = _ from k2] at k' <;> cases k'
      · rw [c1] at e'
        cases e'
        exact cellK (I.freeC y _ c1) z
  · obtain ⟨w', z⟩ := I.cell y c (up e)
    exact ⟨w', cellK (I.freeC y c (up e)) z⟩
  · obtain ⟨v, o, ho, hd⟩ := I.cell y c (up e)
    exact un.free c o ho (I.freeC y c (up e)) (by simp)
/-- how a lambda called with nothing binds its parameters nm to their defaults ds -/
def LamB (params : Arguments) (nm : List Str) (ds : List Value) : Prop :=
  ∀ (q : Str) (body : Expr) (scope : Scope) (cl : List (Str × Addr)) (dV pm cv ctv : Value) (M : Model) (A : Around) (E : Value → Shared → Prop) (s : Shared) (H : Hp) (fs : List Addr) (Q : List (Str × Value) → Shared → Prop),
    DflAt s.heap H fs dV ds → Q (nm.zip ds) s → wpAny M A (bindArgs (lFn q params body scope cl dV pm cv ctv) ⟨[], []⟩) Q E s
theorem lamB0 {params : Arguments} (h : ∀ (q : Str) (body : Expr) (scope : Scope) (cl : List (Str × Addr)) (pm cv ctv : Value), bindArgs (lFn q params body scope cl .none pm cv ctv) ⟨[], []⟩ = pure []) : LamB params [] [] :=
  fun q body scope cl dV pm cv ctv M A E s H fs Q hd hq => by
    have hd : dV = .none := hd
    rw [hd, h]
    exact wpAny_pure hq
theorem lamB1 {params : Arguments} {a : Str} {d : Value} (h : ∀ (q : Str) (body : Expr) (scope : Scope) (cl : List (Str × Addr)) (T : Addr) (pm cv ctv : Value), ∃ k, bindArgs (lFn q params body scope cl (.ref T) pm cv ctv) ⟨[], []⟩ = seqItems? (.ref T) >>= k ∧ k (some #[d]) = pure [(a, d)]) : LamB params [a] [d] :=
  fun q body scope cl dV pm cv ctv M A E s H fs Q hd hq => by
    obtain ⟨T, o, n, rfl, e2, e3, _⟩ := hd
    obtain ⟨k, e, ek⟩ := h q body scope cl T pm cv ctv
    rw [e]
    refine wpAny_bind (wpAny_seqItems e2 e3 ?_)
    rw [show (some [d].toArray : Option (Array Value)) = some #[d] from rfl, ek]
    exact wpAny_pure hq
/-- x(), in the def that got the lambda: Z is that def's context, entered at s -/
theorem pe_act {CXg : CXT} {Eg : XK} {Ng : List Str} {qg : Str} {sg : Scope} {g f c' : Addr} {cdg pm ctv dV : Value} {ds : List Value} {nm : List Str} {params : Arguments} {body : Expr} {scope : Scope} {k i : Nat} {a : Str} {pn : List (Addr × Obj)} {xe : Value → Shared → Prop} {W : WX} {tb : XK → TE} {p1 p2 : Pos}
    (I : Inv X pins σ H s) (L : LamN X.env.scope scope X.N nm) (hf : s.heap.get? f = some (lObj (X.env.qual ++ "<lambda>") params body scope (cloFrom X.env.cells scope.names []) dV pm (.ref c') ctv)) (hfn : H f = none) (hfr : f ∉ X.env.locals :: X.fs)
    (hbind : LamB params nm ds) (hds : DflAt s.heap H (X.env.locals :: X.fs) dV ds)
    (tk : Takes ((cxOf CXg X.prog X.w X.K X.mg X.base Ng qg sg g cdg X.A X.stack s H Eg).tr pn xe) W) (hr : Room (k + 1) (X.A.deeper (envOfC qg sg s.heap.objs.size g cdg)))
    (hbody : ∀ (A : Around) (outer : List Env) (s : Shared) (H : Hp) (E : XK), Room k (A.deeper (lamEnv X scope s.heap.objs.size f c')) → PE (lamCx X A outer s H E scope f c') body (tb E))
    (hN : Ng[i]? = some a) (hv : Vis sg a) (hd : (a == ("__debug__" : Str)) = false := by decide) (hcd : (a == ("__classdict__" : Str)) = false := by decide) :
    PE ((cxOf CXg X.prog X.w X.K X.mg X.base Ng qg sg g cdg X.A X.stack s H Eg).tr pn xe) (.Call (.Name a p1) [] [] p2)
      (fun σZ HZ Q => σZ[i]? = some (some (.ref f)) ∧ HZ c' = some (CodeO c' (X.env.qual ++ "<lambda>")) ∧ tb (fun cls d H' => W cls d σZ H') σ HZ Q) := by
  have nst : ∀ {b : Addr}, b ∉ X.env.locals :: X.fs → b ∉ frs X.stack := fun {b} h z => h (I.stkSub b z)
  refine ⟨fun pinsZ sZ σZ HZ Q IZ h => ?_⟩
  obtain ⟨hs, hc, ht⟩ := h
  refine wpAny_Call_Name_kw (thn ((pe_var (pos := p1) (i := i) hN hv hd hcd).run pinsZ sZ σZ HZ (fun v H1 => v = .ref f ∧ H1 = HZ) IZ ⟨.ref f, hs, rfl, rfl⟩) fun u s1 ⟨v, H1, I1, r1, q1⟩ => ?_)
  obtain ⟨ev, eH⟩ := q1
  subst ev
  rw [eH] at I1
  obtain rfl : u = Value.ref f := r1
  have keep1 : ∀ {b : Addr} {o : Obj}, s.heap.get? b = some o → H b = none → b ∉ X.env.locals :: X.fs → s1.heap.get? b = some o ∧ HZ b = none := fun {b o} e n nf =>
    ⟨I1.base.keep b _ e n (nst nf) (fun z => nomatch (show b ∈ ([] : List Addr) from z)), I1.base.free b _ e n (fun z => nomatch (show b ∈ ([] : List Addr) from z))⟩
  have of1 := (keep1 hf hfn hfr).1
  have ds1 : DflAt s1.heap HZ (X.env.locals :: X.fs) dV ds := by
    cases ds with
    | nil => exact hds
    | cons d r =>
      obtain ⟨T, o, n, e1, e2, e3, e4, e5⟩ := hds
      exact ⟨T, o, n, e1, (keep1 e2 e4 e5).1, e3, (keep1 e2 e4 e5).2, e5⟩
  refine PySem.W.callWith_F0 ⟨_, _, _, _, of1⟩ ?_
  have un : Un (frs X.stack) [] H HZ s.heap s1.heap := I1.base
  obtain ⟨⟨oc, vs, t, hoc, hdc, hvc⟩, _, _⟩ := I1.hok c' _ hc
  have rc : codeAny (model X.prog X.w) (X.A.deeper (envOfC qg sg s.heap.objs.size g cdg)) (.call (.ref f) ⟨[], []⟩) (CR (L2.CX X.prog X.w) (envOfC qg sg s.heap.objs.size g cdg :: X.stack) X.prog X.w HZ s1 Q fun cls d H' => W cls d σZ H') s1 := by
    refine PySem.W.kla_callFunE hr.depth of1 rfl L.co L.gen rfl ⟨c', oc, vs, t, rfl, hoc, hdc, hvc⟩ ?_
    refine hbind _ _ _ _ _ _ _ _ _ _ _ s1 HZ _ _ ds1 ?_
    refine wpAny_newFunctionEnv (fun y hy => (L.own y hy).1) (fun y hy => L.par _ (List.of_mem_zip (by simpa using hy)).1) (fun h₁ hns hsb => ⟨I1.nolimit.fresh _ hsb, ?_⟩) L.kind
    show codeAny _ _ (.expr body (lamEnv X scope s1.heap.objs.size f c')) _ _
    have kp : ∀ b o, s1.heap.get? b = some o → h₁.get? b = some o := fun b o e => hsb.extBut b o (Nat.ne_of_lt (Heap.lt_size e)) (Heap.get?_push_of_some _ e)
    have J : Inv (lamCx X (X.A.deeper (envOfC qg sg s.heap.objs.size g cdg)) (envOfC qg sg s.heap.objs.size g cdg :: X.stack) s1 HZ (fun cls d H' => W cls d σZ H') scope f c') [] σ HZ { s1 with heap := h₁, toks := s1.toks + (nm.zip ds).length } :=
      lam_start I L I1.env0 hr.hd un hns kp
    refine PySem.W.kla_codeExpr (wpAny_mono ((hbody _ _ s1 HZ _ (hr.deeper _)).run [] _ _ HZ Q J ht) (fun v s' hq => ?_) fun e s' hq => hq)
    obtain ⟨w', H', J', rv, q⟩ := hq
    exact ⟨w', H', J'.os, J'.bare, J'.base, J'.hok, rv, q⟩
  refine wpAny_call (codeAny_mono rc fun r s' hq => ?_)
  cases r with
  | error e => exact tk e s' (XE.of_call I1 (fun _ _ _ h => h) hq)
  | ok fl =>
    cases fl with
    | ret u => exact I1.after hq
    | next => exact False.elim hq
    | brk => exact False.elim hq
    | cont => exact False.elim hq
end
/-- a reading that grows with what is wanted -/
def MonoL (tl : XK → Hp → VK → Prop) : Prop := ∀ (E1 E2 : XK) (H : Hp) (Q1 Q2 : VK), (∀ c d H', E1 c d H' → E2 c d H') → (∀ v H', Q1 v H' → Q2 v H') → tl E1 H Q1 → tl E2 H Q2
/-- the def that calls what it got, beside other values vs; TT: what it makes of the lambda's reading -/
def Gives (X : Cx) (Ng : List Str) (x : Str) (sg : Scope) (g : Addr) (cdg : Value) (bg : List Stmt) (a : Str) (q : Str) (k : Nat) (TT : List V → (XK → Hp → VK → Prop) → Hp → VK → Prop) : Prop :=
  ∀ (f c' : Addr) (vs : List V) (s : Shared) (H : Hp) (Q : VK) (tl : XK → Hp → VK → Prop), Room k (X.A.deeper (envOfC x sg s.heap.objs.size g cdg)) →
    (∀ (W : WX) (pn : List (Addr × Obj)) (xe : Value → Shared → Prop) (p1 p2 : Pos), Takes ((cxOf L2.CX0 X.prog X.w X.K X.mg X.base Ng x sg g cdg X.A X.stack s H fun _ _ _ => False).tr pn xe) W →
      PE ((cxOf L2.CX0 X.prog X.w X.K X.mg X.base Ng x sg g cdg X.A X.stack s H fun _ _ _ => False).tr pn xe) (.Call (.Name a p1) [] [] p2) (fun σZ HZ Q => σZ[0]? = some (some (.ref f)) ∧ HZ c' = some (CodeO c' q) ∧ tl (fun cls d H' => W cls d σZ H') HZ Q)) →
    H c' = some (CodeO c' q) → MonoL tl → TT vs tl H Q →
    ∃ t, PSs (cxOf L2.CX0 X.prog X.w X.K X.mg X.base Ng x sg g cdg X.A X.stack s H fun _ _ _ => False).nox bg t ∧ t { nx := fun _ H' => Q .non H', rt := Q } (L2.start Ng (.ref f :: vs)) H
def tLam2 (T : List (Addr × Str)) (vs : List V) (TT : List V → (XK → Hp → VK → Prop) → Hp → VK → Prop) (t : XK → TE) : TE := fun σ H Q => Tabs T H ∧ ∀ H1, ExtN H H1 → Tabs T H1 → TT vs (fun E H' Q' => t E σ H' Q') H1 Q
section
variable {X : Cx}
/-- x(lambda: body, rest ..), rest written constants -/
theorem pe_lam {T : List (Addr × Str)} {vs : List V} {TT : List V → (XK → Hp → VK → Prop) → Hp → VK → Prop} {x a : Str} {g c P : Addr} {k : Nat} {pg : Arguments} {bg : List Stmt} {sg : Scope} {dV kV doc pm cdv ct oc : Value} {an od : Option Addr} {osl : Array (Option Value)} {Ng ps nm : List Str}
    {params : Arguments} {body : Expr} {rest : List Expr} {tr : TA} {dts : List Int} {scope : Scope} {t : XK → TE} {p lpos pos : Pos} (hg : Gl X x) (hm : X.mg x = some (.ref g)) (hk : PySem.W.keepIn X.K (.ref g) = true)
    (lk : X.K.lookup g = some ⟨oc, od, .func (PySem.W.fnOf x x pg bg sg dV kV doc pm an cdv ct), osl⟩) (hcg : PySem.W.codeIn X.K cdv x = true) (hb : L2.Binds X.K (PySem.W.fnOf x x pg bg sg dV kV doc pm an cdv ct) (a :: ps) []) (Sg : FnScope Ng (a :: ps) sg) (hNg : Ng[0]? = some a) (hva : Vis sg a)
    (hG : Gives X Ng x sg g cdv bg a (X.env.qual ++ "<lambda>") (k + 1) TT)
    (TB : TabB X.base X.mg c P) (hcode : X.env.code = .ref c) (hmT : (P, X.env.qual ++ "<lambda>") ∈ T) (hu : ∀ p ∈ T, p.1 = P → p.2 = X.env.qual ++ "<lambda>") (hr : Room (k + 2) X.A) (L : LamN X.env.scope scope X.N nm)
    (hdef : (dts = [] ∧ defaultsOf params X.env = ([], [])) ∨ ∃ n j dp, dts = [n] ∧ defaultsOf params X.env = ([eval (.Constant (.int n) j dp) X.env], []))
    (hbind : ∀ ds : List Value, Vals (dts.map V.int) ds → LamB params nm ds)
    (hmono : ∀ σ : L2.St, MonoL fun E H' Q' => t E σ H' Q') (hrest : PA X rest tr) (htr : ∀ σ H Q, tr σ H Q = Q vs H) (hvl : vs.length = ps.length)
    (hbody : ∀ (A : Around) (outer : List Env) (s : Shared) (H : Hp) (E : XK) (f c' : Addr), Room k (A.deeper (lamEnv X scope s.heap.objs.size f c')) → PE (lamCx X A outer s H E scope f c') body (t E))
    (he : starEach (.Lambda params body scope lpos :: rest) X.env = (false, eval (.Lambda params body scope lpos) X.env) :: starEach rest X.env := by rfl) (hpl : (backTo pos (starEach rest X.env)).any (·.1) = false := by rfl)
    (hdb : (x == ("__debug__" : Str)) = false := by decide) (hd : (a == ("__debug__" : Str)) = false := by decide) (hcd : (a == ("__classdict__" : Str)) = false := by decide) :
    PE X (.Call (.Name x p) (.Lambda params body scope lpos :: rest) [] pos) (tLam2 T vs TT t) := by
  refine ⟨fun pins s σ H Q I h => ?_⟩
  obtain ⟨hT, h⟩ := h
  refine wpAny_Call_Name_kw (ld_glob I hg hm ?_ hdb)
  refine PySem.W.callWith_K (h₀ := X.base) I.ok.mod.kin hk ?_ he hpl
  rw [he]
  show wpAny _ _ (spliced ((false, eval (.Lambda params body scope lpos) X.env) :: backTo pos (starEach rest X.env))) _ _ s
  -- from the making of the object on
  have go : ∀ (s0 : Shared) (dV : Value) (ds : List Value), Inv X pins σ H s0 → Vals (dts.map V.int) ds → DflAt s0.heap H (X.env.locals :: X.fs) dV ds →
      wpAny (model X.prog X.w) X.A (PySem.makeTail "<lambda>" (X.env.qual ++ "<lambda>") params (.expr body) scope X.env dV .none none lpos lpos.line)
        (fun u s1 => wpAny (model X.prog X.w) X.A (spliced (backTo pos (starEach rest X.env))) (fun us s2 => X.K.In s2.heap ∧ wpAny (model X.prog X.w) X.A (call (.ref g) ([] ++ u :: us)) (EP X pins σ Q) X.xe s2) X.xe s1) X.xe s0 := by
    intro s0 dV ds I0 rd hd0
    refine lam_tail I0 TB hcode hmT hu hT (L.has I0.ok) hd0 fun f c' pm' ctv H1 s' I1 eN T1 hd1 hf hfn hfL hfF hco => ?_
    obtain ⟨pl, hpl1, hpl2⟩ : ∃ pl : List (Addr × Obj), (∀ p ∈ pl, s'.heap.get? p.1 = some p.2 ∧ H1 p.1 = none ∧ p.1 ≠ X.env.locals ∧ p.1 ∉ X.fs ∧ ∀ v, p.2.data ≠ .cell v) ∧ (∀ h2 : Heap, (∀ p ∈ pl, h2.get? p.1 = some p.2) → DflAt h2 H1 (X.env.locals :: X.fs) dV ds) := by
      cases ds with
      | nil => exact ⟨[], (fun p hp => nomatch hp), fun _ _ => hd1⟩
      | cons d r =>
        obtain ⟨Td, o, n, e1, e2, e3, e4, e5⟩ := hd1
        refine ⟨[(Td, o)], fun p hp => ?_, fun h2 k => ⟨Td, o, n, e1, k _ List.mem_cons_self, e3, e4, e5⟩⟩
        obtain rfl : p = (Td, o) := by simpa using hp
        exact ⟨e2, e4, fun z => e5 (by rw [show Td = X.env.locals from z]; exact List.mem_cons_self), fun z => e5 (List.mem_cons_of_mem _ z), fun v z => by
          have z' : o.data = .cell v := z
          rw [e3] at z'
          cases z'⟩
    have J : Inv X (pins ++ ((f, _) :: pl)) σ H1 s' := I1.pins_of (pins' := pins ++ ((f, lObj (X.env.qual ++ "<lambda>") params body scope (cloFrom X.env.cells scope.names []) dV pm' (.ref c') ctv) :: pl)) fun p hp => by
      rcases List.mem_append.mp hp with hp | hp
      · exact I1.pin p (List.mem_append_right _ hp)
      · rcases List.mem_cons.mp hp with e | hp
        · rw [e]
          exact ⟨hf, hfn, hfL, hfF, fun v z => nomatch z⟩
        · exact hpl1 p hp
    refine thn (hrest.run pos _ s' σ H1 (fun vs' H' => vs' = vs ∧ H' = H1) J (by rw [htr]; exact ⟨rfl, rfl⟩)) fun us s2 ⟨vs', H2, I2, r2, e1, e2⟩ => ?_
    subst e1
    rw [e2] at I2
    have hf2 := (I2.pin (f, _) (List.mem_append_right _ (List.mem_append_right _ List.mem_cons_self))).1
    have hd2 : DflAt s2.heap H1 (X.env.locals :: X.fs) dV ds := hpl2 _ fun p hp => (I2.pin p (List.mem_append_right _ (List.mem_append_right _ (List.mem_cons_of_mem _ hp)))).1
    have I3 : Inv X pins σ H1 s2 := I2.unpinned
    refine ⟨I3.kIn, ?_⟩
    have rv : Vals (V.ref f :: vs') (Value.ref f :: us) := .cons rfl r2
    have hlen : (Value.ref f :: us).length = (a :: ps).length := by
      rw [← rv.length, List.length_cons, List.length_cons, hvl]
    have rc : codeAny (model X.prog X.w) X.A (.call (.ref g) ⟨.ref f :: us, []⟩) (CR L2.CX0 X.stack X.prog X.w H1 s2 Q fun _ _ _ => False) s2 := by
      refine run_ofS (N := Ng) (ps := a :: ps) (us := .ref f :: us) (vs := .ref f :: vs') lk hcg Sg hr I3.env0 (by have z := hb s2 (Value.ref f :: us) I3.kIn (by rw [List.append_nil]; exact hlen); rw [List.append_nil] at z; exact z) rv (by rw [List.length_cons, List.length_cons, hvl]) fun hr' => ?_
      obtain ⟨t', ht', hq'⟩ := hG f c' vs' s2 H1 Q (fun E H' Q' => t E σ H' Q') hr' (fun W pn xe p1 p2 tk => pe_act (i := 0) I3 L hf2 hfn (fun z => (List.mem_cons.mp z).elim hfL hfF) (hbind ds rd) hd2 tk hr' (fun A outer s H E hr2 => hbody A outer s H E f c' hr2) hNg hva hd hcd) hco (hmono σ) (h H1 eN T1)
      exact ⟨t', ht'.nox, hq'⟩
    refine wpAny_call (codeAny_mono rc fun r s3 hq => ?_)
    cases r with
    | error e => exact (show False from hq).elim
    | ok fl =>
      cases fl with
      | ret u => exact I3.after hq
      | next => exact False.elim hq
      | brk => exact False.elim hq
      | cont => exact False.elim hq
  refine Calls.spliced_cons ?_
  rw [PySem.arm_eval_Lambda]
  rcases hdef with ⟨rfl, hdef⟩ | ⟨n, j, dp, rfl, hdef⟩
  · rw [hdef]
    refine wpAny_bind (wpAny_pure (wpAny_bind (wpAny_holding (wpAny_pure ?_))))
    rw [PySem.makeFunction_eq]
    simp only [List.zip_nil_right, List.filterMap_nil, List.isEmpty_nil, if_true, pure_bind]
    exact go s .none [] I .nil rfl
  · rw [hdef]
    refine wpAny_bind (m := evalAll [eval (.Constant (.int n) j dp) X.env]) ?_
    unfold evalAll evalAll
    refine wpAny_bind (thn ((pe_int (X := X) (i := n) (j := j) (pos := dp)).run pins s σ H (fun v H' => v = .int n ∧ H' = H) I ⟨rfl, rfl⟩) fun u s1 ⟨v, H1, I1, r1, e1, e2⟩ => ?_)
    subst e1
    rw [e2] at I1
    refine wpAny_bind (wpAny_holding (wpAny_pure (wpAny_pure ?_)))
    refine wpAny_bind (wpAny_holding (wpAny_pure ?_))
    rw [PySem.makeFunction_eq]
    simp only [List.zip_nil_right, List.filterMap_nil, List.isEmpty_nil, List.isEmpty_cons, Bool.false_eq_true, if_true, if_false, pure_bind]
    refine wpAny_bind (wpAny_newTextTuple ?_)
    have sz : s1.heap.objs.size ≤ s1.heap.objs.size := Nat.le_refl _
    refine go _ (.ref s1.heap.objs.size) [u] (I1.kept (t' := s1.toks) fun b o e => Heap.get?_push_of_some _ e) (.cons r1 .nil) ⟨_, _, _, rfl, Heap.get?_push_size _ rfl, rfl, I1.hok.fresh sz, fun z => ?_⟩
    rcases List.mem_cons.mp z with z | z
    · exact Nat.lt_irrefl _ (show s1.heap.objs.size < s1.heap.objs.size by
        have q := I1.lt
        rw [← z] at q
        exact q)
    · exact I1.nofs sz z
end
end OB
/-! What a law draws from: a list of a list of ints, how many draws were made, what is left of a great one. -/
namespace OB
open PySem PySem.Spec PyProof.Rows L2
/-- the lot stands at p, its ints at b; at most n draws were made -/
def Orch (H : Hp) (p b : Addr) (n : Nat) : Prop := ∃ (ns : List Int) (t l : Int), H p = some (.lst [.ref b, .int t, .int l]) ∧ H b = some (.lst (ns.map V.int)) ∧ 0 ≤ t ∧ t ≤ n
theorem Orch.ne {H : Hp} {p b : Addr} {n : Nat} (o : Orch H p b n) : p ≠ b := by
  obtain ⟨ns, t, l, h1, h2, _⟩ := o
  refine ne_of h1 h2 fun z => ?_
  injection z with z
  cases ns with
  | nil => cases z
  | cons a r =>
    injection z with z _
    cases z
theorem Orch.keep {H H' : Hp} {p b : Addr} {n : Nat} (o : Orch H p b n) (hp : ∀ u, H p = some u → H' p = some u) (hb : ∀ u, H b = some u → H' b = some u) : Orch H' p b n := by
  obtain ⟨ns, t, l, h1, h2, h3⟩ := o
  exact ⟨ns, t, l, hp _ h1, hb _ h2, h3⟩
theorem Orch.same {H H' : Hp} {p b : Addr} {n : Nat} (o : Orch H p b n) (s : Same H H') : Orch H' p b n := o.keep (fun u => s p u) fun u => s b u
theorem Orch.mono {H : Hp} {p b : Addr} {n m : Nat} (o : Orch H p b n) (h : n ≤ m) : Orch H p b m := by
  obtain ⟨ns, t, l, h1, h2, h3, h4⟩ := o
  exact ⟨ns, t, l, h1, h2, h3, by omega⟩
theorem Orch.pn {H : Hp} {p b : Addr} {n : Nat} (o : Orch H p b n) : ∃ u, H p = some u := by
  obtain ⟨ns, t, l, h1, h2, h3, h4⟩ := o
  exact ⟨_, h1⟩
theorem Orch.bn {H : Hp} {p b : Addr} {n : Nat} (o : Orch H p b n) : ∃ u, H b = some u := by
  obtain ⟨ns, t, l, h1, h2, h3, h4⟩ := o
  exact ⟨_, h2⟩
/-- all that was tracked is as it was, but what stands at p -/
def But (p : Addr) (H H' : Hp) : Prop := ∀ q o, H q = some o → q ≠ p → H' q = some o
theorem But.refl {p : Addr} {H : Hp} : But p H H := fun _ _ h _ => h
theorem But.of {p : Addr} {H H' : Hp} (s : Same H H') : But p H H' := fun q o h _ => s q o h
theorem But.trans {p : Addr} {H H1 H2 : Hp} (a : But p H H1) (b : But p H1 H2) : But p H H2 := fun q o h n => b q o (a q o h n) n
theorem same_new {H : Hp} {l : Addr} {o : HO} (h : H l = none) : Same H (upd H l o) := fun b u e => by
  rw [upd_ne (ne_of_none e h)]
  exact e
theorem but_at {H : Hp} {p : Addr} {o : HO} : But p H (upd H p o) := fun q u e n => by
  rw [upd_ne n]
  exact e
/-- a draw from many: some number below many; the lot goes on -/
def spDraw : Sp := fun vs H Q _ => ∃ (p b : Addr) (n : Nat) (many : Int), vs = [.ref p, .int many] ∧ Orch H p b n ∧ n < 1000000 ∧ 0 < many ∧ many.natAbs < 2 ^ 9000 ∧
  ∀ (r : Int) (H' : Hp), 0 ≤ r → r < many → Orch H' p b (n + 1) → But p H H' → Q (.int r) H'
/-- the lot is made of a list of ints -/
def spLot (K : PySem.W.Frag) : Sp := fun vs H Q _ => ∃ (a : Addr) (ns : List Int), vs = [.ref a] ∧ SqL K H a (ns.map V.int) ∧ ns.length ≤ 63 ∧
  ∀ (p b : Addr) (H' : Hp), H p = none → H b = none → Orch H' p b 0 → Same H H' → Q (.ref p) H'
theorem mix1 {x t A B m : Int} (hm : 0 < m) (hm2 : m < 2 ^ 31) (ht : 0 ≤ t) (ht2 : t ≤ 1000000) (hA : 0 ≤ A) (hA2 : A ≤ 1000000) (hB : 0 ≤ B) (hB2 : B ≤ 1000000) : (x % m + A * t + B).natAbs < 2 ^ 64 := by
  have h1 := Int.emod_nonneg x (by omega : m ≠ 0)
  have h2 := Int.emod_lt_of_pos x hm
  have h3 : A * t ≤ 1000000 * 1000000 := Int.mul_le_mul hA2 ht2 ht (by decide)
  have h4 : 0 ≤ A * t := Int.mul_nonneg hA ht
  omega
theorem mix2 {x t A B C m : Int} (hm : 0 < m) (hm2 : m < 2 ^ 31) (ht : 0 ≤ t) (ht2 : t ≤ 1000000) (hA : 0 ≤ A) (hA2 : A ≤ 1000000) (hB : 0 ≤ B) (hB2 : B ≤ 1000000) (hC : 0 ≤ C) (hC2 : C ≤ 1000000) : (x % m * (2 * t + C) + A * t * t + B).natAbs < 2 ^ 64 := by
  have h1 := Int.emod_nonneg x (by omega : m ≠ 0)
  have h2 := Int.emod_lt_of_pos x hm
  have h3 : A * t ≤ 1000000 * 1000000 := Int.mul_le_mul hA2 ht2 ht (by decide)
  have h4 : 0 ≤ A * t := Int.mul_nonneg hA ht
  have h5 : A * t * t ≤ 1000000 * 1000000 * 1000000 := Int.mul_le_mul h3 ht2 ht (by decide)
  have h6 : 0 ≤ A * t * t := Int.mul_nonneg h4 ht
  have h7 : x % m * (2 * t + C) ≤ 2 ^ 31 * 3000000 := Int.mul_le_mul (by omega) (by omega) (by omega) (by decide)
  have h8 : 0 ≤ x % m * (2 * t + C) := Int.mul_nonneg h1 (by omega)
  omega
theorem mod_lim {x m : Int} (hm : 0 < m) (hm2 : m < 2 ^ 31) : -(2 ^ 64) < x % m ∧ x % m < 2 ^ 64 := by
  have h1 := Int.emod_nonneg x (by omega : m ≠ 0)
  have h2 := Int.emod_lt_of_pos x hm
  omega
theorem dp_ints {K : PySem.W.Frag} {H : Hp} : ∀ ns : List Int, DpAll K H (ns.map V.int) (ns.map PyData.int)
  | [] => .nil
  | n :: r => .cons (.int n) (dp_ints r)
theorem lay_ints : ∀ ns : List Int, PyData.canLayAll0 (ns.map PyData.int) = true
  | [] => by simp [PyData.canLayAll0]
  | n :: r => by simp [PyData.canLayAll0, PyData.canLay0, lay_ints r]
theorem deep_ints : ∀ ns : List Int, PyData.depthAll (ns.map PyData.int) ≤ 1
  | [] => by simp [PyData.depthAll]
  | n :: r => by
    have h := deep_ints r
    simp [PyData.depthAll, PyData.depth]
    omega
theorem shaped_ints (ns : List Int) : SeqAt.shaped (.list (ns.map PyData.int)) = true := by
  have h := deep_ints ns
  unfold SeqAt.shaped
  rw [Bool.and_eq_true]
  refine ⟨by simp [PyData.canLay0, lay_ints], decide_eq_true ?_⟩
  simp [PyData.depth]
  omega
theorem eqv_nil (ns : List Int) : PyData.eqv (.list (ns.map PyData.int)) (.list []) = decide (ns = []) := by
  cases ns with
  | nil => simp [PyData.eqv, PyData.eqvAll]
  | cons n r => simp [PyData.eqv, PyData.eqvAll]

/-! ### kinds of values: is it an integer -/
/-- x is of a kind of which isinstance(x, int) and not isinstance(x, bool) is b -/
def IsI (K : PySem.W.Frag) (H : Hp) (x : V) (b : Bool) : Prop := ∃ (n : String) (b1 b2 : Bool), TyX K H x (.type n) ∧ kitB n "int" = some b1 ∧ kitB n "bool" = some b2 ∧ b = (b1 && !b2)
section
variable {K : PySem.W.Frag} {H : Hp}
theorem isI_int (i : Int) : IsI K H (.int i) true := ⟨"int", true, false, .base (.int i), by decide +kernel, by decide +kernel, rfl⟩
theorem isI_non : IsI K H .non false := ⟨"NoneType", false, false, .base .non, by decide +kernel, by decide +kernel, rfl⟩
theorem isI_bl (b : Bool) : IsI K H (.bl b) false := ⟨"bool", true, true, .base (.bl b), by decide +kernel, by decide +kernel, rfl⟩
theorem isI_str (x : Str) : IsI K H (.str x) false := ⟨"str", false, false, .base (.str x), by decide +kernel, by decide +kernel, rfl⟩
theorem isI_lst {a : Addr} {xs : List V} (e : H a = some (.lst xs)) : IsI K H (.ref a) false := ⟨"list", false, false, .base (.lst e), by decide +kernel, by decide +kernel, rfl⟩
theorem isI_tup {a : Addr} {xs : List V} (e : H a = some (.tup xs)) : IsI K H (.ref a) false := ⟨"tuple", false, false, .base (.tup e), by decide +kernel, by decide +kernel, rfl⟩
theorem isI_dK {a : Addr} {kvs : List (Key × V)} (e : H a = some (.dK kvs)) : IsI K H (.ref a) false := ⟨"dict", false, false, .base (.dK e), by decide +kernel, by decide +kernel, rfl⟩
theorem isI_true {x : V} (h : IsI K H x true) : ∃ i, x = .int i := by
  obtain ⟨n, b1, b2, ty, e1, e2, e3⟩ := h
  have c1 : b1 = true := by
    cases b1
    · simp at e3
    · rfl
  have c2 : b2 = false := by
    cases b2
    · rfl
    · simp [c1] at e3
  subst c1 c2
  have no : ∀ {m : String}, kitB m "int" ≠ some true ∨ kitB m "bool" ≠ some false → n = m → False := fun h e => by
    subst e
    exact h.elim (fun z => z e1) fun z => z e2
  cases ty with
  | base h =>
    cases h with
    | int i => exact ⟨i, rfl⟩
    | non => exact (no (m := "NoneType") (.inl (by decide +kernel)) rfl).elim
    | bl b => exact (no (m := "bool") (.inr (by decide +kernel)) rfl).elim
    | str b => exact (no (m := "str") (.inl (by decide +kernel)) rfl).elim
    | flt b => exact (no (m := "float") (.inl (by decide +kernel)) rfl).elim
    | lst e => exact (no (m := "list") (.inl (by decide +kernel)) rfl).elim
    | frz e => exact (no (m := "list") (.inl (by decide +kernel)) rfl).elim
    | tup e => exact (no (m := "tuple") (.inl (by decide +kernel)) rfl).elim
    | dK e => exact (no (m := "dict") (.inl (by decide +kernel)) rfl).elim
    | dT e => exact (no (m := "dict") (.inl (by decide +kernel)) rfl).elim
  | byt b => exact (no (m := "bytes") (.inl (by decide +kernel)) rfl).elim
  | set e => exact (no (m := "set") (.inl (by decide +kernel)) rfl).elim
  | kList e c => exact (no (m := "list") (.inl (by decide +kernel)) rfl).elim
  | kTuple e c => exact (no (m := "tuple") (.inl (by decide +kernel)) rfl).elim
  | kDict e c => exact (no (m := "dict") (.inl (by decide +kernel)) rfl).elim
  | fTuple e => exact (no (m := "tuple") (.inl (by decide +kernel)) rfl).elim
  | fDict e => exact (no (m := "dict") (.inl (by decide +kernel)) rfl).elim
end
/-- a bound: an int or none -/
def oV : Option Int → V
  | none => .non
  | some i => .int i
def loOk (lo : Option Int) (i : Int) : Bool := match lo with
  | none => true
  | some l => decide (l ≤ i)
def hiOk (hi : Option Int) (i : Int) : Bool := match hi with
  | none => true
  | some h => decide (i ≤ h)
/-- an int within bounds -/
def inB (lo hi : Option Int) : V → Bool
  | .int i => loOk lo i && hiOk hi i
  | _ => false
def spIsInt (K : PySem.W.Frag) : Sp := fun vs H Q _ => ∃ (x : V) (b : Bool), vs = [x] ∧ IsI K H x b ∧ Q (.bl b) H
def spWithin (K : PySem.W.Frag) : Sp := fun vs H Q _ => ∃ (x : V) (lo hi : Option Int) (b : Bool), vs = [x, oV lo, oV hi] ∧ IsI K H x b ∧ Q (.bl (b && inB lo hi x)) H
/-- what raises the error at C, with its part, else returns None -/
def RaisesP (C : Addr) (part : Str) (E : XK) (H : Hp) : Prop := ∀ d, H d = none → E (.ref C) (some d) (upd H d (.xd [(("part" : Str), .str part)]))
def spNeedNumber (K : PySem.W.Frag) (C : Addr) : Sp := fun vs H Q E => ∃ (x : V) (part : Str) (lo hi : Option Int) (b : Bool), vs = [x, .str part, oV lo, oV hi] ∧ IsI K H x b ∧
  ((b && inB lo hi x) = true → Q .non H) ∧ ((b && inB lo hi x) = false → RaisesP C part E H)
def spNeedWord (K : PySem.W.Frag) (C : Addr) : Sp := fun vs H Q E => ∃ (x : V) (part : Str) (b : Bool), vs = [x, .str part] ∧ IsI K H x b ∧
  ((b && inB (some 0) none x) = true → Q .non H) ∧ ((b && inB (some 0) none x) = false → RaisesP C part E H)
/-- where nothing is raised the promise holds among calm ones -/
theorem calm_of {P : Program} {w : World} {K : PySem.W.Frag} {mg : Str → Option Value} {base : Heap} {k : Nat} {f : Addr} {fd : FuncData} {ps : List Str} {sp : Sp} (F : FnOk P w K mg base (L2.CX P w) k f fd ps sp) :
    FnOk P w K mg base CX0 k f fd ps (fun vs H Q _ => sp vs H Q fun _ _ _ => False) :=
  ⟨fun vs H Q E h => F.len vs H Q _ h, fun A outer s H args us vs Q E hr he hb hv hs => codeAny_mono (F.run A outer s H args us vs Q _ hr he hb hv hs) fun r s' hq => by
    cases r with
    | error e =>
      obtain ⟨_, _, _, _, _, _, _, _, _, _, _, _, z⟩ := hq
      exact z.elim
    | ok fl => cases fl <;> exact hq⟩
theorem iteB {b : Bool} {A B : Prop} (h1 : b = true → A) (h2 : b = false → B) : if b = true then A else B := by
  cases b with
  | true => exact iteT (h1 rfl)
  | false => exact iteF (h2 rfl)
end OB
/-! Own errors with one field, raised. -/
namespace OB
open PySem PySem.Spec PyProof.Rows L2
/-- a def of the text, as it stands behind the top -/
structure Df (K : PySem.W.Frag) (mg : Str → Option Value) (x : Str) (st : Stmt) (ps : List Str) (f : Addr) (fd : FuncData) : Prop where
  F : Fun K x x st f fd
  g : mg x = some (.ref f)
  b : Binds K fd ps []
/-- __init__(self, f): self.f = f of an own error -/
def spInit1 (K : PySem.W.Frag) (f : Str) : Sp := fun vs H Q _ => ∃ (a C : Addr) (v : V), vs = [.ref a, v] ∧ OexC K C ∧ PySem.W.findIn K (.ref C) f = some none ∧ H a = some (exo a C none) ∧
  ∀ dx, H dx = none → dx ≠ a → Q .non (upd (upd H dx (exd dx [(f, v)])) a (exo a C (some dx)))
section
variable {P : Program} {w : World} {K : PySem.W.Frag} {mg : Str → Option Value} {base : Heap}
theorem ok_init1 {qual : Str} {st : Stmt} {fI : Addr} {fd : FuncData} {f : Str} {p1 p2 p3 p4 : Pos} (F : Fun K "__init__" qual st fI fd) (S : FnScope ["self", f] ["self", f] (defScope st))
    (hb : defBody st = [.Assign [.Attribute (.Name "self" p1) f p2] (.Name f p3) p4])
    (hv : Vis (defScope st) f) (hs : Vis (defScope st) "self") (hd : (f == ("__debug__" : Str)) = false := by decide) (hcd : (f == ("__classdict__" : Str)) = false := by decide)
    (hsw : ∀ env : Env, swapsWith (.Name f p3) (some (.Attribute (.Name "self" p1) f p2)) p4.line env = pure false := by intro _; rfl) :
    FnOk P w K mg base CX0 1 fI fd ["self", f] (spInit1 K f) := by
  refine F.ok S (fun vs H Q E h => ?_) (fun cdv A outer s H vs Q E hr h => ?_)
  · obtain ⟨a, C, v, rfl, _⟩ := h
    rfl
  · obtain ⟨a, C, v, rfl, T, no, ha, k⟩ := h
    rw [hb]
    refine ⟨_, pss_one (ps_ost (pe_var (i := 0) rfl hs) (pe_var (i := 1) rfl hv hd hcd) (hsw _)), ?_⟩
    exact ⟨v, rfl, .ref a, rfl, a, C, rfl, T, no, .inl ⟨ha, fun dx n ne => k dx n ne⟩⟩
/-- an own error class with one field, as the top leaves it -/
structure Err (P : Program) (w : World) (K : PySem.W.Frag) (mg : Str → Option Value) (base : Heap) (x f : Str) (C fI : Addr) (fd : FuncData) : Prop where
  T : OexC K C
  iC : PySem.W.findIn K (.ref C) "__init__" = some (some (.ref fI))
  tI : PySem.W.typeIn K (.ref fI) = some (.type "function")
  F : FnOk P w K mg base CX0 1 fI fd ["self", f] (spInit1 K f)
  b : Binds K fd ["self", f] []
  g : mg x = some (.ref C)
  no : PySem.W.findIn K (.ref C) f = some none
theorem del_back {H : Hp} {a d : Addr} {o1 o2 o3 o4 : HO} (ha : H a = none) (n : d ≠ a) : upd (del (upd (upd (upd H a o1) d o2) a o3) a) d o4 = upd H d o4 := by
  funext b
  by_cases e : b = d
  · rw [e, upd_same, upd_same]
  · rw [upd_ne e, upd_ne e]
    by_cases e2 : b = a
    · rw [e2, del_same, ha]
    · rw [del_ne e2, upd_ne e2, upd_ne e, upd_ne e2]
end
/-- raise X(e) -/
def tRaise1 (K : PySem.W.Frag) (C : Addr) (f : Str) (W : WX) (te : TE) : TS := fun _ σ H => tMkO C (spInit1 K f) [] (tCons te tNil) σ H fun cls d H' => W cls d σ H'
theorem raise1_of {K : PySem.W.Frag} {C : Addr} {f : Str} {W : WX} {σ : L2.St} {H1 : Hp} {v : V} (T : OexC K C) (no : PySem.W.findIn K (.ref C) f = some none) (h : ∀ d, H1 d = none → W (.ref C) (some d) σ (upd H1 d (.xd [(f, v)]))) :
    tNil σ H1 fun xs H2 => (v :: xs).length ≤ 1000 ∧ ∀ a, H2 a = none → spInit1 K f (.ref a :: ((v :: xs) ++ [])) (upd H2 a (exo a C none))
      (fun u H3 => u = .non ∧ ∃ (d : Addr) (fs : List (Str × V)), H3 a = some (exo a C (some d)) ∧ H3 d = some (exd d fs) ∧ H2 d = none ∧ W (.ref C) (some d) σ (upd (del H3 a) d (.xd fs))) (fun _ _ _ => False) := by
  refine ⟨by show 1 ≤ 1000; decide, fun a ha => ⟨a, C, v, rfl, T, no, upd_same, fun dx nd ne => ?_⟩⟩
  rw [upd_ne ne] at nd
  refine ⟨rfl, dx, [(f, v)], upd_same, ?_, nd, ?_⟩
  · rw [upd_ne ne, upd_same]
  · rw [del_back ha ne]
    exact h dx nd
theorem ps_raise1 {X : Cx} {W : WX} {x f : Str} {C fI : Addr} {fd : FuncData} {e : Expr} {te : TE} {p p2 pos : Pos} (hc : X.calm = true) (tk : Takes X W) (R : Err X.prog X.w X.K X.mg X.base x f C fI fd) (hr : Room 2 X.A) (hg : Gl X x) (he : PE X e te)
    (hx : Passes CX0 X (fun _ _ _ => False) := by exact pass0) (hs : starEach [e] X.env = [(false, eval e X.env)] := by rfl) (hdb : (x == ("__debug__" : Str)) = false := by decide) :
    PS X (.Raise (some (.Call (.Name x p) [e] [] p2)) none pos) (tRaise1 X.K C f W te) :=
  ps_raise (pos := pos) hc tk (pmk_oex (p := p) (pos := p2) R.T R.iC R.tI R.F hr R.b .nil hx hg R.g (pa_cons he pa_nil hs) hdb hs)
section
variable {X : Cx}
/-- 1 << k -/
theorem op_oneN : OpR X (binaryOp .LShift) (fun x y H Q => ∃ k : Nat, x = .int 1 ∧ y = .int (k : Int) ∧ k ≤ 1000000 ∧ Q (.int ((2 ^ k : Nat) : Int)) H) := by
  intro pins s σ H x y v u Q I rx ry h
  obtain ⟨k, rfl, rfl, c, q⟩ := h
  refine op_shl pins s σ H _ _ v u Q I rx ry ⟨_, _, rfl, rfl, ⟨Int.natCast_nonneg _, by omega, by decide⟩, ?_⟩
  have e : (1 : Int) * 2 ^ ((k : Int)).toNat = ((2 ^ k : Nat) : Int) := by
    rw [Int.one_mul, Int.toNat_natCast, Int.natCast_pow]
    rfl
  show Q (.int ((1 : Int) * 2 ^ ((k : Int)).toNat)) H
  rw [e]
  exact q
end
theorem pow_lt9 {i : Nat} (h : i ≤ 8000) : ((2 ^ i : Nat) : Int).natAbs < 2 ^ 9000 := by
  rw [Int.natAbs_natCast]
  exact Nat.pow_lt_pow_right (by decide) (by omega)
section
variable {X : Cx} {CX : CXT} {k : Nat} {f : Addr} {fd : FuncData} {ps ks : List Str} {sp : Sp} {E : XK} {x : Str} {p pos : Pos} {kws : List Keyword} {tk : TA} {g : List Value → List Value → List Value} {gV : List V → List V → List V}
/-- f(k = v, ..): keywords alone -/
theorem pe_callKo (F : FnOk X.prog X.w X.K X.mg X.base CX k f fd ps sp) (hr : Room k X.A) (hg : Gl X x) (hm : X.mg x = some (.ref f)) (hk : PySem.W.keepIn X.K (.ref f) = true) (hb : KBinds X.K fd ps ks g gV) (hx : Passes CX X E)
    (hkw : PK X kws tk) (hall : (backToKw pos (keywordEach kws X.env)).all (·.1.isSome) = true := by rfl) (hks : (backToKw pos (keywordEach kws X.env)).filterMap (·.1) = ks := by rfl)
    (hdb : (x == ("__debug__" : Str)) = false := by decide)
    (hpl : ((backTo pos (starEach [] X.env)).any (·.1) || (backToKw pos (keywordEach kws X.env)).any (·.1.isNone)) = false := by rfl) :
    PE X (.Call (.Name x p) [] kws pos) (tCallK sp gV E tNil tk) := by
  refine ⟨fun pins s σ H Q I h => ?_⟩
  refine wpAny_Call_Name_kw (ld_glob I hg hm ?_ hdb)
  refine PySem.W.callWith_KW0 (h₀ := X.base) I.ok.mod.kin hk hall ?_ hpl
  refine thn (hkw.run pos pins s σ H _ I h) fun ws s2 ⟨zs, H2, I2, rz, q2⟩ => ⟨I2.kIn, ?_⟩
  rw [hks]
  exact run_fnk (us := []) F hr hb hx I2 .nil rz q2
end
/-- how the keywords of a def without defaults bind -/
theorem kbinds {K : PySem.W.Frag} {x qual : Str} {st : Stmt} {f : Addr} {fd : FuncData} {ps ks : List Str} {g : List Value → List Value → List Value} {gV : List V → List V → List V} (F : Fun K x qual st f fd)
    (h : ∀ (kV doc pm : Value) (an : Option Addr) (cdv ct : Value) (us ws : List Value), (g us ws).length = ps.length → bindArgs (PySem.W.fnOf x qual (defArgs st) (defBody st) (defScope st) .none kV doc pm an cdv ct) ⟨us, ks.zip ws⟩ = pure (ps.zip (g us ws)))
    (r : ∀ {vs : List V} {us : List Value} {zs : List V} {ws : List Value}, Vals vs us → Vals zs ws → Vals (gV vs zs) (g us ws)) : KBinds K fd ps ks g gV := by
  obtain ⟨oc, od, kV, doc, pm, an, cdv, ct, osl, rfl, lk, hcd⟩ := F.ex
  exact ⟨fun s us ws _ hl => .of_eq (h kV doc pm an cdv ct us ws hl), r⟩
theorem inB_nat (m : Nat) : inB (some 0) none (.int (m : Int)) = true := by
  show (decide ((0 : Int) ≤ (m : Int)) && true) = true
  rw [decide_eq_true (Int.natCast_nonneg m)]
  rfl
/-- isinstance asks by the table of classes -/
theorem kit_sub {K : PySem.W.Frag} {t : Value} {C : Addr} {b : Bool} (h1 : PySem.W.isClsIn K C = true) (h2 : PySem.W.typeIn K (.ref C) = some (.type "type")) (self : PySem.W.subIn K (.ref C) (.ref C) = some true) (h : PySem.W.subIn K t (.ref C) = some b) :
    PySem.W.kitOne K t (.ref C) = some b := by
  unfold PySem.W.kitOne
  by_cases e : (t == Value.ref C) = true
  · rw [if_pos e]
    have e2 : t = Value.ref C := beq_iff_eq.mp e
    subst e2
    rw [self] at h
    exact h
  · rw [if_neg e]
    have h1' : (PySem.W.clsIn K C).isSome = true := h1
    show (if ((PySem.W.clsIn K C).isSome && PySem.W.typeIn K (.ref C) == some (.type "type")) = true then PySem.W.subIn K t (.ref C) else none) = some b
    rw [h1', h2]
    exact h
end OB
/-! len(set(x)) of a list or a tuple of ints, doubles among them. -/
namespace OB
open PySem PySem.Spec PyProof.Rows L2
theorem sub_len {α : Type} [DecidableEq α] : ∀ {l1 l2 : List α}, l1.Nodup → (∀ x ∈ l1, x ∈ l2) → l1.length ≤ l2.length
  | [], l2, _, _ => Nat.zero_le _
  | a :: r, l2, h, s => by
    have h2 := List.nodup_cons.mp h
    have ha : a ∈ l2 := s a List.mem_cons_self
    have ih := sub_len (l1 := r) (l2 := l2.erase a) h2.2 fun x hx => by
      have ne : x ≠ a := fun z => h2.1 (z ▸ hx)
      exact (List.mem_erase_of_ne ne).mpr (s x (List.mem_cons_of_mem _ hx))
    rw [List.length_erase_of_mem ha] at ih
    have pos : 0 < l2.length := List.length_pos_of_mem ha
    rw [List.length_cons]
    omega
theorem nodup_of_sub {α : Type} [DecidableEq α] : ∀ {l1 l2 : List α}, l1.Nodup → (∀ x ∈ l1, x ∈ l2) → l2.length ≤ l1.length → l2.Nodup
  | [], l2, _, _, hl => by
    have e : l2 = [] := List.length_eq_zero_iff.mp (Nat.le_zero.mp hl)
    rw [e]
    exact List.nodup_nil
  | a :: r, l2, h, s, hl => by
    have h2 := List.nodup_cons.mp h
    have ha : a ∈ l2 := s a List.mem_cons_self
    have hs : ∀ x ∈ r, x ∈ l2.erase a := fun x hx => by
      have ne : x ≠ a := fun z => h2.1 (z ▸ hx)
      exact (List.mem_erase_of_ne ne).mpr (s x (List.mem_cons_of_mem _ hx))
    have le := List.length_erase_of_mem ha
    have pos : 0 < l2.length := List.length_pos_of_mem ha
    rw [List.length_cons] at hl
    have ih := nodup_of_sub (l1 := r) (l2 := l2.erase a) h2.2 hs (by omega)
    have na : a ∉ l2.erase a := fun z => by
      have q := sub_len (l1 := a :: r) (l2 := l2.erase a) h fun x hx => by
        rcases List.mem_cons.mp hx with e | e
        · rw [e]
          exact z
        · exact hs x e
      rw [List.length_cons] at q
      omega
    exact ((List.perm_cons_erase ha).nodup_iff).mpr (List.nodup_cons.mpr ⟨na, ih⟩)
theorem same_len {α : Type} [DecidableEq α] {l1 l2 : List α} (h : l1.Nodup) (s : ∀ x, x ∈ l1 ↔ x ∈ l2) : l1.length ≤ l2.length ∧ (l1.length = l2.length ↔ l2.Nodup) := by
  have a := sub_len h fun x hx => (s x).mp hx
  refine ⟨a, fun e => nodup_of_sub h (fun x hx => (s x).mp hx) (by omega), fun e => ?_⟩
  have b := sub_len e fun x hx => (s x).mpr hx
  omega
theorem fm_nodup (val : Nat → Int) : ∀ i, (PyProof.Rows.firstMet val i).Nodup
  | 0 => List.nodup_nil
  | i + 1 => by
    rw [PyProof.Rows.firstMet_succ]
    have ih := fm_nodup val i
    show (if (PyProof.Rows.firstMet val i).any (· == val i) then PyProof.Rows.firstMet val i else PyProof.Rows.firstMet val i ++ [val i]).Nodup
    split
    · exact ih
    · rename_i h
      refine List.nodup_append.mpr ⟨ih, List.nodup_cons.mpr ⟨List.not_mem_nil, List.nodup_nil⟩, fun x hx y hy e => h ?_⟩
      rw [List.mem_singleton] at hy
      subst hy
      exact List.any_eq_true.mpr ⟨x, hx, by rw [e]; exact beq_self_eq_true _⟩
theorem fm_mem (ns : List Int) (x : Int) : x ∈ PyProof.Rows.firstMet (fun i => ns.getD i 0) ns.length ↔ x ∈ ns := by
  have e := PyProof.Rows.firstMet_any (fun i => ns.getD i 0) ns.length x
  have e2 : (List.range ns.length).map (fun i => ns.getD i 0) = ns := by
    apply List.ext_getElem
    · simp
    · intro i h1 h2
      simp [List.getD_eq_getElem?_getD, h2]
  rw [e2] at e
  have m : ∀ l : List Int, (l.any (· == x)) = true ↔ x ∈ l := fun l => by
    rw [List.any_eq_true]
    exact ⟨fun ⟨y, hy, ey⟩ => (eq_of_beq ey) ▸ hy, fun h => ⟨x, h, beq_self_eq_true _⟩⟩
  rw [← m, ← m, e]
/-- how many unlike ints -/
def tLenSet (K : PySem.W.Frag) (ta : TE) : TE := fun σ H Q => ta σ H fun x H1 => ∃ (p : Addr) (ns : List Int), x = .ref p ∧ (SqL K H1 p (ns.map V.int) ∨ SqT K H1 p (ns.map V.int)) ∧ ns.length ≤ 1100 ∧
  ∀ c : Nat, c ≤ ns.length → (c = ns.length ↔ ns.Nodup) → Q (.int (c : Nat)) H1
theorem pe_lenSet2 {X : Cx} {a : Expr} {ta : TE} {p p2 q pos : Pos} (hg : Gl X "len") (hm : X.mg "len" = none) (hg2 : Gl X "set") (hm2 : X.mg "set" = none) (ha : PE X a ta) (hc : X.calm = true := by rfl)
    (na : starEach [a] X.env = (false, eval a X.env) :: starEach [] X.env := by rfl) : PE X (.Call (.Name "len" p) [.Call (.Name "set" p2) [a] [] q] [] pos) (tLenSet X.K ta) := by
  refine ⟨fun pins s σ H Q I h => ?_⟩
  refine Call_ (ld_blt I hg hm boot_len ?_)
  refine PyProof.Rows.callWith_builtin1 (PyProof.Rows.args_cons ?_ rfl) rfl rfl
  refine Call_ (ld_blt I hg2 hm2 boot_set ?_)
  refine PyProof.Rows.callWith_type1 (PyProof.Rows.args_cons (thn (ha.run pins s σ H _ I h) fun v s1 ⟨x, H1, I1, r1, q1⟩ => PyProof.Rows.args_nil ?_) na) na rfl
  obtain ⟨l, ns, rfl, hq, hl, q1⟩ := q1
  cases r1
  rcases hq with hq | hq
  · obtain ⟨its, r, pl, hz⟩ := I1.list hq
    have hlen : its.toArray.size = ns.length := by rw [List.size_toArray, ← r.length, List.length_map]
    refine PySem.call_set_list (I1.ok.hd hc) pl.isList (ns := ns) (by simpa using RZ.intsAre_vals r) (by rw [hlen]; unfold scanBound; omega) fun h' tk hS hk => ?_
    refine PyProof.Rows.args_nil ?_
    rw [hlen] at hS
    have sl := same_len (fm_nodup (fun i => ns.getD i 0) ns.length) (fm_mem ns)
    obtain ⟨o, es, ep, t, ho, hex, hd, _, _, _, hf, hn⟩ := hS
    have I2 : Inv X pins σ H1 { s1 with heap := h', toks := tk } := I1.kept fun b o e => hk b o (Heap.lt_size e) e
    have q2 := q1 es.size (by rw [hn]; exact sl.1) (by rw [hn]; exact sl.2)
    exact call_len_set ho hex hd hf (by have := sl.1; omega) ⟨.int es.size, H1, I2.tok _, ⟨_, rfl⟩, q2⟩
  · obtain ⟨its, r, pt, hz⟩ := I1.tuple hq
    have hi : IntsAre its.toArray.toList ns := ints_of_vals r
    refine call_set_tupI ns (I1.ok.hd hc) (show s1.heap.IsTuple l its.toArray from pt) hi (by unfold scanBound; omega) fun h' tk c R1 hcn k => ?_
    refine PyProof.Rows.args_nil ?_
    obtain ⟨o, es, ep, t, ho, hex, hd, hgood, hnd, hmem, _, hf, hn, _⟩ := R1
    have I2 : Inv X pins σ H1 { s1 with heap := h', toks := tk } := I1.kept fun b o e => k b o e
    have sl := same_len (l2 := ns) hnd fun x => (by
      have z := (hmem x).symm
      simpa using z)
    rw [List.length_map, Array.length_toList] at sl
    have q2 := q1 es.size sl.1 sl.2
    exact call_len_set ho hex hd hf (by have := sl.1; omega) ⟨.int es.size, H1, I2.tok _, ⟨_, rfl⟩, q2⟩
end OB
set_option maxHeartbeats 4000000
/-! sorted(x) of a list or a tuple of ints. -/
namespace OB
open PySem PySem.Spec PyProof.Rows L2 SrtO
section
variable {prog : Program} {w : World} {A : Around} {E : Value → Shared → Prop} {s : Shared}
theorem collect_tup {l : Addr} {vs : List Value} {Q : List Value → Shared → Prop} (ht : IsTup s.heap l vs.toArray)
    (h : Q vs { s with heap := (s.heap.push (seqObj "list" #[] 0)).update s.heap.objs.size (Obj.mapSeq (· ++ vs.toArray)) }) (hz : vs.length ≤ sizeLine) :
    wpAny (model prog w) A (collect (.ref l)) Q E s := by
  obtain ⟨o, ho, hc, n, hd⟩ := id ht
  unfold collect
  refine wpAny_bind (wpAny_runValue (codeAny_builtin entry_proto_collect' ?_))
  show wpAny _ _ (do again (.builtin "list.__iadd__" ⟨[← newList [], .ref l], []⟩)) _ _ s
  refine wpAny_bind (wpAny_newList (wpAny_pure ⟨Code.quiet_builtin _ (by decide +kernel), codeAny_builtin entry_list_iadd' ?_⟩))
  show wpAny _ _ (Builtin.List.listExtendWith (.ref s.heap.objs.size) (.ref l) (.ref s.heap.objs.size)) _ _ { s with heap := s.heap.push (seqObj "list" #[] 0) }
  unfold Builtin.List.listExtendWith
  have o1 : (s.heap.push (seqObj "list" #[] 0)).get? l = some o := Heap.get?_push_of_some _ ho
  refine wpAny_bind (wpAny_typeOf (T := "tuple") ⟨o, o1, hc⟩ ?_)
  rw [if_pos (show (Builtin.List.listSameRef (Value.ref s.heap.objs.size) (Value.ref l) || Value.type "tuple" == Value.type "list" || Value.type "tuple" == Value.type "tuple") = true by
    rw [show (Value.type "tuple" == Value.type "tuple") = true from rfl, Bool.or_true])]
  refine wpAny_bind (listItems_at o1 hd (wpAny_bind (listItems_at (xs := #[]) (n := 0) (Heap.get?_push_size _ rfl) rfl ?_)))
  have room : ((#[] : Array Value) ++ vs.toArray).size ≤ sizeLine + 1 := by
    rw [Array.size_append, List.size_toArray, List.size_toArray, List.length_nil]
    omega
  rw [if_neg (show ¬ (!(#[] : Array Value).isEmpty && Builtin.List.listTooLong ((#[] : Array Value).size + vs.toArray.size)) = true from fun z => by
    have z : (false && _) = true := z
    rw [Bool.false_and] at z
    cases z)]
  refine wpAny_bind (listUpdate_at (xs := #[]) (n := 0) (Heap.get?_push_size _ rfl) rfl (wpAny_pure ?_) (Nat.zero_le _) room)
  refine wpAny_bind (wpAny_load (get?_update_seq (Heap.get?_push_size _ rfl) _) (wpAny_pure ?_))
  have e : ((#[] : Array Value) ++ vs.toArray).toList = vs := by simp
  rw [e]
  exact h
theorem sorted_tup {l : Addr} {vs : List Value} {ltv : Value → Value → Bool} {Q : Value → Shared → Prop} (O : Swo ltv) (ht : IsTup s.heap l vs.toArray) (hz : vs.length ≤ sizeLine)
    (hS : 2 ≤ vs.length → ∀ (h₁ : Heap) (a : Addr), h₁.get? a = some (seqObj "list" vs.toArray 0) → (∀ b o, s.heap.get? b = some o → b ≠ a ∧ h₁.get? b = some o) → SortableO prog w A.in1.in1 { s with heap := h₁ } a vs ltv)
    (h : ∀ out : List Value, Srtd ltv out → Stb ltv out vs → Q (.ref (s.heap.objs.size + 1)) { s with heap := sortedAll s.heap vs out.toArray }) :
    wpAny (model prog w) A (call (.builtin "sorted") [.ref l]) Q E s := by
  generalize hg : (s.heap.push (seqObj "list" #[] 0)).update s.heap.objs.size (Obj.mapSeq (· ++ vs.toArray)) = g
  have size : g.objs.size = s.heap.objs.size + 1 := by
    rw [← hg, Heap.size_update, Heap.size_push]
  have old : ∀ b o, s.heap.get? b = some o → g.get? b = some o := fun b o q => by
    rw [← hg, Heap.get?_update_ne _ _ _ _ (Nat.ne_of_lt (Heap.lt_size q))]
    exact Heap.get?_push_of_some _ q
  have new : (g.push (seqObj "list" vs.toArray 0)).get? (s.heap.objs.size + 1) = some (seqObj "list" vs.toArray 0) := by
    rw [← size]
    exact Heap.get?_push_size _ rfl
  refine Calls.call_function_entry kind_sorted plain_sorted entry_sorted (args_sorted1 _) ?_
  unfold Builtin.«sorted»
  refine wpAny_bind (m := checkCount "sorted" 1 1 _) (wpAny_pure (wpAny_bind (collect_tup ht ?_ hz)))
  rw [hg]
  refine wpAny_bind (wpAny_newList ?_ hz)
  show wpAny _ _ _ _ _ { s with heap := g.push (seqObj "list" vs.toArray 0) }
  rw [size]
  refine wpAny_bind (wpAny_holding (wpAny_call_entry slot_list_sort ⟨_, new, rfl⟩ entry_list_sort (list_sort_ord O new hz (fun h2 => hS h2 _ _ new fun b o q => ?_) fun out hs hb => ⟨_, rfl, wpAny_pure ⟨_, rfl, ?_⟩⟩) (args_list_sort _)))
  · exact ⟨Nat.ne_of_lt (Nat.lt_succ_of_lt (Heap.lt_size q)), Heap.get?_push_of_some _ (old b o q)⟩
  · rw [← hg]
    exact h out hs hb
end
section
variable {X : Cx}
def rSortedA (K : PySem.W.Frag) : List V → Hp → VK → Prop := fun vs H Q => ∃ (a : Addr) (ns : List Int), vs = [V.ref a] ∧ (SqL K H a (ns.map V.int) ∨ SqT K H a (ns.map V.int)) ∧
  ∀ (ns' : List Int) (p : Addr), ns'.Perm ns → ns'.Pairwise (· ≤ ·) → H p = none → Q (.ref p) (upd H p (.lst (ns'.map V.int)))
theorem cr_sortedA : CallR X (.builtin "sorted") (rSortedA X.K) := by
  intro pins s σ H vs us Q I r h
  obtain ⟨a, ns, rfl, hs, q⟩ := h
  rcases hs with hs | ht
  · exact cr_sortedI pins s σ H _ us Q I r ⟨a, ns, rfl, hs, q⟩
  · obtain ⟨its, rv, hl, hz⟩ := I.tuple ht
    rw [Vals.ref1 r]
    have hi := rv.ints
    refine sorted_tup swo_int hl (by rw [← rv.length]; exact hz) (fun h2 h₁ a' _ _ => ints_sortable hi h2) fun out h1 h2 => ?_
    obtain ⟨k1, k2, k3⟩ := ints_out hi h1 h2
    obtain ⟨ep, at'⟩ := PyProof.Rows.sortedAll_at s.heap its out.toArray
    have hlen : ((out.map iv).map V.int).length ≤ sizeLine := by
      rw [List.length_map] at hz ⊢
      rw [k2.length_eq]
      exact hz
    exact ⟨.ref _, upd H (s.heap.objs.size + 1) (.lst ((out.map iv).map V.int)), I.laid (t' := s.toks) (fun _ _ => PyProof.Rows.sortedAll_old) (Nat.le_succ _) ⟨hlen, out, ep, vals_of_ints k1, at'⟩, rfl, q _ _ k2 k3 (I.hok.fresh (Nat.le_succ _))⟩
end
end OB
/-! A list or a tuple: gone through, asked for its kind. -/
namespace OB
open PySem PySem.Spec PyProof.Rows L2
theorem sqL_same {K : PySem.W.Frag} {H H' : Hp} {a : Addr} {xs : List V} (h : SqL K H a xs) (s : Same H H') : SqL K H' a xs := by
  rcases h with (h | ⟨o, h⟩) | h
  · exact .inl (.inl (s _ _ h))
  · exact .inl (.inr ⟨o, s _ _ h⟩)
  · exact .inr h
theorem sqT_same {K : PySem.W.Frag} {H H' : Hp} {a : Addr} {xs : List V} (h : SqT K H a xs) (s : Same H H') : SqT K H' a xs := by
  rcases h with (h | ⟨o, h⟩) | h
  · exact .inl (.inl (s _ _ h))
  · exact .inl (.inr ⟨o, s _ _ h⟩)
  · exact .inr h
def iSeqA (K : PySem.W.Frag) (te : TE) : TI := fun σ H R => te σ H fun x H1 => ∃ a, x = .ref a ∧ (((∃ xs, SqL K H1 a xs) ∧ R (Itl K a) H1) ∨ ((∃ xs, SqT K H1 a xs) ∧ R (Itt K a) H1))
theorem pi_seqA {X : Cx} {tg e : Expr} {te : TE} (he : PE X e te) : PI X tg e (iSeqA X.K te) := by
  refine ⟨fun pins s σ H R I h => thn (he.run pins s σ H _ I h) fun v s1 ⟨x, H1, I1, r1, a, ex, q⟩ => ?_⟩
  subst ex
  cases r1
  rcases q with ⟨⟨xs, hq⟩, q⟩ | ⟨⟨xs, hq⟩, q⟩
  · obtain ⟨its, rv, p, hz⟩ := I1.list hq
    exact wpAny_pyIter_list p.isList (pi_one (tk := s1.toks) I1 _ (turn_list a _) ⟨_, Heap.get?_push_size _ rfl, rfl, rfl⟩ q)
  · obtain ⟨its, rv, p, hz⟩ := I1.tuple hq
    exact wpAny_pyIter_tuple (show s1.heap.IsTuple a its.toArray from p) (pi_one (tk := s1.toks) I1 _ (turn_tuple a _) ⟨_, Heap.get?_push_size _ rfl, rfl, rfl⟩ q)
/-- a row over it, a list or a tuple: Pv by the new list, the turn and the heap -/
theorem lc_seqA {K : PySem.W.Frag} {a : Addr} {xs : List V} {g : TG} {tt : TT} {te : TE} {vs : List Nat} {σ : L2.St} {H1 : Hp} {Qd : Addr → Hp → Prop} (h : SqL K H1 a xs ∨ SqT K H1 a xs) (Pv : Addr → Nat → Hp → Prop)
    (h0 : ∀ D, H1 D = none → Pv D 0 (upd H1 D (.lst []))) (keep : ∀ D i H, H1 D = none → i ≤ xs.length → Pv D i H → Same H1 H)
    (hs : ∀ D i x H, H1 D = none → xs[i]? = some x → Pv D i H → g x (wipe σ vs) H fun σ2 H2 => wipe σ2 vs = wipe σ vs ∧ tt σ2 H2 fun b H3 =>
      if b = true then te σ2 H3 fun y H4 => ∃ acc, H4 D = some (.lst acc) ∧ acc.length < sizeLine ∧ Pv D (i + 1) (upd H4 D (.lst (acc ++ [y]))) else Pv D (i + 1) H3) (hd : ∀ D H, H1 D = none → Pv D xs.length H → Qd D H) :
    ((∃ ys, SqL K H1 a ys) ∧ ∀ D, H1 D = none → ∃ W : Nat → Nat → Hp → Prop, (∃ m, W 0 m (upd H1 D (.lst []))) ∧ ∀ i m H, W i m H →
      ((Itl K a).stop i H ∧ Qd D H) ∨ ((Itl K a).go i H ∧ ∃ Nx : Hp → Prop, (∀ H', Nx H' → ∃ m', m' < m ∧ W (i + 1) m' H') ∧ ∀ x H', (Itl K a).yld i H x H' → g x (wipe σ vs) H' fun σ2 H2 => wipe σ2 vs = wipe σ vs ∧ tt σ2 H2 fun b H3 =>
        if b = true then te σ2 H3 fun y H4 => ∃ acc, H4 D = some (.lst acc) ∧ acc.length < sizeLine ∧ Nx (upd H4 D (.lst (acc ++ [y]))) else Nx H3)) ∨
    ((∃ ys, SqT K H1 a ys) ∧ ∀ D, H1 D = none → ∃ W : Nat → Nat → Hp → Prop, (∃ m, W 0 m (upd H1 D (.lst []))) ∧ ∀ i m H, W i m H →
      ((Itt K a).stop i H ∧ Qd D H) ∨ ((Itt K a).go i H ∧ ∃ Nx : Hp → Prop, (∀ H', Nx H' → ∃ m', m' < m ∧ W (i + 1) m' H') ∧ ∀ x H', (Itt K a).yld i H x H' → g x (wipe σ vs) H' fun σ2 H2 => wipe σ2 vs = wipe σ vs ∧ tt σ2 H2 fun b H3 =>
        if b = true then te σ2 H3 fun y H4 => ∃ acc, H4 D = some (.lst acc) ∧ acc.length < sizeLine ∧ Nx (upd H4 D (.lst (acc ++ [y]))) else Nx H3)) := by
  rcases h with h | h
  · exact .inl ⟨⟨xs, h⟩, fun D hD => lc_list (Pv D) (h0 D hD) (fun i H hi p => sqL_same h (keep D i H hD hi p)) (fun i x H hx p => hs D i x H hD hx p) fun H p => hd D H hD p⟩
  · exact .inr ⟨⟨xs, h⟩, fun D hD => lc_tup (Pv D) (h0 D hD) (fun i H hi p => sqT_same h (keep D i H hD hi p)) (fun i x H hx p => hs D i x H hD hx p) fun H p => hd D H hD p⟩
/-- whether a value is a list or a tuple -/
def IsL (K : PySem.W.Frag) (H : Hp) (x : V) (b : Bool) : Prop := ∃ (n : String) (b1 b2 : Bool), TyX K H x (.type n) ∧ kitB n "list" = some b1 ∧ kitB n "tuple" = some b2 ∧ b = (b1 || b2)
theorem isL_any {K : PySem.W.Frag} {H : Hp} {x : V} {b : Bool} (h : IsL K H x b) : ∃ t, TyX K H x t ∧ PySem.W.kitAny K t [.type "list", .type "tuple"] = some b := by
  obtain ⟨n, b1, b2, ty, e1, e2, rfl⟩ := h
  refine ⟨_, ty, kitAny_cons (kit_ty e1) (fun z => kitAny_cons (kit_ty e2) (fun z2 => ?_) fun z2 => ?_) fun z => ?_⟩
  · rw [z, z2]
    exact kitAny_nil
  · rw [z, z2]
    rfl
  · rw [z]
    rfl
section
variable {K : PySem.W.Frag} {H : Hp}
theorem isL_int (i : Int) : IsL K H (.int i) false := ⟨"int", false, false, .base (.int i), by decide +kernel, by decide +kernel, rfl⟩
theorem isL_non : IsL K H .non false := ⟨"NoneType", false, false, .base .non, by decide +kernel, by decide +kernel, rfl⟩
theorem isL_bl (b : Bool) : IsL K H (.bl b) false := ⟨"bool", false, false, .base (.bl b), by decide +kernel, by decide +kernel, rfl⟩
theorem isL_str (x : Str) : IsL K H (.str x) false := ⟨"str", false, false, .base (.str x), by decide +kernel, by decide +kernel, rfl⟩
theorem isL_dK {a : Addr} {kvs : List (Key × V)} (e : H a = some (.dK kvs)) : IsL K H (.ref a) false := ⟨"dict", false, false, .base (.dK e), by decide +kernel, by decide +kernel, rfl⟩
theorem isL_lst {a : Addr} {xs : List V} (e : H a = some (.lst xs)) : IsL K H (.ref a) true := ⟨"list", true, false, .base (.lst e), by decide +kernel, by decide +kernel, rfl⟩
theorem isL_tup {a : Addr} {xs : List V} (e : H a = some (.tup xs)) : IsL K H (.ref a) true := ⟨"tuple", false, true, .base (.tup e), by decide +kernel, by decide +kernel, rfl⟩
end
end OB
/-! Promises of defs where it is known that no repr is under way: there repr of a list or a tuple is its text. -/
namespace OB
open PySem PySem.Spec PyProof.Rows L2 LamX
/-- what FnOk promises, asked only where no repr is under way -/
structure FnG (P : Program) (w : World) (K : PySem.W.Frag) (mg : Str → Option Value) (base : Heap) (CX : CXT) (k : Nat) (f : Addr) (fd : FuncData) (ps : List Str) (sp : Sp) : Prop where
  len : ∀ vs H Q E, sp vs H Q E → vs.length = ps.length
  run : ∀ (A : Around) (outer : List Env) (s : Shared) (H : Hp) (args : Args) (us : List Value) (vs : List V) (Q : VK) (E : XK), A.guards = some [] → Room k A → Env0 P w K mg base A outer s H → BindsTo s fd args (ps.zip us) → Vals vs us → sp vs H Q E →
    codeAny (model P w) A (.call (.ref f) args) (CR CX outer P w H s Q E) s
section
variable {P : Program} {w : World} {K : PySem.W.Frag} {mg : Str → Option Value} {base : Heap} {CX : CXT} {k : Nat} {f : Addr} {fd : FuncData} {ps : List Str} {sp : Sp}
theorem FnG.of (F : FnOk P w K mg base CX k f fd ps sp) : FnG P w K mg base CX k f fd ps sp := ⟨F.len, fun A outer s H args us vs Q E _ => F.run A outer s H args us vs Q E⟩
theorem fnG_of {name qual : Str} {params : Arguments} {body : List Stmt} {scope : Scope} {dV kV doc pm cdv ct oc : Value} {an od : Option Addr} {osl : Array (Option Value)} {N : List Str}
    (lk : K.lookup f = some ⟨oc, od, .func (PySem.W.fnOf name qual params body scope dV kV doc pm an cdv ct), osl⟩) (hcd : PySem.W.codeIn K cdv qual = true) (S : FnScope N ps scope) (len : ∀ vs H Q E, sp vs H Q E → vs.length = ps.length)
    (hbody : ∀ (A : Around) (outer : List Env) (s : Shared) (H : Hp) (vs : List V) (Q : VK) (E : XK), A.guards = some [] → Room k (A.deeper (envOfC qual scope s.heap.objs.size f cdv)) → sp vs H Q E →
      ∃ t, PSs (cxOf CX P w K mg base N qual scope f cdv A outer s H E) body t ∧ t { nx := fun _ H' => Q .non H', rt := Q } (L2.start N vs) H) :
    FnG P w K mg base CX (k + 1) f (PySem.W.fnOf name qual params body scope dV kV doc pm an cdv ct) ps sp :=
  ⟨len, fun A outer s H args us vs Q E hgd hr e0 hb r hsp => run_ofS lk hcd S hr e0 hb r (len _ _ _ _ hsp) fun hr' => hbody A outer s H vs Q E hgd hr' hsp⟩
theorem okG {x qual : Str} {st : Stmt} {N : List Str} (F : Fun K x qual st f fd) (S : FnScope N ps (defScope st)) (len : ∀ vs H Q E, sp vs H Q E → vs.length = ps.length)
    (hbody : ∀ (cdv : Value) (A : Around) (outer : List Env) (s : Shared) (H : Hp) (vs : List V) (Q : VK) (E : XK), A.guards = some [] → Room k (A.deeper (envOfC qual (defScope st) s.heap.objs.size f cdv)) → sp vs H Q E →
      ∃ t, PSs (cxOf CX0 P w K mg base N qual (defScope st) f cdv A outer s H E).nox (defBody st) t ∧ t { nx := fun _ H' => Q .non H', rt := Q } (L2.start N vs) H) : FnG P w K mg base CX0 (k + 1) f fd ps sp := by
  obtain ⟨oc, od, kV, doc, pm, an, cdv, ct, osl, rfl, lk, hcd⟩ := F.ex
  refine fnG_of lk hcd S len fun A outer s H vs Q E hgd hr hsp => ?_
  obtain ⟨t, h, q⟩ := hbody cdv A outer s H vs Q E hgd hr hsp
  exact ⟨t, h.nox, q⟩
end
section
variable {X : Cx} {CX : CXT} {k : Nat} {f : Addr} {fd : FuncData} {ps : List Str} {sp : Sp} {E : XK} {x : Str} {p pos : Pos} {e : Expr} {es : List Expr} {t : TA} {ds : List Value} {dvs : List V}
theorem run_fnG {pins : List (Addr × Obj)} {σ : L2.St} {H : Hp} {s : Shared} {Q : VK} {us : List Value} {vs : List V} (F : FnG X.prog X.w X.K X.mg X.base CX k f fd ps sp) (hgd : X.A.guards = some []) (hr : Room k X.A) (hb : L2.Binds X.K fd ps ds) (hd : Vals dvs ds) (hx : Passes CX X E)
    (I : Inv X pins σ H s) (r : Vals vs us) (h : sp (vs ++ dvs) H Q E) : wpAny (model X.prog X.w) X.A (call (.ref f) us) (EP X pins σ Q) X.xe s := by
  have r2 : Vals (vs ++ dvs) (us ++ ds) := r.append hd
  have hl : (us ++ ds).length = ps.length := r2.length ▸ F.len _ _ _ _ h
  refine wpAny_call (codeAny_mono (F.run X.A X.stack s H ⟨us, []⟩ (us ++ ds) (vs ++ dvs) Q E hgd hr I.env0 (hb s us I.kIn hl) r2 h) fun res s' hq => ?_)
  match res, hq with
  | .error _, hq => exact hx pins σ H s _ s' I hq
  | .ok (.ret _), hq => exact I.after hq
/-- f(e, ..), f promised where no repr is under way -/
theorem pe_callG (F : FnG X.prog X.w X.K X.mg X.base CX k f fd ps sp) (hgd : X.A.guards = some []) (hr : Room k X.A) (hg : Gl X x) (hm : X.mg x = some (.ref f)) (hk : PySem.W.keepIn X.K (.ref f) = true) (hb : L2.Binds X.K fd ps ds) (hd : Vals dvs ds) (hx : Passes CX X E)
    (ha : PA X (e :: es) t) (hdb : (x == ("__debug__" : Str)) = false := by decide) (he : starEach (e :: es) X.env = (false, eval e X.env) :: starEach es X.env := by rfl) (hpl : (backTo pos (starEach es X.env)).any (·.1) = false := by rfl) :
    PE X (.Call (.Name x p) (e :: es) [] pos) (tCall sp dvs E t) :=
  ⟨fun pins s σ H Q I h => wpAny_Call_Name_kw (ld_glob I hg hm (PySem.W.callWith_K (h₀ := X.base) I.ok.mod.kin hk (thn (ha.run pos pins s σ H _ I h) fun us s1 ⟨vs, H1, I1, r, q⟩ => ⟨I1.kIn, run_fnG F hgd hr hb hd hx I1 r q⟩) he hpl) hdb)⟩
/-- repr(x), x data of lists and tuples -/
def rReprD (K : PySem.W.Frag) : List V → Hp → VK → Prop := fun xs H Q => ∃ (a : Addr) (d : PyData), xs = [.ref a] ∧ Dp K H (.ref a) d ∧ d.showable = true ∧ d.canLay0 = true ∧ d.depth ≤ 60 ∧ d.shown.length ≤ sizeLine ∧ Q (.str d.shown) H
theorem call_reprD (hgd : X.A.guards = some []) (hu : X.A.units + 64 < cLine) : CallR X (.builtin "repr") (rReprD X.K) := by
  intro pins s σ H xs us Q I r h
  obtain ⟨a, d, rfl, hd, hs, hl, hdp, hz, q⟩ := h
  cases r with
  | cons r rr =>
    cases rr
    obtain ⟨as, rd⟩ := Dp.reads I d _ _ hd r
    cases r
    refine repr_of_reads' rd hs (PyData.noDict_hsm (PyData.hasDict_of_canLay d hl)) hgd (by omega) (fun _ _ e => e) (fun h' u tk hk => ?_) hz
    exact ⟨.str d.shown, H, I.kept hk, ⟨_, rfl⟩, q⟩
end
end OB
/-! repr of a list or a tuple of ints. -/
namespace OB
open PySem PySem.Spec PyProof.Rows L2
theorem shown_ints : ∀ ns : List Int, PyData.shownAll (ns.map PyData.int) = ns.map fun n => Str.ofString (toString n)
  | [] => by simp [PyData.shownAll]
  | n :: r => by simp [PyData.shownAll, PyData.shown, shown_ints r]
theorem show_ints : ∀ ns : List Int, (∀ n ∈ ns, n.natAbs.log2 < 1920) → PyData.showableAll (ns.map PyData.int) = true
  | [], _ => by simp [PyData.showableAll]
  | n :: r, h => by
    have h1 := h n List.mem_cons_self
    have h2 := show_ints r fun x hx => h x (List.mem_cons_of_mem _ hx)
    simp [PyData.showableAll, PyData.showable, h2, h1]
theorem piled_ints : ∀ ns : List Int, (∀ n ∈ ns, n.natAbs.log2 < 1920) → piled (ns.map fun n => Str.ofString (toString n)) ≤ 1923 * ns.length
  | [], _ => Nat.zero_le _
  | n :: r, h => by
    have h1 := int_text_len_1921 (h n List.mem_cons_self)
    have h2 := piled_ints r fun x hx => h x (List.mem_cons_of_mem _ hx)
    rw [List.map_cons, piled_cons, List.length_cons]
    omega
theorem list_len (ts : List Str) : (listText ts).length ≤ piled ts + 2 := by
  have one : (("[" : String) : Str).length = 1 := rfl
  have two : (("]" : String) : Str).length = 1 := rfl
  unfold listText
  rw [strLen_append, two]
  cases ts with
  | nil =>
    show (("[" : String) : Str).length + 1 ≤ _
    rw [one]
    exact Nat.le_add_left _ _
  | cons t r =>
    show (textFrom 1 ((("[" : String) : Str) ++ t) r).length + 1 ≤ _
    rw [textFrom_length_pos r 1 _ (by decide), strLen_append, one, piled_cons]
    omega
theorem depth_ints (ns : List Int) : PyData.depthAll (ns.map PyData.int) ≤ 1 := deep_ints ns
/-- the text of a list, of a tuple of ints -/
def tl (ns : List Int) : Str := PyData.shown (.list (ns.map PyData.int))
def tt (ns : List Int) : Str := PyData.shown (.tuple (ns.map PyData.int))
theorem tl_len {ns : List Int} (h : ∀ n ∈ ns, n.natAbs.log2 < 1920) (hl : ns.length ≤ 1000) : (tl ns).length ≤ sizeLine := by
  have a := piled_ints ns h
  have b := list_len (ns.map fun n => Str.ofString (toString n))
  show (listText (PyData.shownAll (ns.map PyData.int))).length ≤ sizeLine
  rw [shown_ints, sizeLine_eq]
  omega
theorem tt_len {ns : List Int} (h : ∀ n ∈ ns, n.natAbs.log2 < 1920) (hl : ns.length ≤ 1000) : (tt ns).length ≤ sizeLine := by
  have a := piled_ints ns h
  have b := fmt_text (ns.map fun n => Str.ofString (toString n))
  show (tupleText (PyData.shownAll (ns.map PyData.int))).length ≤ sizeLine
  rw [shown_ints, sizeLine_eq]
  omega
section
variable {X : Cx}
def rReprI (K : PySem.W.Frag) : List V → Hp → VK → Prop := fun xs H Q => ∃ (a : Addr) (ns : List Int), xs = [.ref a] ∧ (∀ n ∈ ns, n.natAbs.log2 < 1920) ∧ ns.length ≤ 1000 ∧ ((SqL K H a (ns.map V.int) ∧ Q (.str (tl ns)) H) ∨ (SqT K H a (ns.map V.int) ∧ Q (.str (tt ns)) H))
theorem call_reprI (hgd : X.A.guards = some []) (hu : X.A.units + 64 < cLine) : CallR X (.builtin "repr") (rReprI X.K) := by
  intro pins s σ H xs us Q I r h
  obtain ⟨a, ns, rfl, hs, hl, q⟩ := h
  have sh := show_ints ns hs
  have d := depth_ints ns
  rcases q with ⟨hq, q⟩ | ⟨hq, q⟩
  · refine call_reprD hgd hu pins s σ H _ us Q I r ⟨a, .list (ns.map PyData.int), rfl, Dp.lst hq (dp_ints ns), by simp [PyData.showable, sh], by simp [PyData.canLay0, lay_ints], ?_, tl_len hs hl, q⟩
    show PyData.depthAll (ns.map PyData.int) + 1 ≤ 60
    omega
  · refine call_reprD hgd hu pins s σ H _ us Q I r ⟨a, .tuple (ns.map PyData.int), rfl, Dp.tup hq (dp_ints ns), by simp [PyData.showable, sh], by simp [PyData.canLay0, lay_ints], ?_, tt_len hs hl, q⟩
    show PyData.depthAll (ns.map PyData.int) + 1 ≤ 60
    omega
end
end OB
/-! What a reader of errors told, call by call, in a list that grows; things that stay meanwhile. -/
namespace OB
open PySem PySem.Spec PyProof.Rows L2 LamX
/-- a list that begins with a reference, or a table: what may change -/
def refL : HO → Bool
  | .lst (.ref _ :: _) => true
  | .tbl _ => true
  | _ => false
def Keep (H H' : Hp) : Prop := ∀ q o, H q = some o → refL o = false → H' q = some o
section
variable {H H' H1 H2 : Hp}
theorem Keep.refl : Keep H H := fun _ _ h _ => h
theorem Keep.trans (a : Keep H H1) (b : Keep H1 H2) : Keep H H2 := fun q o h n => b q o (a q o h n) n
theorem Keep.ext (e : ExtN H H') : Keep H H' := fun q o h n => e q o h fun ps z => by
  subst z
  cases n
theorem Keep.same (s : Same H H') : Keep H H' := fun q o h _ => s q o h
theorem Keep.but {p : Addr} (b : But p H H') (hp : ∃ x r, H p = some (.lst (.ref x :: r))) : Keep H H' := fun q o h n => b q o h fun z => by
  obtain ⟨x, r, hp⟩ := hp
  rw [z, hp] at h
  cases h
  cases n
theorem orch_ref {p b : Addr} {n : Nat} (o : Orch H p b n) : ∃ x r, H p = some (.lst (.ref x :: r)) := by
  obtain ⟨ns, t, l, h1, _⟩ := o
  exact ⟨_, _, h1⟩
theorem orch_extN {p b : Addr} {n : Nat} (o : Orch H p b n) (e : ExtN H H') : Orch H' p b n := by
  obtain ⟨ns, t, l, h1, h2, h3⟩ := o
  exact ⟨ns, t, l, e _ _ h1 (fun _ z => nomatch z), e _ _ h2 (fun _ z => nomatch z), h3⟩
theorem tabs_butN {T : List (Addr × Str)} {p : Addr} {xs : List V} (t : Tabs T H) (b : But p H H') (hp : H p = some (.lst xs)) : Tabs T H' := fun x hx => by
  obtain ⟨ps, h1, h2, h3⟩ := t x hx
  have n1 : x.1 ≠ p := fun z => by
    rw [z, hp] at h1
    cases h1
  refine ⟨ps, b _ _ h1 n1, h2, fun pos cv hc => ?_⟩
  obtain ⟨c, e1, e2⟩ := h3 pos cv hc
  have n2 : c ≠ p := fun z => by
    rw [z, hp] at e2
    have e2 := Option.some.inj e2
    cases e2
  exact ⟨c, e1, b _ _ e2 n2⟩
theorem tabs_orchN {T : List (Addr × Str)} {p b : Addr} {n : Nat} (t : Tabs T H) (B : But p H H') (o : Orch H p b n) : Tabs T H' := by
  obtain ⟨ns, x, y, hp, _⟩ := o
  exact tabs_butN t B hp
/-- things that stay -/
def Fix (A : List (Addr × HO)) (H : Hp) : Prop := ∀ a ∈ A, H a.1 = some a.2 ∧ refL a.2 = false
theorem Fix.nil : Fix [] H := fun a h => absurd h List.not_mem_nil
theorem Fix.cons {A : List (Addr × HO)} {a : Addr} {o : HO} (h : H a = some o) (n : refL o = false) (f : Fix A H) : Fix ((a, o) :: A) H := fun x hx => by
  rcases List.mem_cons.mp hx with e | e
  · rw [e]
    exact ⟨h, n⟩
  · exact f x e
theorem Fix.keep {A : List (Addr × HO)} (f : Fix A H) (k : Keep H H') : Fix A H' := fun a ha => ⟨k _ _ (f a ha).1 (f a ha).2, (f a ha).2⟩
theorem Fix.get {A : List (Addr × HO)} (f : Fix A H) {a : Addr} {o : HO} (h : (a, o) ∈ A) : H a = some o := (f _ h).1
theorem Fix.app {A B : List (Addr × HO)} (f : Fix A H) (g : Fix B H) : Fix (A ++ B) H := fun a ha => by
  rcases List.mem_append.mp ha with e | e
  · exact f a e
  · exact g a e
/-- what the reader told: a kind and a part, or None -/
def Ent (H : Hp) (v : V) : Option (Str × Str) → Prop
  | none => v = .non
  | some k => ∃ t, v = .ref t ∧ H t = some (.tup [.str k.1, .str k.2])
def Res (H : Hp) : List V → List (Option (Str × Str)) → Prop
  | [], [] => True
  | v :: r, k :: ks => Ent H v k ∧ Res H r ks
  | _, _ => False
theorem Ent.keep {v : V} {k : Option (Str × Str)} (e : Ent H v k) (q : Keep H H') : Ent H' v k := by
  cases k with
  | none => exact e
  | some k =>
    obtain ⟨t, rfl, h⟩ := e
    exact ⟨t, rfl, q _ _ h rfl⟩
theorem Res.keep (q : Keep H H') : ∀ {vs : List V} {ks : List (Option (Str × Str))}, Res H vs ks → Res H' vs ks
  | [], [], _ => trivial
  | _ :: _, _ :: _, ⟨a, b⟩ => ⟨a.keep q, Res.keep q b⟩
theorem Res.snoc {v : V} {k : Option (Str × Str)} (e : Ent H v k) : ∀ {vs : List V} {ks : List (Option (Str × Str))}, Res H vs ks → Res H (vs ++ [v]) (ks ++ [k])
  | [], [], _ => ⟨e, trivial⟩
  | _ :: _, _ :: _, ⟨a, b⟩ => ⟨a, Res.snoc e b⟩
theorem Res.length : ∀ {vs : List V} {ks : List (Option (Str × Str))}, Res H vs ks → vs.length = ks.length
  | [], [], _ => rfl
  | _ :: _, _ :: _, ⟨_, b⟩ => congrArg (· + 1) (Res.length b)
def entD : Option (Str × Str) → PyData
  | none => .none
  | some k => .tuple [.str k.1, .str k.2]
theorem Ent.dp {K : PySem.W.Frag} {v : V} {k : Option (Str × Str)} (e : Ent H v k) : Dp K H v (entD k) := by
  cases k with
  | none =>
    have e : v = .non := e
    rw [e]
    exact .non
  | some k =>
    obtain ⟨t, rfl, h⟩ := e
    exact Dp.tup (SqT.of h) (.cons (.str _) (.cons (.str _) .nil))
theorem Res.dp {K : PySem.W.Frag} : ∀ {vs : List V} {ks : List (Option (Str × Str))}, Res H vs ks → DpAll K H vs (ks.map entD)
  | [], [], _ => .nil
  | _ :: _, _ :: _, ⟨a, b⟩ => .cons a.dp (Res.dp b)
/-- between two calls of the reader -/
structure St (T : List (Addr × Str)) (p b h : Addr) (A : List (Addr × HO)) (n : Nat) (H : Hp) (vs : List V) (ks : List (Option (Str × Str))) : Prop where
  tabs : Tabs T H
  orch : Orch H p b n
  at' : H h = some (.lst vs)
  hp : h ≠ p
  hb : h ≠ b
  fix : Fix A H
  res : Res H vs ks
  first : ∃ x r, vs = .ref x :: r
variable {T : List (Addr × Str)} {p b h : Addr} {A : List (Addr × HO)} {n m : Nat} {vs : List V} {ks : List (Option (Str × Str))}
theorem St.ext (s : St T p b h A n H vs ks) (e : ExtN H H') (t : Tabs T H') : St T p b h A n H' vs ks :=
  ⟨t, orch_extN s.orch e, e _ _ s.at' (fun _ z => nomatch z), s.hp, s.hb, s.fix.keep (.ext e), s.res.keep (.ext e), s.first⟩
theorem St.but (s : St T p b h A n H vs ks) (B : But p H H') (O : Orch H' p b m) : St T p b h A m H' vs ks :=
  ⟨tabs_orchN s.tabs B s.orch, O, B _ _ s.at' s.hp, s.hp, s.hb, s.fix.keep (.but B (orch_ref s.orch)), s.res.keep (.but B (orch_ref s.orch)), s.first⟩
theorem St.add {v : V} {k : Option (Str × Str)} (s : St T p b h A n H vs ks) (e : Ent H v k) : St T p b h A n (upd H h (.lst (vs ++ [v]))) (vs ++ [v]) (ks ++ [k]) := by
  obtain ⟨x, r, ev⟩ := s.first
  have B : But h H (upd H h (.lst (vs ++ [v]))) := but_at
  have kp : Keep H (upd H h (.lst (vs ++ [v]))) := .but B ⟨x, r, by rw [s.at', ev]⟩
  refine ⟨tabs_butN s.tabs B s.at', s.orch.keep (fun u hu => B _ _ hu (fun z => s.hp z.symm)) (fun u hu => B _ _ hu (fun z => s.hb z.symm)), upd_same, s.hp, s.hb, s.fix.keep kp, (s.res.keep kp).snoc (e.keep kp), x, r ++ [v], by rw [ev]; rfl⟩
theorem St.begin {t h : Addr} {k : Str × Str} (hT : Tabs T H) (O : Orch H p b n) (F : Fix A H) (e : Ent H (.ref t) (some k)) (hh : H h = none) : St T p b h A n (upd H h (.lst [.ref t])) [.ref t] [some k] := by
  have S := same_new (o := .lst [.ref t]) hh
  obtain ⟨u, hu⟩ := O.pn
  obtain ⟨u2, hu2⟩ := O.bn
  exact ⟨hT.ext S, O.same S, upd_same, (ne_of_none hu hh).symm, (ne_of_none hu2 hh).symm, F.keep (.same S), ⟨e.keep (.same S), trivial⟩, t, [], rfl⟩
end
end OB
/-! The law's own call, its promise asked only where no repr is under way. -/
namespace OB
open PySem PySem.Spec PyProof.Rows L2 LamX
section
variable {P : Program} {w : World} {K : PySem.W.Frag} {mg mb : Str → Option Value} {CX : CXT} {k : Nat} {fa a : Addr} {cs : List (Addr × Addr)} {fd : FuncData} {x : Str} {sp : Sp} {s₁ : Shared} {vs : List Value} {ns : List Int}
/-- what is tracked as the law begins: its script, where it is no part of the text's own objects, and the tables of its lambdas -/
def top (K : PySem.W.Frag) (a : Addr) (vs : List Value) (ns : List Int) (T : List Addr) : Hp := fun b =>
  if b = a then (if K.lookup a = none then some (.frz { cls := .type "list", data := .seq vs.toArray } (.lst (ns.map V.int))) else none) else if b ∈ T then some (.tbl #[]) else none
theorem top_some {T : List Addr} {b : Addr} {u : HO} (h : top K a vs ns T b = some u) :
    (b = a ∧ K.lookup a = none ∧ u = .frz { cls := .type "list", data := .seq vs.toArray } (.lst (ns.map V.int))) ∨ (b ≠ a ∧ b ∈ T ∧ u = .tbl #[]) := by
  unfold top at h
  by_cases e : b = a
  · rw [if_pos e] at h
    by_cases n : K.lookup a = none
    · rw [if_pos n] at h
      exact .inl ⟨e, n, (Option.some.inj h).symm⟩
    · rw [if_neg n] at h
      cases h
  · rw [if_neg e] at h
    by_cases m : b ∈ T
    · rw [if_pos m] at h
      exact .inr ⟨e, m, (Option.some.inj h).symm⟩
    · rw [if_neg m] at h
      cases h
theorem top_none {T : List Addr} {b : Addr} (h1 : b = a → K.lookup a ≠ none) (h2 : b ∉ T) : top K a vs ns T b = none := by
  cases e : top K a vs ns T b with
  | none => rfl
  | some u =>
    rcases top_some e with ⟨q, n, _⟩ | ⟨_, m, _⟩
    · exact absurd n (h1 q)
    · exact absurd m h2
theorem law_callG (KX : K.In s₁.heap) (hns : s₁.heap.Ns mainGlobals mg) (hb : s₁.heap.Ns builtinsNs mb) (hbb : ∀ x : Str, x ≠ "__name__" → mb x = bootBuiltins x) (hlim : s₁.heap.NoLimit) (hg : s₁.gens = #[])
    (hT : ∀ p ∈ cs, s₁.heap.get? p.2 = some { cls := .none, data := .fields #[] }) (nT : ∀ p ∈ cs, K.lookup p.2 = none) (C : ∀ p ∈ cs, PySem.W.CodeHd s₁.heap p.1 p.2)
    (hbm : ∃ (bm : Addr) (ob : Obj), mg "__builtins__" = some (.ref bm) ∧ bm ≠ builtinsNs ∧ s₁.heap.get? bm = some ob ∧ ob.cls = .type "module" ∧ ob.dict = some builtinsNs ∧ ob.data = .plain)
    (ha : s₁.heap.get? a = some { cls := .type "list", data := .seq vs.toArray }) (hi : IntsAre vs ns) (hl : ns.length ≤ sizeLine) (hr : Room k callerA)
    (F : ∀ base : Heap, K.In base → base.Ns mainGlobals mg → (∀ p ∈ cs, TabB base mg p.1 p.2) → FnG P w K mg base CX k fa fd [x] sp) (hbind : ∀ (s : Shared) (u : Value), BindsTo s fd ⟨[u], []⟩ [(x, u)])
    (hsp : ∀ H : Hp, (∀ p ∈ cs, H p.2 = some (.tbl #[])) → SqL K H a (ns.map V.int) → sp [.ref a] H (fun v _ => v = .bl true) fun _ _ _ => False)
    (hCX : ∀ H e s', CX [] H s₁ (fun _ _ _ => False) e s' → False) :
    codeAny (model P w) callerA (.call (.ref fa) ⟨[.ref a], []⟩) (fun r s' => r = .ok (.ret (.bool true)) ∧ OldK s₁.heap s'.heap ∧ s'.os = s₁.os ∧ AllBare s'.gens) s₁ := by
  have rv := vals_ints hi
  obtain ⟨T, eT⟩ : ∃ T, T = cs.map (·.2) := ⟨_, rfl⟩
  have inT : ∀ p ∈ cs, p.2 ∈ T := fun p hp => eT ▸ List.mem_map.mpr ⟨p, hp, rfl⟩
  have ofT : ∀ b ∈ T, ∃ p ∈ cs, p.2 = b := fun b h => List.mem_map.mp (eT ▸ h)
  have tab : ∀ b ∈ T, s₁.heap.get? b = some { cls := .none, data := .fields #[] } := fun b h => by
    obtain ⟨p, hp, rfl⟩ := ofT b h
    exact hT p hp
  have aT : a ∉ T := fun z => by
    have q := (tab a z).symm.trans ha
    have q := congrArg Obj.data (Option.some.inj q)
    cases q
  obtain ⟨H, eH⟩ : ∃ H, H = top K a vs ns T := ⟨_, rfl⟩
  have some_ : ∀ {b u}, H b = some u → (b = a ∧ K.lookup a = none ∧ u = .frz { cls := .type "list", data := .seq vs.toArray } (.lst (ns.map V.int))) ∨ (b ≠ a ∧ b ∈ T ∧ u = .tbl #[]) := fun h => top_some (by rw [eH] at h; exact h)
  have hH : ∀ p ∈ cs, H p.2 = some (.tbl #[]) := fun p hp => by
    have ne : p.2 ≠ a := fun z => aT (z ▸ inT p hp)
    rw [eH]
    unfold top
    rw [if_neg ne, if_pos (inT p hp)]
  have hok : HOk P w H s₁.heap := fun b u z => by
    rcases some_ z with ⟨rfl, _, rfl⟩ | ⟨_, m, rfl⟩
    · exact ⟨ha, by rw [List.length_map]; exact hl, vs, _, rv, ha⟩
    · exact tab b m
  have hS : SqL K H a (ns.map V.int) := by
    cases hk : K.lookup a with
    | none =>
      refine .inl (.inr ⟨{ cls := .type "list", data := .seq vs.toArray }, ?_⟩)
      rw [eH]
      unfold top
      rw [if_pos rfl, if_pos hk]
    | some o =>
      have e := (KX a o hk).symm.trans ha
      cases e
      exact .inr ⟨_, vs.toArray, _, hk, rfl, rfl, rfl, by rw [List.size_toArray, hi.length]; exact hl, by simpa using rv⟩
  -- what is no list and no empty table is not tracked
  have bare : ∀ {b : Addr} {o : Obj}, s₁.heap.get? b = some o → (∀ vs n, o.data ≠ .seq vs n) → o.data ≠ .fields #[] → H b = none := fun {b o} e h1 h2 => by
    cases q : H b with
    | none => rfl
    | some u =>
      rcases some_ q with ⟨rfl, _, _⟩ | ⟨_, m, _⟩
      · cases e.symm.trans ha
        exact (h1 _ _ rfl).elim
      · cases e.symm.trans (tab b m)
        exact (h2 rfl).elim
  have under : ∀ {b : Addr} {o : Obj}, s₁.heap.get? b = some o → H b = none → (hidT s₁.heap H).get? b = some o := fun e n => hidT_get e n
  have names : ∀ {b : Addr} {m : Str → Option Value}, s₁.heap.Ns b m → (hidT s₁.heap H).Ns b m := fun {b m} ⟨o, es, ep, e, d, r⟩ =>
    ⟨o, es, ep, under e (bare e (fun vs n z => by rw [d] at z; cases z) fun z => by rw [d] at z; cases z), d, r⟩
  have hKb : K.In (hidT s₁.heap H) := fun b o e => under (KX b o e) (by
    cases q : H b with
    | none => rfl
    | some u =>
      rcases some_ q with ⟨rfl, n, _⟩ | ⟨_, m, _⟩
      · rw [n] at e
        cases e
      · obtain ⟨p, hp, rfl⟩ := ofT b m
        rw [nT p hp] at e
        cases e)
  have hM : L2.Mod K mg (hidT s₁.heap H) := ⟨hKb, names hns, ⟨mb, names hb, hbb⟩, let ⟨mc, h1, h2⟩ := hlim; ⟨mc, names h1, h2⟩⟩
  have TB : ∀ p ∈ cs, TabB (hidT s₁.heap H) mg p.1 p.2 := fun p hp => by
    have hTp := hT p hp
    refine ⟨?_, ?_, fun z => ?_⟩
    · obtain ⟨o, us, file, tf, flags, tg, inF, text, tt, e1, r1, r2, r3, rest⟩ := C p hp
      exact ⟨o, us, file, tf, flags, tg, inF, text, tt, under e1 (bare e1 (fun vs n z => by rw [r2] at z; cases z) fun z => by
        rw [r2] at z
        cases z
        simp at r3), r1, r2, r3, rest⟩
    · obtain ⟨bm, ob, b1, b2, b3, b4, b5, b6⟩ := hbm
      refine ⟨bm, ob, b1, b2, fun q => ?_, fun q => ?_, under b3 (bare b3 (fun vs n z => by rw [b6] at z; cases z) fun z => by rw [b6] at z; cases z), b4, b5, b6⟩
      · obtain ⟨o, es, ep, e, hd, _⟩ := hns
        rw [q, e] at b3
        cases b3
        rw [hd] at b6
        cases b6
      · rw [q, hTp] at b3
        cases b3
        cases b6
    · obtain ⟨o, es, ep, e, hd, _⟩ := hns
      rw [z, hTp] at e
      cases e
      cases hd
  have e0 : Env0 P w K mg (hidT s₁.heap H) callerA [] s₁ H := ⟨rfl, hM, fun b o e => of_hidT e, Nat.le_of_eq (hidT_size _ _), trivial, fun b hb => absurd (show b ∈ ([] : List Addr) from hb) (by simp), hok, .of_eq hg⟩
  refine codeAny_mono ((F _ hKb (names hns) TB).run callerA [] s₁ H ⟨[.ref a], []⟩ [.ref a] [.ref a] _ _ rfl hr e0 (hbind s₁ (.ref a)) (.cons rfl .nil) (hsp H hH hS)) fun r s' h => ?_
  match r, h with
  | .error e, h => exact (hCX H e s' h).elim
  | .ok (.ret u), h =>
    obtain ⟨v, H', os, bs, un, hok', r', q⟩ := h
    have q : v = .bl true := q
    subst q
    obtain rfl : u = Value.bool true := r'
    have key : ∀ b o, b ∉ T → s₁.heap.get? b = some o → s'.heap.get? b = some o := fun b o nb e => by
      cases q : H b with
      | none => exact un.keep b o e q (by intro z; exact absurd (show b ∈ ([] : List Addr) from z) (by simp)) (by simp)
      | some u =>
        rcases some_ q with ⟨rfl, _, rfl⟩ | ⟨_, m, _⟩
        · obtain ⟨e1, _⟩ := hok b _ q
          obtain ⟨e2, _⟩ := hok' b _ (un.frzs b _ _ q)
          rw [e] at e1
          cases e1
          exact e2
        · exact absurd m nb
    have grown : ∀ p ∈ cs, ∃ more : Array Value, s'.heap.get? p.2 = some { cls := .none, data := .fields more } := fun p hp => by
      obtain ⟨more, z⟩ := un.tbls p.2 #[] (hH p hp)
      exact ⟨_, hok' p.2 _ z⟩
    refine ⟨rfl, ⟨fun b o e => ?_, fun b o e => ?_⟩, os, bs⟩
    · by_cases m : b ∈ T
      · obtain ⟨p, hp, rfl⟩ := ofT b m
        obtain ⟨more, hm⟩ := grown p hp
        rw [hT p hp] at e
        cases e
        exact .inr (.inl ⟨((C p hp).tab (hT p hp)).isCodeTable, rfl, #[], more, rfl, by rw [Array.empty_append]; exact hm⟩)
      · exact .inl (key b o m e)
    · by_cases m : b ∈ T
      · obtain ⟨p, hp, rfl⟩ := ofT b m
        obtain ⟨more, hm⟩ := grown p hp
        exact ⟨_, hm⟩
      · exact ⟨o, key b o m e⟩
/-- what is known of the law's promise at the head's heap -/
def LawG (l : PySem.W.OpenLaw) (w : World) (K : PySem.W.Frag) (CX : CXT) (k n : Nat) (x : Str) (mg : Str → Option Value) (fa : Addr) (h : Heap) : Prop :=
  ∃ (fd : FuncData) (cs : List (Addr × Addr)) (sp : Sp), ((∀ p ∈ cs, h.get? p.2 = some { cls := .none, data := .fields #[] }) ∧ (∀ p ∈ cs, K.lookup p.2 = none) ∧ (∀ p ∈ cs, PySem.W.CodeHd h p.1 p.2)) ∧ (∀ (s : Shared) (u : Value), BindsTo s fd ⟨[u], []⟩ [(x, u)]) ∧
    (∀ (H : Hp) (a : Addr) (ns : List Int), ns.length ≤ n → (∀ z ∈ ns, Builtin.Int.intBits z ≤ 1048576) → (∀ p ∈ cs, H p.2 = some (.tbl #[])) → SqL K H a (ns.map V.int) → sp [.ref a] H (fun v _ => v = .bl true) fun _ _ _ => False) ∧
    ∀ base : Heap, K.In base → base.Ns mainGlobals mg → (∀ p ∈ cs, TabB base mg p.1 p.2) → FnG l.prog w K mg base CX k fa fd [x] sp
end
theorem walk_G {l : PySem.W.OpenLaw} {n k : Nat} {q : Program} {loose : List Str} {XP : (Str → Option Value) → Heap → Prop} {YP : World → Heap → Prop} {d : DefRec} {K : Params → PySem.W.Frag} {CX : World → CXT} {x : Str}
    (hn : l.most = some n) (hn2 : n ≤ sizeLine) (hdf : d.params.defaults = []) (hr : Room k callerA) (hY : ∀ (w : World) (h : Heap), YP w h → (K w.params).In h)
    (F : ∀ (w : World) (mg : Str → Option Value) (fa : Addr) (h : Heap), YP w h → (K w.params).In h → h.Ns mainGlobals mg → mg d.name = some (.ref fa) → LawG l w (K w.params) (CX w) k n x mg fa h)
    (hCX : ∀ (w : World) (H : Hp) (s : Shared) (e : Value) (s' : Shared), CX w [] H s (fun _ _ _ => False) e s' → False) :
    PySem.W.WalkO q loose XP YP l.row.toRowW d [] (fun f vs => PySem.call f vs) := by
  refine Att.attach_callB hn hdf fun w s₀ s₁ mg mb fa o pm cd doc a vs ns G Y ho hd hcd hmg hobj hints hlen hbits hg => ?_
  have KX := hY w _ Y
  obtain ⟨fd, cs, sp, ⟨hT, nT, C⟩, hb, hsp, hF⟩ := F w mg fa _ Y KX G.T.g hmg
  exact law_callG KX G.T.g G.T.b G.T.builtins G.T.nolimit hg hT nT C G.T.bmain hobj hints (Nat.le_trans hlen hn2) hr hF hb (fun H hH hS => hsp H a ns hlen hbits hH hS) fun H e s' => hCX w H s₁ e s'
end OB
/-! Own errors with two fields, raised. -/
namespace OB
open PySem PySem.Spec PyProof.Rows L2
/-- __init__(self, f, g): self.f = f; self.g = g of an own error -/
def spInit2 (K : PySem.W.Frag) (f g : Str) : Sp := fun vs H Q _ => ∃ (a C : Addr) (v u : V), vs = [.ref a, v, u] ∧ OexC K C ∧ PySem.W.findIn K (.ref C) f = some none ∧ PySem.W.findIn K (.ref C) g = some none ∧ H a = some (exo a C none) ∧
  ∀ dx, H dx = none → dx ≠ a → Q .non (upd (upd H dx (exd dx [(g, u), (f, v)])) a (exo a C (some dx)))
section
variable {P : Program} {w : World} {K : PySem.W.Frag} {mg : Str → Option Value} {base : Heap}
theorem ok_init2 {qual : Str} {st : Stmt} {fI : Addr} {fd : FuncData} {f g : Str} {p1 p2 p3 p4 r1 r2 r3 r4 : Pos} (F : Fun K "__init__" qual st fI fd) (S : FnScope ["self", f, g] ["self", f, g] (defScope st)) (hfg : ¬ f = g)
    (hb : defBody st = [.Assign [.Attribute (.Name "self" p1) f p2] (.Name f p3) p4, .Assign [.Attribute (.Name "self" r1) g r2] (.Name g r3) r4])
    (hv : Vis (defScope st) f) (hw : Vis (defScope st) g) (hs : Vis (defScope st) "self") (hd : (f == ("__debug__" : Str)) = false := by decide) (hcd : (f == ("__classdict__" : Str)) = false := by decide)
    (hd2 : (g == ("__debug__" : Str)) = false := by decide) (hcd2 : (g == ("__classdict__" : Str)) = false := by decide)
    (hsw : ∀ env : Env, swapsWith (.Name f p3) (some (.Attribute (.Name "self" p1) f p2)) p4.line env = pure false := by intro _; rfl)
    (hsw2 : ∀ env : Env, swapsWith (.Name g r3) (some (.Attribute (.Name "self" r1) g r2)) r4.line env = pure false := by intro _; rfl) :
    FnOk P w K mg base CX0 1 fI fd ["self", f, g] (spInit2 K f g) := by
  refine F.ok S (fun vs H Q E h => ?_) (fun cdv A outer s H vs Q E hr h => ?_)
  · obtain ⟨a, C, v, u, rfl, _⟩ := h
    rfl
  · obtain ⟨a, C, v, u, rfl, T, no, no2, ha, k⟩ := h
    rw [hb]
    refine ⟨_, pss_cons (ps_ost (pe_var (i := 0) rfl hs) (pe_var (i := 1) rfl hv hd hcd) (hsw _)) (pss_one (ps_ost (pe_var (i := 0) rfl hs) (pe_var (i := 2) rfl hw hd2 hcd2) (hsw2 _))), ?_⟩
    refine ⟨v, rfl, .ref a, rfl, a, C, rfl, T, no, .inl ⟨ha, fun dx n ne => ?_⟩⟩
    refine ⟨u, rfl, .ref a, rfl, a, C, rfl, T, no2, ?_⟩
    refine .inr ⟨dx, [(f, v)], upd_same, by rw [upd_ne ne, upd_same], (by show 1 ≤ 900; decide), ?_⟩
    have e : upd (upd (upd H dx (exd dx [(f, v)])) a (exo a C (some dx))) dx (exd dx ((g, u) :: [(f, v)])) = upd (upd H dx (exd dx [(g, u), (f, v)])) a (exo a C (some dx)) := by
      funext b
      by_cases h1 : b = a
      · rw [h1, upd_ne ne.symm, upd_same, upd_same]
      · by_cases h2 : b = dx
        · rw [h2, upd_same, upd_ne ne, upd_same]
        · rw [upd_ne h2, upd_ne h1, upd_ne h2, upd_ne h1, upd_ne h2]
    rw [e]
    exact k dx n ne
/-- an own error class with two fields, as the top leaves it -/
structure Err2 (P : Program) (w : World) (K : PySem.W.Frag) (mg : Str → Option Value) (base : Heap) (x f g : Str) (C fI : Addr) (fd : FuncData) : Prop where
  T : OexC K C
  iC : PySem.W.findIn K (.ref C) "__init__" = some (some (.ref fI))
  tI : PySem.W.typeIn K (.ref fI) = some (.type "function")
  F : FnOk P w K mg base CX0 1 fI fd ["self", f, g] (spInit2 K f g)
  b : Binds K fd ["self", f, g] []
  gl : mg x = some (.ref C)
  no : PySem.W.findIn K (.ref C) f = some none
  no2 : PySem.W.findIn K (.ref C) g = some none
end
/-- raise X(e, e2) -/
def tRaise2 (K : PySem.W.Frag) (C : Addr) (f g : Str) (W : WX) (te te2 : TE) : TS := fun _ σ H => tMkO C (spInit2 K f g) [] (tCons te (tCons te2 tNil)) σ H fun cls d H' => W cls d σ H'
theorem raise2_of {K : PySem.W.Frag} {C : Addr} {f g : Str} {W : WX} {σ : L2.St} {H1 : Hp} {v u : V} (T : OexC K C) (no : PySem.W.findIn K (.ref C) f = some none) (no2 : PySem.W.findIn K (.ref C) g = some none) (h : ∀ d, H1 d = none → W (.ref C) (some d) σ (upd H1 d (.xd [(g, u), (f, v)]))) :
    tNil σ H1 fun xs H2 => (v :: u :: xs).length ≤ 1000 ∧ ∀ a, H2 a = none → spInit2 K f g (.ref a :: ((v :: u :: xs) ++ [])) (upd H2 a (exo a C none))
      (fun z H3 => z = .non ∧ ∃ (d : Addr) (fs : List (Str × V)), H3 a = some (exo a C (some d)) ∧ H3 d = some (exd d fs) ∧ H2 d = none ∧ W (.ref C) (some d) σ (upd (del H3 a) d (.xd fs))) (fun _ _ _ => False) := by
  refine ⟨by show 2 ≤ 1000; decide, fun a ha => ⟨a, C, v, u, rfl, T, no, no2, upd_same, fun dx nd ne => ?_⟩⟩
  rw [upd_ne ne] at nd
  refine ⟨rfl, dx, [(g, u), (f, v)], upd_same, ?_, nd, ?_⟩
  · rw [upd_ne ne, upd_same]
  · rw [del_back ha ne]
    exact h dx nd
theorem ps_raise2 {X : Cx} {W : WX} {x f g : Str} {C fI : Addr} {fd : FuncData} {e e2 : Expr} {te te2 : TE} {p p2 pos : Pos} (hc : X.calm = true) (tk : Takes X W) (R : Err2 X.prog X.w X.K X.mg X.base x f g C fI fd) (hr : Room 2 X.A) (hg : Gl X x) (he : PE X e te) (he2 : PE X e2 te2)
    (hx : Passes CX0 X (fun _ _ _ => False) := by exact pass0) (hs2 : starEach [e2] X.env = [(false, eval e2 X.env)] := by rfl) (hs : starEach [e, e2] X.env = (false, eval e X.env) :: starEach [e2] X.env := by rfl) (hdb : (x == ("__debug__" : Str)) = false := by decide)
    (hpl : (backTo p2 (starEach [e2] X.env)).any (·.1) = false := by rfl) :
    PS X (.Raise (some (.Call (.Name x p) [e, e2] [] p2)) none pos) (tRaise2 X.K C f g W te te2) :=
  ps_raise (pos := pos) hc tk (pmk_oex (p := p) (pos := p2) R.T R.iC R.tI R.F hr R.b .nil hx hg R.gl (pa_cons he (pa_cons he2 pa_nil hs2) hs) hdb hs hpl)
end OB
/-! == and != of an own object with any value, by the class's own __eq__, with both answers. -/
namespace OB
open PySem PySem.Spec PyProof.Rows L2
section
variable {X : Cx} {n : Nat} {A : Around} {pins : List (Addr × Obj)} {σ : L2.St} {H : Hp} {s : Shared}
theorem sub_run {CX : CXT} {f : Addr} {fd : FuncData} {ps : List Str} {sp : Sp} {E : XK} {Q : VK} {us : List Value} {vs : List V} (F : FnOk X.prog X.w X.K X.mg X.base CX n f fd ps sp) (hb : L2.Binds X.K fd ps []) (hx : Passes CX X E)
    (sb : Sub X n A) (I : Inv X pins σ H s) (r : Vals vs us) (h : sp vs H Q E) : wpAny (model X.prog X.w) A (call (.ref f) us) (EP X pins σ Q) X.xe s := by
  have e0 : Env0 X.prog X.w X.K X.mg X.base A X.stack s H := by
    have e := I.env0
    exact ⟨by rw [sb.fr]; exact e.frames, e.mod, e.bs, e.bsz, e.funs, e.frf, e.hok, e.bare⟩
  have hl := F.len _ _ _ _ h
  have hl2 : us.length = ps.length := by rw [← r.length]; exact hl
  refine wpAny_call (codeAny_mono (F.run A X.stack s H ⟨us, []⟩ us vs Q E sb.room e0 (by
    have := hb s us I.kIn (by simpa using hl2)
    simpa using this) r h) fun r s' hq => ?_)
  cases r with
  | error e => exact hx pins σ H s e s' I hq
  | ok fl =>
    cases fl with
    | ret w =>
      obtain ⟨z, H', I', rz, q⟩ := I.after hq
      exact ⟨z, H', I', rz, q⟩
    | next => exact False.elim hq
    | brk => exact False.elim hq
    | cont => exact False.elim hq
end
/-- of the two the left one is asked first -/
def NotFirst (K : PySem.W.Frag) (C : Addr) (y : V) (H : Hp) : Prop := (∃ b dy gs, y = .ref b ∧ H b = some (.ins C dy gs)) ∨ (∃ b xs, y = .ref b ∧ SqT K H b xs ∧ PySem.W.subIn K (.type "tuple") (.ref C) = some false)
section
variable {X : Cx} {pins : List (Addr × Obj)} {σ : L2.St} {H : Hp} {s : Shared}
theorem nf_looks {C : Addr} {y : V} {v : Value} (I : Inv X pins σ H s) (ry : RelV y v) (h : NotFirst X.K C y H) : ∃ tb, PySem.W.Looks (model X.prog X.w) s.heap (typeOf v) tb ∧ PySem.W.notFirst X.K C tb = true := by
  rcases h with ⟨b, dy, gs, rfl, hb⟩ | ⟨b, xs, rfl, hb, hs⟩
  · cases (show v = Value.ref b from ry)
    obtain ⟨mB, J, _⟩ := ins_get I.hok hb
    obtain ⟨od, J, _⟩ := J.look
    exact ⟨.ref C, J.type, by simp [PySem.W.notFirst]⟩
  · cases (show v = Value.ref b from ry)
    obtain ⟨its, r, ⟨o, ho, hc, _⟩, z⟩ := I.tuple hb
    refine ⟨.type "tuple", hc ▸ (PySem.W.Looks.ld (part := none) ho).andThen .now, ?_⟩
    unfold PySem.W.notFirst
    rw [hs]
    simp
end
section
variable {prog : Program} {w : World} {A : Around} {E : Value → Shared → Prop} {s : Shared} {K : PySem.W.Frag} {x C L f : Addr} {h₀ : Heap} {m : Str → Option Value} {ox : Obj} {od : Option Obj} {name : Str} {b tb : Value}
open PySem.W PySem.Builtin in
theorem ifBound_bi {M : Model} {id : String} {args : List Value} {Q : Option Value → Shared → Prop} (X : K.In s.heap) (I : InstAt s.heap x ox C od) (hs : findIn K (.ref C) name = some (some (.builtin id)))
    (hb : ∀ self, bindSpecial (.builtin id) self = pure (.builtin id, [self])) (h : wpAny M A (call (.builtin id) (.ref x :: args)) (fun v => Q (some v)) E s) : wpAny M A (callSpecialIfBound? (.ref x) name args) Q E s := by
  simp only [callSpecialIfBound?, bindSpecialIfBound?]
  refine wpAny_holding (wpAny_bind (wpAny_bind (wpAny_bind (I.type.here ((looks_findIn X hs).here ?_)))))
  refine wpAny_bind (wpAny_askSetting (wpAny_ite ?_))
  have fin : wpAny M A (call (.builtin id) ([.ref x] ++ args) >>= fun v => pure (some v)) Q E s := wpAny_bind (wpAny_mono h (fun v s' h' => wpAny_pure h') fun _ _ h' => h')
  split
  · exact wpAny_bind ((Looks.of_pure (hb _)).here (wpAny_pure (by exact fin)))
  · exact wpAny_tryCatch (wpAny_bind ((Looks.of_pure (hb _)).here (wpAny_pure (by exact fin))))
open PySem.W PySem.Builtin in
theorem cmp_ne {Q : Value → Shared → Prop} (hu : A.units + 1 < cLine) (hu1 : A.in1.units < cLine) (F : Fr h₀ L s.heap m) (X₀ : K.In h₀) (I : InstAt s.heap x ox C od) (hb : Looks (model prog w) s.heap (typeOf b) tb) (hn : notFirst K C tb = true)
    (hne : findIn K (.ref C) "__ne__" = some (some (.builtin "object.__ne__"))) (hm : mroIn K C (.type "object") = some true)
    (hs : findIn K (.ref C) "__eq__" = some (some (.ref f))) (hf : isFn K (.ref f) = true)
    (h : wpAny (model prog w) A.in1 (call (.ref f) [.ref x, b]) (fun v s' => ∃ k, v = .bool k ∧ Q (.bool (!k)) s') E s) : wpAny (model prog w) A (richCompare .NotEq (.ref x) b) Q E s := by
  have X := X₀.keeps F.keep
  have body : wpAny (model prog w) A (call (.builtin "object.__ne__") [.ref x, b]) (fun v s' => ∃ k, v = .bool k ∧ Q v s') E s := by
    refine wpAny_call (codeAny_call_builtin PySem.F.slot_object_ne.plain PySem.F.entry_object_ne (check_slot (i := "object.__ne__") (owner := "object") (n := "__ne__") (by decide +kernel) (by decide +kernel) (I.type.andThen (looks_mroIn X hm)) (PySem.F.args_object_ne_2 _ _) ?_))
    unfold Builtin.«object.__ne__»
    refine wpAny_bind (m := slotArgs "__ne__" 1 _) (wpAny_pure ?_)
    refine wpAny_bind (m := cRoomFor _ _) (wpAny_cRoomFor hu1 ?_)
    refine wpAny_bind (m := callSpecialIfBound? (.ref x) (Str.ofString "__eq__") _) (ifBound_K X I hs hf (wpAny_mono h (fun r s' hq => ?_) fun _ _ y => y))
    obtain ⟨k, rfl, q⟩ := hq
    refine wpAny_bind (m := truthy (.bool k)) (wpAny_truthy_bool ?_)
    exact wpAny_pure ⟨!k, rfl, q⟩
  have one : wpAny (model prog w) A (tryCompare (.ref x) (cmpInfo .NotEq).2.1 b) (fun r s' => ∃ v, r = some v ∧ Q v s') E s := by
    unfold tryCompare
    refine wpAny_bind (ifBound_bi X I hne PySem.F.slot_object_ne.bind (wpAny_mono body (fun v s' hv => ?_) fun _ _ e => e))
    obtain ⟨k, rfl, q⟩ := hv
    exact wpAny_pure ⟨_, rfl, q⟩
  unfold richCompare
  simp only [oneThing_ref]
  refine wpAny_holding (wpAny_bind (wpAny_cRoomFor (Nat.lt_of_succ_lt hu) ?_))
  refine wpAny_bind (I.type.here (wpAny_bind (hb.here ?_)))
  split
  · rename_i q
    have e : subIn K tb (.ref C) = some false := by
      rcases Bool.or_eq_true_iff.mp hn with e | e
      · rw [beq_iff_eq.mp e] at q; simp at q
      · exact beq_iff_eq.mp e
    refine wpAny_bind ((looks_subIn X e).here ?_)
    simp only [Bool.false_eq_true, if_false]
    refine wpAny_bind (wpAny_mono one (fun r s' z => ?_) fun _ _ e => e)
    obtain ⟨v, rfl, hq⟩ := z
    exact wpAny_pure hq
  · refine wpAny_bind (wpAny_pure ?_)
    simp only [Bool.false_eq_true, if_false]
    refine wpAny_bind (wpAny_mono one (fun r s' z => ?_) fun _ _ e => e)
    obtain ⟨v, rfl, hq⟩ := z
    exact wpAny_pure hq
end
/-- a class's own ==: where its def stands, and that != is the usual one -/
structure OwnEqC (K : PySem.W.Frag) (C f : Addr) : Prop where
  eq : PySem.W.findIn K (.ref C) "__eq__" = some (some (.ref f))
  fn : PySem.W.isFn K (.ref f) = true
  ne : PySem.W.findIn K (.ref C) "__ne__" = some (some (.builtin "object.__ne__"))
  ob : PySem.W.mroIn K C (.type "object") = some true
def rEqO (K : PySem.W.Frag) (C : Addr) (sp : Sp) (E : XK) : R2 := fun x y H Q => ∃ a dx fs, x = .ref a ∧ H a = some (.ins C dx fs) ∧ NotFirst K C y H ∧ sp [x, y] H (fun v H' => ∃ b, v = .bl b ∧ Q (.bl b) H') E
def rNeO (K : PySem.W.Frag) (C : Addr) (sp : Sp) (E : XK) : R2 := fun x y H Q => ∃ a dx fs, x = .ref a ∧ H a = some (.ins C dx fs) ∧ NotFirst K C y H ∧ sp [x, y] H (fun v H' => ∃ b, v = .bl b ∧ Q (.bl (!b)) H') E
section
variable {X : Cx} {n : Nat} {CX : CXT} {C f : Addr} {fd : FuncData} {ps : List Str} {sp : Sp} {E : XK}
theorem op_eqO (F : FnOk X.prog X.w X.K X.mg X.base CX n f fd ps sp) (O : OwnEqC X.K C f) (hb : L2.Binds X.K fd ps []) (hx : Passes CX X E) (hr : Room n X.A) : OpR X (compareOp .Eq) (rEqO X.K C sp E) := by
  intro pins s σ H x y v u Q I rx ry hq
  obtain ⟨a, dx, fs, rfl, ha, nf, h⟩ := hq
  cases (show v = Value.ref a from rx)
  obtain ⟨mA, J, _⟩ := ins_get I.hok ha
  obtain ⟨od, J, _⟩ := J.look
  obtain ⟨m, hF⟩ := I.fr
  obtain ⟨tb, L, nf⟩ := nf_looks I ry nf
  show wpAny (model X.prog X.w) X.A (richCompare .Eq (.ref a) u) (EP X pins σ Q) X.xe s
  refine PySem.W.cmp_K (op := .Eq) hr.units0 hF I.ok.mod.kin J L nf O.eq O.fn ?_
  refine wpAny_mono (sub_run F hb hx ⟨hr, rfl⟩ I (Paired.cons (show L2.RelV (.ref a) (.ref a) from rfl) (.cons ry .nil)) h) (fun r s' q => ?_) fun _ _ z => z
  obtain ⟨z, H', I', rz, b, rfl, q⟩ := q
  cases rz
  exact ⟨.bl b, H', I', rfl, q⟩
theorem op_neO (F : FnOk X.prog X.w X.K X.mg X.base CX n f fd ps sp) (O : OwnEqC X.K C f) (hb : L2.Binds X.K fd ps []) (hx : Passes CX X E) (hr : Room (n + 1) X.A) : OpR X (compareOp .NotEq) (rNeO X.K C sp E) := by
  intro pins s σ H x y v u Q I rx ry hq
  obtain ⟨a, dx, fs, rfl, ha, nf, h⟩ := hq
  cases (show v = Value.ref a from rx)
  obtain ⟨mA, J, _⟩ := ins_get I.hok ha
  obtain ⟨od, J, _⟩ := J.look
  obtain ⟨m, hF⟩ := I.fr
  obtain ⟨tb, L, nf⟩ := nf_looks I ry nf
  show wpAny (model X.prog X.w) X.A (richCompare .NotEq (.ref a) u) (EP X pins σ Q) X.xe s
  refine cmp_ne (by have := hr.units; omega) hr.in1.units0 hF I.ok.mod.kin J L nf O.ne O.ob O.eq O.fn ?_
  refine wpAny_mono (sub_run F hb hx ⟨hr.in1, rfl⟩ I (Paired.cons (show L2.RelV (.ref a) (.ref a) from rfl) (.cons ry .nil)) h) (fun r s' q => ?_) fun _ _ z => z
  obtain ⟨z, H', I', rz, b, rfl, q⟩ := q
  cases rz
  exact ⟨b, rfl, .bl (!b), H', I', rfl, q⟩
end
end OB
/-! Static methods off a class, str of an own object by its own __str__, making by keywords alone. -/
namespace OB
open PySem PySem.Spec PyProof.Rows L2 ClX
/-- C.m is a static method: its record at p, its def at g -/
structure CStat (K : PySem.W.Frag) (C : Addr) (mc : Value) (m : Str) (p g : Addr) : Prop where
  at_ : PySem.W.findCls K (.ref C) mc m = some (.get (.builtin "staticmethod.__get__") (.ref p) .none (.ref C))
  rc : ∃ rest, PySem.W.recIn K p "staticmethod" = some (.ref g :: rest)
  kp : PySem.W.keepIn K (.ref g) = true
/-- e.m(..), e the class at C -/
def tSMeth (C : Addr) (sp : Sp) (E : XK) (ta : TE) (t : TA) : TE := fun σ H Q => ta σ H fun x H1 => x = .ref C ∧ t σ H1 fun vs H2 => sp vs H2 Q E
def tSMethK (C : Addr) (sp : Sp) (gV : List V → List V → List V) (E : XK) (ta : TE) (tk : TA) : TE := fun σ H Q => ta σ H fun x H1 => x = .ref C ∧ tk σ H1 fun zs H2 => sp (gV [] zs) H2 Q E
section
variable {X : Cx} {pins : List (Addr × Obj)} {σ : L2.St} {H : Hp} {s : Shared} {C p g : Addr} {mc : Value} {m : Str} {A : Around} {E : Value → Shared → Prop}
theorem getmethsm_ok {pl : Sem Bool} {Q : Value × List Value → Shared → Prop} (I : Inv X pins σ H s) (r : CRead X.K C mc) (k : CStat X.K C mc m p g)
    (h : ∀ s', Inv X pins σ H s' → Q (.ref g, []) s') : wpAny (model X.prog X.w) A (getMethod (.ref C) m pl) Q E s := by
  obtain ⟨rest, hp⟩ := k.rc
  exact PySem.W.method_cls I.kIn r.ga (PySem.W.cls_bind I.kIn r.rd k.at_ (wpAny_call (PySem.W.sm_get (s := { s with toks := s.toks + 1 }) I.kIn hp (PySem.W.handed_on rfl (h _ (I.tok _))))))
end
section
variable {X : Cx} {CX : CXT} {k : Nat} {C p g : Addr} {fd : FuncData} {ps ks : List Str} {mc : Value} {sp : Sp} {E : XK} {o e : Expr} {es : List Expr} {kws : List Keyword} {m : Str} {pos apos : Pos} {ta : TE} {t tk : TA} {pl : Sem Bool} {gg : List Value → List Value → List Value} {gV : List V → List V → List V}
theorem pe_smeth (he : PE X o ta) (r : CRead X.K C mc) (c : CStat X.K C mc m p g) (F : FnOk X.prog X.w X.K X.mg X.base CX k g fd ps sp) (hr : Room k X.A) (hb : L2.Binds X.K fd ps []) (hx : Passes CX X E) (ha : PA X (e :: es) t)
    (hst : starEach (e :: es) X.env = (false, eval e X.env) :: starEach es X.env := by rfl) (hpl : (backTo pos (starEach es X.env)).any (·.1) = false := by rfl)
    (ht : eval (.Call (.Attribute o m apos) (e :: es) [] pos) X.env = (do
      let ov ← eval o X.env
      standAt apos.atName
      let (f, first) ← holding [ov] (getMethod ov m pl)
      callWith pos f first (backTo pos (starEach (e :: es) X.env)) (backToKw pos (keywordEach [] X.env))) := by rfl) :
    PE X (.Call (.Attribute o m apos) (e :: es) [] pos) (tSMeth C sp E ta t) := by
  refine ⟨fun pins s σ H Q I h => ?_⟩
  refine PySem.W.methodCall_KW (pl := pl) (thn (he.run pins s σ H _ I h) fun u s1 ⟨x, H1, I1, rx, ex, q⟩ => ?_) ht
  subst ex
  obtain rfl : u = Value.ref C := rx
  refine getmethsm_ok I1 r c fun s2 I2 => ?_
  refine PySem.W.callWith_K (h₀ := X.base) (first := []) I.ok.mod.kin c.kp (thn (ha.run pos pins s2 σ H1 _ I2 q) fun us s3 ⟨vs, H2, I3, rv, q2⟩ => ⟨I3.kIn, ?_⟩) hst hpl
  exact run_fn F hr hb .nil hx I3 rv (by rw [List.append_nil]; exact q2)
theorem pe_smethK (he : PE X o ta) (r : CRead X.K C mc) (c : CStat X.K C mc m p g) (F : FnOk X.prog X.w X.K X.mg X.base CX k g fd ps sp) (hr : Room k X.A) (hb : KBinds X.K fd ps ks gg gV) (hx : Passes CX X E) (hkw : PK X kws tk)
    (hall : (backToKw pos (keywordEach kws X.env)).all (·.1.isSome) = true := by rfl) (hks : (backToKw pos (keywordEach kws X.env)).filterMap (·.1) = ks := by rfl)
    (hpl : ((backTo pos (starEach [] X.env)).any (·.1) || (backToKw pos (keywordEach kws X.env)).any (·.1.isNone)) = false := by rfl)
    (ht : eval (.Call (.Attribute o m apos) [] kws pos) X.env = (do
      let ov ← eval o X.env
      standAt apos.atName
      let (f, first) ← holding [ov] (getMethod ov m pl)
      callWith pos f first (backTo pos (starEach [] X.env)) (backToKw pos (keywordEach kws X.env))) := by rfl) :
    PE X (.Call (.Attribute o m apos) [] kws pos) (tSMethK C sp gV E ta tk) := by
  refine ⟨fun pins s σ H Q I h => ?_⟩
  refine PySem.W.methodCall_KW (pl := pl) (thn (he.run pins s σ H _ I h) fun u s1 ⟨x, H1, I1, rx, ex, q⟩ => ?_) ht
  subst ex
  obtain rfl : u = Value.ref C := rx
  refine getmethsm_ok I1 r c fun s2 I2 => ?_
  refine PySem.W.callWith_KW0 (h₀ := X.base) I.ok.mod.kin c.kp hall ?_ hpl
  refine thn (hkw.run pos pins s2 σ H1 _ I2 q) fun ws s3 ⟨zs, H2, I3, rz, q2⟩ => ⟨I3.kIn, ?_⟩
  rw [hks]
  exact run_fnk (us := []) F hr hb hx I3 .nil rz q2
end
/-- how keywords alone bind, from how they bind at all -/
theorem kbn {K : PySem.W.Frag} {fd : FuncData} {ps ks : List Str} {g : List Value → List Value → List Value} {gV : List V → List V → List V} {n : Nat} (h : KBinds K fd ps ks g gV) (hl : ∀ us ws, us.length = n → ws.length = ks.length → (g us ws).length = ps.length) : KBn K fd ps n ks g gV :=
  ⟨fun s us ws X h1 h2 => h.to s us ws X (hl us ws h1 h2), h.rel⟩
/-- a class's own __str__ -/
structure OwnStrC (K : PySem.W.Frag) (C f : Addr) : Prop where
  st : PySem.W.findIn K (.ref C) "__str__" = some (some (.ref f))
  fn : PySem.W.isFn K (.ref f) = true
section
variable {prog : Program} {w : World} {A : Around} {E : Value → Shared → Prop} {s : Shared} {K : PySem.W.Frag} {x C f : Addr} {ox : Obj} {od : Option Obj}
open PySem.W PySem.Builtin PySem.Builtin.Str in
theorem str_own {Q : Value → Shared → Prop} (hu : A.in1.in1.units < cLine) (X : K.In s.heap) (I : InstAt s.heap x ox C od) (hs : findIn K (.ref C) "__str__" = some (some (.ref f))) (hf : isFn K (.ref f) = true)
    (h : wpAny (model prog w) A.in1.in1 (call (.ref f) [.ref x]) (StrBack Q) E s) : wpAny (model prog w) A (call (.type "str") [.ref x]) Q E s := by
  refine callType_codes (T := "str") (Bi := Builtin.«object.__init__») (Q₁ := fun r s₁ => ∃ y u, r = .str y u ∧ Q r s₁) PySem.F.called_str (PySem.F.typeCall_str_1 _) PySem.F.entry_object_init ?_ ?_
  · refine codeAny_of_tree ?_
    show wpAny _ A.in1.in1 (do checkBuiltinCall "str.__new__" ⟨[.type "str", .ref x], []⟩; again (.builtin "str.__new__" ⟨[.type "str", .ref x], []⟩)) _ _ s
    refine wpAny_bind (wpAny_of_eq (PySem.F.newCall_str_1 _) (wpAny_pure ⟨plainId_quiet (by decide +kernel) _, codeAny_builtin PySem.F.entry_str_new ?_⟩))
    rw [Around.under_plainId (by decide +kernel) _]
    rw [str_new_tree]
    refine wpAny_bind (wpAny_pure ?_)
    refine wpAny_bind (wpAny_of_eq isSubtype_str_str ?_)
    have key : wpAny (model prog w) A.in1.in1 (PySem.Builtin.Str.strOf (.ref x)) (fun r s₁ => ∃ y u, r = .str y u ∧ Q r s₁) E s := by
      unfold PySem.Builtin.Str.strOf
      rw [show isExactStr (.ref x) = false from rfl]
      refine wpAny_bind (m := cRoomFor _ _) (wpAny_cRoomFor hu ?_)
      refine wpAny_bind (m := callSpecial? (.ref x) (Str.ofString "__str__")) (special_fn X I hs (beq_iff_eq.mp hf) (wpAny_mono h (fun r s' z => ?_) fun _ _ y => y))
      cases r <;> first | exact z.elim | exact wpAny_pure ⟨_, _, rfl, z⟩
    exact wpAny_bind (wpAny_mono key (fun r s₁ hr => wpAny_pure hr) fun _ _ y => y)
  · rintro obj s₁ ⟨y, u, rfl, hq⟩
    exact ⟨typeIs_str _ _ _, PySem.F.args_object_init_2 _ _, object_init_meets PySem.F.called_str.init.lookup PySem.F.called_str.made (by decide) prog w A.in1 _ s₁ ⟨typeIs_str _ _ _, rfl, hq⟩⟩
end
/-- str(o), o an instance of the class at C -/
def rStrO (C : Addr) (sp : Sp) (E : XK) : List V → Hp → VK → Prop := fun xs H Q => ∃ a dx fs, xs = [.ref a] ∧ H a = some (.ins C dx fs) ∧ sp [.ref a] H (fun v H' => ∃ z, v = .str z ∧ Q (.str z) H') E
section
variable {X : Cx} {n : Nat} {CX : CXT} {C f : Addr} {fd : FuncData} {ps : List Str} {sp : Sp} {E : XK}
theorem call_strO (F : FnOk X.prog X.w X.K X.mg X.base CX n f fd ps sp) (O : OwnStrC X.K C f) (hb : L2.Binds X.K fd ps []) (hx : Passes CX X E) (hr : Room (n + 2) X.A) : CallR X (.type "str") (rStrO C sp E) := by
  intro pins s σ H xs us Q I r h
  obtain ⟨a, dx, fs, rfl, ha, h⟩ := h
  rw [Vals.ref1 r]
  obtain ⟨mA, J, _⟩ := ins_get I.hok ha
  obtain ⟨od, J, _⟩ := J.look
  refine str_own hr.in1.in1.units0 I.kIn J O.st O.fn ?_
  refine wpAny_mono (sub_run F hb hx ⟨hr.in1.in1, rfl⟩ I (Paired.cons (show L2.RelV (.ref a) (.ref a) from rfl) .nil) h) (fun r s' q => ?_) fun _ _ z => z
  obtain ⟨z, H', I', rz, y, rfl, q⟩ := q
  obtain ⟨t, rfl⟩ := (show ∃ t, r = Value.str y t from rz)
  exact ⟨.str y, H', I', ⟨_, rfl⟩, q⟩
end
end OB
/-! An own class, as the top leaves it; what an object of it is when it is asked for its kind. -/
namespace OB
open PySem PySem.Spec PyProof.Rows L2 ClX
structure OwnC (K : PySem.W.Frag) (mg : Str → Option Value) (x : Str) (C fI : Addr) : Prop where
  cl : Cls K C
  g : mg x = some (.ref C)
  made : Mk K C fI
  ha : PySem.W.findIn K (.ref C) "__class__" = some (some (.builtin "object.__class__"))
  hn : PySem.W.specialIn K (.builtin "object.__class__") "__get__" = some (some (.builtin "getset_descriptor.__get__"))
  ht : PySem.W.takesIn K (.builtin "object.__class__") = some true
  hm : PySem.W.mroIn K C (.type "object") = some true
  self : PySem.W.kitOne K (.ref C) (.ref C) = some true
  no : ∀ n ∈ ["NoneType", "int", "bool", "str", "list", "tuple", "dict"], PySem.W.kitOne K (.type n) (.ref C) = some false
  sT : PySem.W.subIn K (.type "tuple") (.ref C) = some false
section
variable {K : PySem.W.Frag} {mg : Str → Option Value} {x : Str} {C fI : Addr}
theorem OwnC.ty (Z : OwnC K mg x C fI) {H : Hp} {a dx : Addr} {fs : List (Str × V)} (e : H a = some (.ins C dx fs)) : TyX K H (.ref a) (.ref C) := .base (.ins e Z.cl Z.ha Z.hn Z.ht Z.hm)
/-- a value is no object of the class -/
def NotO (K : PySem.W.Frag) (C : Addr) (H : Hp) (y : V) : Prop := ∃ t, TyX K H y t ∧ PySem.W.kitOne K t (.ref C) = some false
theorem OwnC.non (Z : OwnC K mg x C fI) {H : Hp} : NotO K C H .non := ⟨_, .base .non, Z.no _ (by decide)⟩
theorem OwnC.int (Z : OwnC K mg x C fI) {H : Hp} (i : Int) : NotO K C H (.int i) := ⟨_, .base (.int i), Z.no _ (by decide)⟩
theorem OwnC.bl (Z : OwnC K mg x C fI) {H : Hp} (i : Bool) : NotO K C H (.bl i) := ⟨_, .base (.bl i), Z.no _ (by decide)⟩
theorem OwnC.str (Z : OwnC K mg x C fI) {H : Hp} (i : Str) : NotO K C H (.str i) := ⟨_, .base (.str i), Z.no _ (by decide)⟩
theorem OwnC.lst (Z : OwnC K mg x C fI) {H : Hp} {a : Addr} {xs : List V} (e : H a = some (.lst xs)) : NotO K C H (.ref a) := ⟨_, .base (.lst e), Z.no _ (by decide)⟩
theorem OwnC.tup (Z : OwnC K mg x C fI) {H : Hp} {a : Addr} {xs : List V} (e : H a = some (.tup xs)) : NotO K C H (.ref a) := ⟨_, .base (.tup e), Z.no _ (by decide)⟩
theorem OwnC.dK (Z : OwnC K mg x C fI) {H : Hp} {a : Addr} {xs : List (Key × V)} (e : H a = some (.dK xs)) : NotO K C H (.ref a) := ⟨_, .base (.dK e), Z.no _ (by decide)⟩
end
end OB
/-! A call by keywords alone that may raise. -/
namespace OB
open PySem PySem.Spec PyProof.Rows L2
section
variable {X : Cx} {CX : CXT} {k : Nat} {f : Addr} {fd : FuncData} {ps ks : List Str} {sp : Sp} {E : L2.St → XK} {x : Str} {p pos : Pos} {e : Expr} {es : List Expr} {kws : List Keyword} {t tk : TA} {g : List Value → List Value → List Value} {gV : List V → List V → List V}
def tCallKS (sp : Sp) (gV : List V → List V → List V) (E : L2.St → XK) (t tk : TA) : TE := fun σ H Q => t σ H fun vs H1 => tk σ H1 fun zs H2 => sp (gV vs zs) H2 Q (E σ)
theorem run_fnkS {pins : List (Addr × Obj)} {σ : L2.St} {H : Hp} {s : Shared} {Q : VK} {us ws : List Value} {vs zs : List V} {E : XK} (F : FnOk X.prog X.w X.K X.mg X.base CX k f fd ps sp) (hr : Room k X.A) (hb : KBinds X.K fd ps ks g gV) (hx : PassesAt CX X σ E)
    (I : Inv X pins σ H s) (r : Vals vs us) (rz : Vals zs ws) (h : sp (gV vs zs) H Q E) : wpAny (model X.prog X.w) X.A (call (.ref f) us (ks.zip ws)) (EP X pins σ Q) X.xe s := by
  have r2 := hb.rel r rz
  have hl : (g us ws).length = ps.length := r2.length ▸ F.len _ _ _ _ h
  refine wpAny_call (codeAny_mono (F.run X.A X.stack s H ⟨us, ks.zip ws⟩ (g us ws) (gV vs zs) Q E hr I.env0 (hb.to s us ws I.kIn hl) r2 h) fun res s' hq => ?_)
  match res, hq with
  | .error _, hq => exact hx pins H s _ s' I hq
  | .ok (.ret _), hq => exact I.after hq
theorem pe_callKoS (F : FnOk X.prog X.w X.K X.mg X.base CX k f fd ps sp) (hr : Room k X.A) (hg : Gl X x) (hm : X.mg x = some (.ref f)) (hk : PySem.W.keepIn X.K (.ref f) = true) (hb : KBinds X.K fd ps ks g gV) (hx : ∀ σ, PassesAt CX X σ (E σ))
    (hkw : PK X kws tk) (hall : (backToKw pos (keywordEach kws X.env)).all (·.1.isSome) = true := by rfl) (hks : (backToKw pos (keywordEach kws X.env)).filterMap (·.1) = ks := by rfl)
    (hdb : (x == ("__debug__" : Str)) = false := by decide)
    (hpl : ((backTo pos (starEach [] X.env)).any (·.1) || (backToKw pos (keywordEach kws X.env)).any (·.1.isNone)) = false := by rfl) :
    PE X (.Call (.Name x p) [] kws pos) (tCallKS sp gV E tNil tk) := by
  refine ⟨fun pins s σ H Q I h => wpAny_Call_Name_kw (ld_glob I hg hm ?_ hdb)⟩
  refine PySem.W.callWith_KW0 (h₀ := X.base) I.ok.mod.kin hk hall ?_ hpl
  refine thn (hkw.run pos pins s σ H _ I h) fun ws s2 ⟨zs, H2, I2, rz, q2⟩ => ⟨I2.kIn, ?_⟩
  rw [hks]
  exact run_fnkS (us := []) F hr hb (hx σ) I2 .nil rz q2
end
/-- some of a list, by their places -/
def pm {α : Type} : List Nat → List α → List α
  | [], _ => []
  | i :: r, l => match l[i]? with
    | some x => x :: pm r l
    | none => pm r l
theorem pm_vals {vs : List V} {us : List Value} (h : Vals vs us) : ∀ is, Vals (pm is vs) (pm is us)
  | [] => .nil
  | i :: r => by
    unfold pm
    cases e : vs[i]? with
    | none =>
      have e2 : us[i]? = none := by
        rw [List.getElem?_eq_none_iff] at e ⊢
        rw [← h.length]
        exact e
      rw [e2]
      exact pm_vals h r
    | some x =>
      obtain ⟨u, hu, ru⟩ := h.get e
      rw [hu]
      exact .cons ru (pm_vals h r)
/-- keywords alone, in any order -/
def kg {α : Type} (is : List Nat) : List α → List α → List α
  | [], ws => pm is ws
  | _ :: _, _ => []
theorem kg_vals {is : List Nat} {vs : List V} {us : List Value} {zs : List V} {ws : List Value} (h : Vals vs us) (r : Vals zs ws) : Vals (kg is vs zs) (kg is us ws) := by
  cases h with
  | nil => exact pm_vals r is
  | cons _ _ => exact .nil
/-- .. behind the object itself -/
def kg1 {α : Type} (is : List Nat) : List α → List α → List α
  | [x], ws => x :: pm is ws
  | _, _ => []
theorem kg1_vals {is : List Nat} {vs : List V} {us : List Value} {zs : List V} {ws : List Value} (h : Vals vs us) (r : Vals zs ws) : Vals (kg1 is vs zs) (kg1 is us ws) := by
  cases h with
  | nil => exact .nil
  | cons a b =>
    cases b with
    | nil => exact .cons a (pm_vals r is)
    | cons _ _ => exact .nil
end OB
/-! repr of a text; numbers as items of texts. -/
namespace OB
open PySem PySem.Spec PyProof.Rows L2
section
variable {X : Cx}
def rReprS : List V → Hp → VK → Prop := fun xs H Q => ∃ z : Str, xs = [.str z] ∧ z.length ≤ 1000000 ∧ (∀ c ∈ z.cps.toList, c < 16 ^ 8) ∧ Q (.str (reprText z)) H
theorem call_reprS : CallR X (.builtin "repr") rReprS := by
  intro pins s σ H xs us Q I r h
  obtain ⟨z, rfl, hz, hc, q⟩ := h
  obtain ⟨u, rfl, t, rfl⟩ := vals1 r
  refine PySem.P.repr_of_str ⟨.str _, H, I.tok _, ⟨_, rfl⟩, q⟩ ?_
  have := PySem.StrLaws.reprText_len z hc
  rw [sizeLine_eq]
  omega
end
/-- how a number from 0 on is written -/
def ds (n : Nat) : Str := toString (n : Int)
/-- what the small ones are like -/
theorem ds_small : ∀ n < 256, Txt.removeprefix (ds n) "-" = ds n ∧ Txt.isascii (ds n) = true ∧ Txt.isdigit (ds n) = true ∧ (ds n).length ≤ 3 ∧ (Txt.startswith (ds n) "0" = true → n = 0) ∧ PySem.intText? (ds n) = some (n : Int) ∧ ds n ≠ "-" ∧ (∀ c ∈ (ds n).cps.toList, c ≠ 32 ∧ c < 256) := by decide +kernel
end OB
/-! repr of nested data of None, truths, ints, texts, lists and tuples: a bound of its length that is reckoned part by part. -/
namespace OB
open PySem PySem.Spec PyProof.Rows L2
mutual
/-- a bound for the length of the text -/
def sz : PyData → Nat
  | .none => 4
  | .bool _ => 5
  | .int _ => 1921
  | .str x => 10 * x.length + 2
  | .list xs => szAll xs + 2
  | .tuple xs => szAll xs + 2
  | .dict _ => 0
def szAll : List PyData → Nat
  | [] => 0
  | x :: xs => sz x + 2 + szAll xs
end
mutual
/-- ints that are not too great, texts of signs; no dict -/
def nice : PyData → Bool
  | .none | .bool _ => true
  | .int i => decide (i.natAbs.log2 < 1920)
  | .str x => x.cps.toList.all fun c => decide (c < 1114112)
  | .list xs | .tuple xs => niceAll xs
  | .dict _ => false
def niceAll : List PyData → Bool
  | [] => true
  | x :: xs => nice x && niceAll xs
end
mutual
theorem nice_show : ∀ d, nice d = true → d.showable = true
  | .none, _ => by simp [PyData.showable]
  | .bool _, _ => by simp [PyData.showable]
  | .int _, h => by simpa [nice, PyData.showable] using h
  | .str _, _ => by simp [PyData.showable]
  | .list xs, h => by
    have := niceAll_show xs (by simpa [nice] using h)
    simpa [PyData.showable] using this
  | .tuple xs, h => by
    have := niceAll_show xs (by simpa [nice] using h)
    simpa [PyData.showable] using this
  | .dict _, h => by simp [nice] at h
theorem niceAll_show : ∀ ds, niceAll ds = true → PyData.showableAll ds = true
  | [], _ => by simp [PyData.showableAll]
  | x :: xs, h => by
    have h : nice x = true ∧ niceAll xs = true := by simpa [niceAll] using h
    have h1 := nice_show x h.1
    have h2 := niceAll_show xs h.2
    simp [PyData.showableAll, h1, h2]
end
mutual
theorem shown_sz : ∀ d, nice d = true → d.shown.length ≤ sz d
  | .none, _ => by decide +kernel
  | .bool b, _ => by cases b <;> decide +kernel
  | .int i, h => int_text_len_1921 (by simpa [nice] using h)
  | .str x, h => PySem.StrLaws.reprText_len x fun c hc => by
    have h : (x.cps.toList.all fun c => decide (c < 1114112)) = true := h
    have := of_decide_eq_true (List.all_eq_true.mp h c hc)
    have : (1114112 : Nat) < 16 ^ 8 := by decide
    omega
  | .list xs, h => by
    have a := shownAll_sz xs (by simpa [nice] using h)
    have b := list_len (PyData.shownAll xs)
    show (listText (PyData.shownAll xs)).length ≤ szAll xs + 2
    omega
  | .tuple xs, h => by
    have a := shownAll_sz xs (by simpa [nice] using h)
    have b := fmt_text (PyData.shownAll xs)
    show (tupleText (PyData.shownAll xs)).length ≤ szAll xs + 2
    omega
  | .dict _, h => by simp [nice] at h
theorem shownAll_sz : ∀ ds, niceAll ds = true → piled (PyData.shownAll ds) ≤ szAll ds
  | [], _ => Nat.le_refl _
  | x :: xs, h => by
    have h : nice x = true ∧ niceAll xs = true := by simpa [niceAll] using h
    have h1 := shown_sz x h.1
    have h2 := shownAll_sz xs h.2
    show piled (x.shown :: PyData.shownAll xs) ≤ sz x + 2 + szAll xs
    rw [piled_cons]
    omega
end
theorem nice_ints : ∀ ns : List Int, (∀ n ∈ ns, n.natAbs.log2 < 1920) → niceAll (ns.map PyData.int) = true
  | [], _ => by simp [niceAll]
  | n :: r, h => by
    have h1 := h n List.mem_cons_self
    have h2 := nice_ints r fun x hx => h x (List.mem_cons_of_mem _ hx)
    simp [niceAll, nice, h1, h2]
theorem sz_ints : ∀ ns : List Int, szAll (ns.map PyData.int) = 1923 * ns.length
  | [] => rfl
  | n :: r => by
    have := sz_ints r
    show 1921 + 2 + szAll (r.map PyData.int) = _
    rw [List.length_cons]
    omega
section
variable {X : Cx}
/-- repr of nested data -/
def rReprN (K : PySem.W.Frag) : List V → Hp → VK → Prop := fun xs H Q => ∃ (a : Addr) (d : PyData), xs = [.ref a] ∧ Dp K H (.ref a) d ∧ nice d = true ∧ d.canLay0 = true ∧ d.depth ≤ 60 ∧ sz d ≤ 16000000 ∧ Q (.str d.shown) H
theorem call_reprN (hgd : X.A.guards = some []) (hu : X.A.units + 64 < cLine) : CallR X (.builtin "repr") (rReprN X.K) := by
  intro pins s σ H xs us Q I r h
  obtain ⟨a, d, rfl, hd, hn, hl, hdp, hz, q⟩ := h
  refine call_reprD hgd hu pins s σ H _ us Q I r ⟨a, d, rfl, hd, nice_show d hn, hl, hdp, ?_, q⟩
  have := shown_sz d hn
  rw [sizeLine_eq]
  omega
end
end OB
/-! sorted(set(x)) of a list or a tuple of ints, doubles among them. -/
namespace OB
open PySem PySem.Spec PyProof.Rows L2 SrtO Builtin
section
variable {P : Program} {w : World} {A : Around} {E : Value → Shared → Prop} {s : Shared}
abbrev setObj (w : World) : Obj := { cls := .type "set", dict := none, data := .set #[] 0 (.fresh 0 0 (!w.params.followText "set-order")) }
set_option maxHeartbeats 6400000 in
/-- set(x), x a list of ints -/
theorem set_of_list {l : Addr} {items : Array Value} (ns : List Int) {Q : Value → Shared → Prop} (hh : A.handled = none) (hl : s.heap.IsList l items) (hit : IntsAre items.toList ns) (hb : ns.length + 1 < scanBound)
    (h : ∀ (h' : Heap) (tk c : Nat), SetR w h' s.heap.objs.size (fun j => decide (j ∈ ns)) c → c ≤ ns.length → (∀ b o, s.heap.get? b = some o → h'.get? b = some o) → Q (.ref s.heap.objs.size) { s with heap := h', toks := tk }) :
    wpAny (model P w) A (call (.type "set") [.ref l]) Q E s := by
  have sz : items.size = ns.length := by
    have q := IntsAre.length hit
    rwa [Array.length_toList] at q
  obtain ⟨c, tl, hmro⟩ := F.called_set.mro
  have f1 := F.called_set.made
  have f2 := F.called_set.sub
  refine wpAny_call (codeAny_of_tree ?_)
  show wpAny _ _ (callAny (.type "set") _) _ _ _
  refine wpAny_pure ⟨Code.quiet_builtin _ (by decide +kernel), codeAny_builtin F.entry_type_call ?_⟩
  rw [Around.under_plain (weight_type_call_type "set" [.ref l] []) rfl]
  have f3 := F.called_set.notType
  have f4 := F.called_set.canCreate
  have f5 := F.typeCall_set_1 (.ref l)
  repeat (any_goals (first | assumption | wp_step))
  refine codeAny_mono (code_set_led1 (.ref l) (E := E) (Q₁ := fun z t => z = .ref s.heap.objs.size ∧ t = { s with heap := s.heap.push (setObj w) }) ⟨rfl, rfl⟩) fun r s₁ hr => ?_
  cases r with
  | error e => exact hr
  | ok fl =>
    cases fl with
    | ret obj =>
      obtain ⟨rfl, rfl⟩ := hr
      have hS : (s.heap.push (setObj w)).get? s.heap.objs.size = some (setObj w) := Heap.get?_push_size _ rfl
      have hT : Shared.TypeIs { s with heap := s.heap.push (setObj w) } (.ref s.heap.objs.size) "set" := ⟨_, hS, rfl⟩
      have f6 := F.called_set.init.lookup
      have f7 := F.called_set.init.bind (.ref s.heap.objs.size)
      repeat (any_goals (first | assumption | wp_step))
      refine codeAny_mono (codeAny_call_builtin (R := wants (fun r t => r = .none ∧ ∃ h' tk c, t = { s with heap := h', toks := tk } ∧ SetR w h' s.heap.objs.size (fun j => decide (j ∈ ns)) c ∧ c ≤ ns.length ∧
          (∀ b o, s.heap.get? b = some o → h'.get? b = some o)) E) F.called_set.init.plain F.entry_set_init (check_set_init_1 hT ?_)) fun r₂ s₂ hr₂ => ?_
      · have hlt : l < s.heap.objs.size := by
          obtain ⟨o, e, _⟩ := hl
          exact Heap.lt_size e
        have hl1 : (s.heap.push (setObj w)).IsList l items := hl.push _
        have n1 := F.sub_list_set
        have n2 := F.sub_list_frozenset
        have n3 : (Value.type "list" == Value.type "dict") = false := by decide
        obtain ⟨ol, e0, cl, nl, dl⟩ := id hl1
        unfold Builtin.«set.__init__» noKeywords Builtin.Frozenset.updateFrom
        generalize hPI : pyIter = PI
        obtain ⟨oc, od, dt, os⟩ := ol
        simp only at cl dl
        subst cl dl
        wp_walk
        subst hPI
        refine wpAny_pyIter_list hl1 ?_
        refine wpAny_bind (wpAny_runValue ?_)
        have ne : l ≠ (s.heap.push (setObj w)).objs.size := by
          rw [Heap.size_push]
          exact Nat.ne_of_lt (Nat.lt_succ_of_lt hlt)
        have hSf : s.heap.objs.size ∉ [(s.heap.push (setObj w)).objs.size, l] := by
          rw [Heap.size_push]
          simp only [List.mem_cons, List.mem_singleton, List.not_mem_nil, or_false, not_or]
          exact ⟨Nat.ne_of_lt (Nat.lt_succ_self _), Nat.ne_of_gt hlt⟩
        have hval : ∀ (i : Nat) (v : Value), items[i]? = some v → ∃ k t, ns[i]? = some k ∧ v = .int k t := fun i v hv => by
          have hi : i < ns.length := by
            rw [← sz]
            exact (Array.getElem?_eq_some_iff.mp hv).1
          obtain ⟨t, e⟩ := PyProof.Rows.IntsAre.int_at hit i v (by rw [Array.getElem?_toList]; exact hv)
          refine ⟨ns[i], t, List.getElem?_eq_getElem hi, ?_⟩
          rw [e, List.getD_eq_getElem?_getD, List.getElem?_eq_getElem hi] <;> rfl
        have h3 : A.in1.in1.in1.handled = none := by simp [hh]
        refine set_update_ints ((Walks.list h3 _ l ne items).toS) s.heap.objs.size hSf ns sz hb hval (items.size - 0) 0 _ (by omega) (Nat.zero_le _) ⟨⟨_, Heap.get?_push_size _ rfl, rfl, rfl⟩, (hl1.push _)⟩ ⟨0, Nat.le_refl 0, setR_new_at (Heap.get?_push_of_some _ hS)⟩ ?_
        intro t c' hm hc' hS'
        obtain ⟨h', g2, d', tk', os'⟩ := t
        have eg : g2 = s.gens := hm.gens
        have ed : d' = s.drawn := hm.drawn
        have eo : os' = s.os := hm.os
        subst eg ed eo
        rw [sz] at hc'
        refine wpAny_pure (wpAny_pure ⟨rfl, h', tk', c', rfl, hS', hc', fun b o e => ?_⟩)
        have b0 : b < s.heap.objs.size := Heap.lt_size e
        refine hm.heap b o ?_ (Heap.get?_push_of_some _ (Heap.get?_push_of_some _ e))
        rw [Heap.size_push]
        simp only [List.mem_cons, List.mem_singleton, List.not_mem_nil, or_false, not_or]
        exact ⟨Nat.ne_of_lt b0, Nat.ne_of_lt (Nat.lt_succ_of_lt b0)⟩
      · cases r₂ with
        | error e => exact hr₂
        | ok fl₂ =>
          cases fl₂ with
          | ret r =>
            obtain ⟨rfl, h', tk, c', rfl, k1, k2, k3⟩ := hr₂
            repeat (any_goals (first | assumption | wp_step))
            exact h _ _ _ k1 k2 k3
          | _ => exact hr₂.elim
    | _ => exact hr.elim
/-- sorted(x), x a set of ints -/
theorem sorted_of_set {a : Addr} {S : Int → Bool} {n : Nat} {Q : Value → Shared → Prop} (R : SetR w s.heap a S n) (hh : A.handled = none)
    (hQ : ∀ s' p (out : Array Value) (c : Nat) (ns : List Int), (∀ b o, s.heap.get? b = some o → s'.heap.get? b = some o) → s'.gens = s.gens → s'.os = s.os → s.heap.objs.size ≤ p →
      s'.heap.get? p = some (seqObj "list" out c) → IntsAre out.toList ns → ns.Pairwise (· < ·) → (∀ k, k ∈ ns ↔ S k = true) → ns.length ≤ sizeLine → Q (.ref p) s') :
    wpAny (model P w) A (call (.builtin "sorted") [.ref a]) Q E s := by
  obtain ⟨o, es, ep, t, ho, hex, hd, g, nd, hm, hb, hf, hn, hr, hl⟩ := R
  refine Calls.call_function_entry kind_sorted plain_sorted entry_sorted (args_sorted1 _) ?_
  unfold Builtin.«sorted»
  refine wpAny_bind (m := checkCount "sorted" 1 1 _) (wpAny_pure ?_)
  refine wpAny_bind (collect_set (A := A.in1) hh ⟨o, ho, hex.1, hd⟩ hf hb hr hl fun s1 vs k1 hz g1 o1 pm => ?_)
  have vl : vs.length = n := by rw [pm.length_eq, List.length_map, Array.length_toList]; exact hn
  have sl : vs.length ≤ sizeLine := by
    rw [vl, ← hn]
    have : scanBound ≤ sizeLine := by decide +kernel
    omega
  have hI : IntsAre vs (vs.map Builtin.Re.reRawOf) := ints_of vs fun v hv => by
    obtain ⟨e, he, q⟩ := List.mem_map.mp (pm.mem_iff.mp hv)
    obtain ⟨k, tk, h1, _⟩ := g e he
    exact ⟨k, tk, by rw [← q]; exact h1⟩
  have pk : (vs.map Builtin.Re.reRawOf).Perm (es.toList.map keyOf) := by
    have q := pm.map Builtin.Re.reRawOf
    rwa [List.map_map] at q
  refine wpAny_bind (wpAny_newList ?_ sl)
  have hoL : (s1.heap.push (seqObj "list" vs.toArray 0)).get? s1.heap.objs.size = some (seqObj "list" vs.toArray 0) := Heap.get?_push_size _ rfl
  refine wpAny_bind (wpAny_holding (wpAny_call_entry slot_list_sort ⟨_, hoL, rfl⟩ entry_list_sort (list_sort_ord swo_int hoL sl (fun h2 => ints_sortable hI h2) fun out a1 a2 => ⟨_, rfl, ?_⟩) (args_list_sort _)))
  obtain ⟨i1, i2, i3⟩ := ints_out hI a1 a2
  obtain ⟨c, hc⟩ := sortedHeap_at (vs := vs) (out := out.toArray) hoL
  have pn : (out.map iv).Perm (es.toList.map keyOf) := i2.trans pk
  refine wpAny_pure ⟨_, rfl, hQ _ s1.heap.objs.size out.toArray c (out.map iv) (fun b u e => ?_) g1 o1 hz hc (by simpa using i1) (lt_of_le_nodup _ i3 (pn.nodup_iff.mpr nd)) (fun k => by rw [pn.mem_iff, ← hm k]) ?_⟩
  · have q := k1 b u e
    have hlt := Heap.lt_size q
    show (sortedHeap (s1.heap.push (seqObj "list" vs.toArray 0)) s1.heap.objs.size vs out.toArray).get? b = some u
    rw [sortedHeap_old (Nat.ne_of_lt hlt) (by rw [size_push']; exact Nat.lt_succ_of_lt hlt)]
    exact Heap.get?_push_of_some _ q
  · rw [i2.length_eq, List.length_map]
    exact sl
end
theorem sorted_set_ep {X : Cx} {pins : List (Addr × Obj)} {σ : L2.St} {H : Hp} {s : Shared} {a : Addr} {S : Int → Bool} {n : Nat} {Q : VK} (hc : X.calm = true) (I : Inv X pins σ H s) (R : SetR X.w s.heap a S n)
    (h : ∀ (ms : List Int) (q : Addr), ms.Pairwise (· < ·) → (∀ k, k ∈ ms ↔ S k = true) → H q = none → Q (.ref q) (upd H q (.lst (ms.map V.int)))) : wpAny (model X.prog X.w) X.A (call (.builtin "sorted") [.ref a]) (EP X pins σ Q) X.xe s := by
  refine sorted_of_set R (I.ok.hd hc) fun s' p out c ms k2 g o hp hg hi hs hm hl2 => ?_
  have hz : (ms.map V.int).length ≤ sizeLine := by rw [List.length_map]; exact hl2
  have hn : H p = none := I.hok.fresh hp
  have J : Inv X pins σ (upd H p (.lst (ms.map V.int))) { s with heap := s'.heap, gens := s'.gens, drawn := s'.drawn, toks := s'.toks } :=
    I.call (ch := []) (Un.laid k2 hp hn) (I.hok.laid k2 hp ⟨hz, out.toList, c, vals_of_ints hi, hg⟩) (by rw [g]; exact I.bare) (fun _ z => nomatch z)
  have e : s' = { s with heap := s'.heap, gens := s'.gens, drawn := s'.drawn, toks := s'.toks } := by
    cases s'
    cases s
    cases o
    rfl
  rw [e]
  exact ⟨.ref p, _, J, rfl, h ms p hs hm hn⟩
/-- the unlike ints of x, ascending -/
def tSortedSet (K : PySem.W.Frag) (ta : TE) : TE := fun σ H Q => ta σ H fun x H1 => ∃ (p : Addr) (ns : List Int), x = .ref p ∧ (SqL K H1 p (ns.map V.int) ∨ SqT K H1 p (ns.map V.int)) ∧ ns.length ≤ 2000 ∧
  ∀ (ms : List Int) (q : Addr), ms.Pairwise (· < ·) → (∀ k, k ∈ ms ↔ k ∈ ns) → H1 q = none → Q (.ref q) (upd H1 q (.lst (ms.map V.int)))
theorem pe_sortedSet {X : Cx} {a : Expr} {ta : TE} {p p2 q pos : Pos} (hg : Gl X "sorted") (hm : X.mg "sorted" = none) (hg2 : Gl X "set") (hm2 : X.mg "set" = none) (ha : PE X a ta) (hc : X.calm = true := by rfl)
    (na : starEach [a] X.env = (false, eval a X.env) :: starEach [] X.env := by rfl) : PE X (.Call (.Name "sorted" p) [.Call (.Name "set" p2) [a] [] q] [] pos) (tSortedSet X.K ta) := by
  refine ⟨fun pins s σ H Q I h => ?_⟩
  refine Call_ (ld_blt I hg hm boot_sorted ?_)
  refine PyProof.Rows.callWith_builtin1 (PyProof.Rows.args_cons ?_ rfl) rfl rfl
  refine Call_ (ld_blt I hg2 hm2 boot_set ?_)
  refine PyProof.Rows.callWith_type1 (PyProof.Rows.args_cons (thn (ha.run pins s σ H _ I h) fun v s1 ⟨x, H1, I1, r1, q1⟩ => PyProof.Rows.args_nil ?_) na) na rfl
  obtain ⟨l, ns, rfl, hq, hl, q1⟩ := q1
  cases r1
  have fin : ∀ (h' : Heap) (tk c : Nat), SetR X.w h' s1.heap.objs.size (fun j => decide (j ∈ ns)) c → (∀ b o, s1.heap.get? b = some o → h'.get? b = some o) →
      wpAny (model X.prog X.w) X.A (call (.builtin "sorted") [.ref s1.heap.objs.size]) (EP X pins σ Q) X.xe { s1 with heap := h', toks := tk } := by
    intro h' tk c R k
    have I2 : Inv X pins σ H1 { s1 with heap := h', toks := tk } := I1.kept fun b o e => k b o e
    exact sorted_set_ep hc I2 R fun ms q hs hm hn => q1 ms q hs (fun k => by rw [hm k, decide_eq_true_eq]) hn
  rcases hq with hq | hq
  · obtain ⟨its, r, pl, hz⟩ := I1.list hq
    exact set_of_list ns (I1.ok.hd hc) pl.isList (by simpa using ints_of_vals r) (by unfold scanBound; omega) fun h' tk c R1 hcn k => PyProof.Rows.args_nil (fin h' tk c R1 k)
  · obtain ⟨its, r, pt, hz⟩ := I1.tuple hq
    exact call_set_tupI ns (I1.ok.hd hc) (show s1.heap.IsTuple l its.toArray from pt) (ints_of_vals r) (by unfold scanBound; omega) fun h' tk c R1 hcn k => PyProof.Rows.args_nil (fin h' tk c R1 k)
end OB
namespace K32
open PySem PySem.Spec PyProof.Rows L2 OB SkE
def top (i : Nat) : Stmt := PySem.Challenge.pw_oneflip_k32_codes_of_fewest_bits.main.body.getD i (.Pass ⟨0, 0, 0, 0⟩)
abbrev s_init_BadNumber : Stmt := inClass (top 2) 0
abbrev s_init_BadCode : Stmt := inClass (top 3) 0
abbrev s_init_BadText : Stmt := inClass (top 4) 0
abbrev s_is_integer : Stmt := top 6
abbrev s_is_within : Stmt := top 7
abbrev s_need_number : Stmt := top 8
abbrev s_items_of : Stmt := top 11
abbrev s_integer_of : Stmt := top 12
abbrev s_item_at : Stmt := top 13
abbrev s_integer_at : Stmt := top 14
abbrev s_need_end : Stmt := top 15
abbrev s_Code_init : Stmt := inClass (top 21) 0
abbrev s_Code_eq : Stmt := inClass (top 21) 1
abbrev s_Code_str : Stmt := inClass (top 21) 2
abbrev s_Code_read : Stmt := inClass (top 21) 3
abbrev s_code_for : Stmt := top 22
abbrev s__law_well : Stmt := top 24
abbrev s__law_draw : Stmt := top 25
abbrev s__law_pick : Stmt := top 26
abbrev s__law_heard : Stmt := top 27
abbrev s__law_due : Stmt := top 28
abbrev s_law : Stmt := top 29
theorem sc_init_BadNumber : FnScope ["self", "part"] ["self", "part"] (defScope s_init_BadNumber) := ⟨rfl, rfl, rfl, by decide +kernel, rfl, by decide +kernel, by decide +kernel⟩
theorem sc_init_BadCode : FnScope ["self", "part"] ["self", "part"] (defScope s_init_BadCode) := ⟨rfl, rfl, rfl, by decide +kernel, rfl, by decide +kernel, by decide +kernel⟩
theorem sc_init_BadText : FnScope ["self", "line", "item"] ["self", "line", "item"] (defScope s_init_BadText) := ⟨rfl, rfl, rfl, by decide +kernel, rfl, by decide +kernel, by decide +kernel⟩
/-- what the module leaves as it is, and its own constants -/
structure Blt (mg : Str → Option Value) : Prop where
  g_MOST_DIGITS : ∃ t, mg "MOST_DIGITS" = some (.int 140 t)
  g_LEAST_BASE : ∃ t, mg "LEAST_BASE" = some (.int 2 t)
  g_MOST_BASE : ∃ t, mg "MOST_BASE" = some (.int 3 t)
  g_MOST_DOUBLES : ∃ t, mg "MOST_DOUBLES" = some (.int 199 t)
  g_MOST_VALUES : ∃ t, mg "MOST_VALUES" = some (.int 1606938044258990275541962092341162602522202993782792835301376 t)
  n_abs : mg "abs" = none
  n_bool : mg "bool" = none
  n_int : mg "int" = none
  n_isinstance : mg "isinstance" = none
  n_len : mg "len" = none
  n_max : mg "max" = none
  n_min : mg "min" = none
  n_range : mg "range" = none
  n_repr : mg "repr" = none
  n_str : mg "str" = none
section
variable {P : Program} {w : World} {K : PySem.W.Frag} {mg : Str → Option Value} {base : Heap}
/-! ### checks -/
theorem sc_is_integer : FnScope ["value"] ["value"] (defScope s_is_integer) := ⟨rfl, rfl, rfl, by decide +kernel, rfl, by decide +kernel, by decide +kernel⟩
theorem ok_is_integer {f : Addr} {fd : FuncData} (F : Fun K "is_integer" "is_integer" s_is_integer f fd) (T : Blt mg) : FnOk P w K mg base CX0 1 f fd ["value"] (spIsInt K) := by
  refine F.ok sc_is_integer (fun vs H Q E h => ?_) (fun cdv A outer s H vs Q E hr h => ?_)
  · obtain ⟨x, b, rfl, _⟩ := h
    rfl
  · obtain ⟨x, b, rfl, ⟨n, b1, b2, ty, e1, e2, e3⟩, k⟩ := h
    refine ⟨_, (pss_one (ps_ret (pe_and (pe_callB call_isi (by rfl) T.n_isinstance (by decide +kernel) (pa_cons (pv 0) (pa_cons (pe_bltn (v := .ty "int") (by rfl) T.n_int (by decide +kernel) rfl) pa_nil))) (pe_one (pe_not (pe_callB call_isi (by rfl) T.n_isinstance (by decide +kernel) (pa_cons (pv 0) (pa_cons (pe_bltn (v := .ty "bool") (by rfl) T.n_bool (by decide +kernel) rfl) pa_nil)))))))), ?_⟩
    refine ⟨x, rfl, x, .ty "int", .type n, .type "int", b1, rfl, .ty _, ty, kit_ty e1, b1, rfl, ?_⟩
    refine iteB (fun c => ?_) (fun c => ?_)
    · refine ⟨x, rfl, x, .ty "bool", .type n, .type "bool", b2, rfl, .ty _, ty, kit_ty e2, b2, rfl, ?_⟩
      rw [c] at e3
      rw [show (!b2) = b by rw [e3, Bool.true_and]]
      exact k
    · rw [c] at e3
      rw [show false = b by rw [e3, Bool.false_and]]
      exact k
theorem sc_is_within : FnScope ["value", "least", "most"] ["value", "least", "most"] (defScope s_is_within) := ⟨rfl, rfl, rfl, by decide +kernel, rfl, by decide +kernel, by decide +kernel⟩
theorem within_end {lo hi : Option Int} {x : V} {b : Bool} {Q : VK} {H : Hp} (hI : IsI K H x b) (k : Q (.bl (b && inB lo hi x)) H) (hb : b = true) : ∃ i, x = .int i ∧ Q (.bl (loOk lo i && hiOk hi i)) H := by
  subst hb
  obtain ⟨i, rfl⟩ := isI_true hI
  exact ⟨i, rfl, k⟩
theorem ok_is_within {f f1 : Addr} {fd fd1 : FuncData} (F : Fun K "is_within" "is_within" s_is_within f fd) (D_is_integer : Df K mg "is_integer" s_is_integer ["value"] f1 fd1) (T : Blt mg) : FnOk P w K mg base CX0 2 f fd ["value", "least", "most"] (spWithin K) := by
  have G_is_integer : FnOk P w K mg base CX0 1 f1 fd1 ["value"] (spIsInt K) := ok_is_integer D_is_integer.F T
  refine F.ok sc_is_within (fun vs H Q E h => ?_) (fun cdv A outer s H vs Q E hr h => ?_)
  · obtain ⟨x, lo, hi, b, rfl, _⟩ := h
    rfl
  · obtain ⟨x, lo, hi, b, rfl, hI, k⟩ := h
    refine ⟨_, (pss_cons (ps_if (pt_not (pt_val (pe_call G_is_integer (hr.mono (by decide)) (by rfl) D_is_integer.g D_is_integer.F.kp D_is_integer.b .nil pass0 (pa_cons (pv 0) pa_nil)))) (pss_one (ps_ret pe_bl)) pss_nil)
  (pss_one (ps_ret (pe_and (pe_or (pe_cmpR op_isN (pv 1) pe_non (nomark _)) (pe_one (pe_cmpR op_le (pv 1) (pv 0) (nomark _)))) (pe_one (pe_or (pe_cmpR op_isN (pv 2) pe_non (nomark _)) (pe_one (pe_cmpR op_le (pv 0) (pv 2) (nomark _))))))))), ?_⟩
    refine ⟨x, rfl, x, b, rfl, hI, b, rfl, ?_⟩
    cases b with
    | false => exact iteT k
    | true =>
      obtain ⟨i, rfl, k'⟩ := within_end hI k rfl
      clear k
      have k := k'
      clear k'
      refine iteF ?_
      refine ⟨_, rfl, rfl, _, rfl, ?_⟩
      cases lo with
      | none =>
        refine iteT ?_
        refine ⟨_, rfl, iteT ?_⟩
        refine ⟨_, rfl, rfl, _, rfl, ?_⟩
        cases hi with
        | none => exact iteT k
        | some h => exact iteF ⟨_, rfl, _, rfl, _, _, rfl, rfl, k⟩
      | some l =>
        refine iteF ?_
        refine ⟨_, rfl, _, rfl, _, _, rfl, rfl, _, rfl, ?_⟩
        refine iteB (fun c => ?_) (fun c => ?_)
        · refine ⟨_, rfl, rfl, _, rfl, ?_⟩
          have e : loOk (some l) i = true := c
          rw [e, Bool.true_and] at k
          cases hi with
          | none => exact iteT k
          | some h => exact iteF ⟨_, rfl, _, rfl, _, _, rfl, rfl, k⟩
        · have e : loOk (some l) i = false := c
          rw [e, Bool.false_and] at k
          exact k
/-! ### what raises -/
/-! ### what raises -/
theorem sc_need_number : FnScope ["value", "part", "least", "most"] ["value", "part", "least", "most"] (defScope s_need_number) := ⟨rfl, rfl, rfl, by decide +kernel, rfl, by decide +kernel, by decide +kernel⟩
theorem ok_need_number {f f1 f2 C fI : Addr} {fd fd1 fd2 fdI : FuncData} (F : Fun K "need_number" "need_number" s_need_number f fd) (D_is_within : Df K mg "is_within" s_is_within ["value", "least", "most"] f2 fd2) (D_is_integer : Df K mg "is_integer" s_is_integer ["value"] f1 fd1) (T : Blt mg)
    (R_BadNumber : Err P w K mg base "BadNumber" "part" C fI fdI) : FnOk P w K mg base (L2.CX P w) 4 f fd ["value", "part", "least", "most"] (spNeedNumber K C) := by
  have G_is_within : FnOk P w K mg base CX0 2 f2 fd2 ["value", "least", "most"] (spWithin K) := ok_is_within D_is_within.F D_is_integer T
  refine F.okX sc_need_number (fun vs H Q E h => ?_) (fun cdv A outer s H vs Q E hr h => ?_)
  · obtain ⟨x, part, lo, hi, b, rfl, _⟩ := h
    rfl
  · obtain ⟨x, part, lo, hi, b, rfl, hI, k1, k2⟩ := h
    refine ⟨_, (pss_one (ps_if (pt_not (pt_val (pe_call G_is_within (hr.mono (by decide)) (by rfl) D_is_within.g D_is_within.F.kp D_is_within.b .nil pass0 (pa_cons (pv 0) (pa_cons (pv 2) (pa_cons (pv 3) pa_nil)))))) (pss_one (ps_raise1 rfl (takes_of rfl rfl rfl rfl) R_BadNumber (hr.mono (by decide)) (by rfl) (pv 1))) pss_nil)), ?_⟩
    refine ⟨x, rfl, _, rfl, _, rfl, x, lo, hi, b, rfl, hI, _, rfl, ?_⟩
    refine iteB (fun c => ?_) (fun c => ?_)
    · have c' : (b && inB lo hi x) = false := by
        cases e : (b && inB lo hi x) with
        | false => rfl
        | true => rw [e] at c; cases c
      refine ⟨.str part, rfl, ?_⟩
      refine raise1_of (W := fun cls d _ H => E cls d H) R_BadNumber.T R_BadNumber.no ?_
      exact fun d hd => k2 c' d hd
    · have c' : (b && inB lo hi x) = true := by
        cases e : (b && inB lo hi x) with
        | true => rfl
        | false => rw [e] at c; cases c
      exact k1 c'
end
end K32
namespace K32
open PySem PySem.Spec PyProof.Rows L2 OB SkE
section
variable {P : Program} {w : World} {K : PySem.W.Frag} {mg : Str → Option Value} {base : Heap}
theorem cut60 (ns : List Int) : cutV (ns.map V.int) none (some 60) = (ns.take 60).map V.int := by
  unfold cutV
  have a : HT.sIx (ns.map V.int).length 0 none = 0 := rfl
  rw [a, List.drop_zero, Nat.sub_zero, List.map_take]
  have e : HT.sIx (ns.map V.int).length (ns.map V.int).length (some 60) = min 60 (ns.map V.int).length := HT.sIx_nat _ _ 60
  rw [e]
  by_cases h : (ns.map V.int).length ≤ 60
  · rw [Nat.min_eq_right h, List.take_length, List.take_of_length_le h]
  · rw [Nat.min_eq_left (by omega)]
theorem take_more {α : Type} {l : List α} {i : Nat} {x : α} (h : l[i]? = some x) : l.take (i + 1) = l.take i ++ [x] := by
  rw [List.take_add_one, h]
  rfl
theorem sc__law_well : FnScope ["script", "cell"] ["script"] (defScope s__law_well) := ⟨rfl, rfl, rfl, by decide +kernel, rfl, by decide +kernel, by decide +kernel⟩
abbrev N__law_well : List Str := ["script", "cell"]
theorem ok__law_well {f : Addr} {fd : FuncData} (F : Fun K "_law_well" "_law_well" s__law_well f fd) (T : Blt mg) : FnOk P w K mg base CX0 1 f fd ["script"] (spLot K) := by
  refine F.ok sc__law_well (fun vs H Q E h => ?_) (fun cdv A outer s H vs Q E hr h => ?_)
  · obtain ⟨a, ns, rfl, _⟩ := h
    rfl
  · obtain ⟨a, ns, rfl, hS, hl, k⟩ := h
    refine ⟨_, (pss_one (ps_ret (pe_lst (pa_cons (pe_lc (own := [("cell", 1)]) (g := (gName 1)) (tt := tYes) rfl sc__law_well.nd (pi_list (pe_slice sl_list (pv 0) po_none (po_some pe_int))) (blkOk_by (N := N__law_well) (own := [("cell", 1)]) (sc := defScope s__law_well) (by decide +kernel)) (fun _ _ _ _ _ => (pg_name (i := 1) sc__law_well.nd rfl (Or.inl rfl))) (fun _ _ _ _ _ => pts_nil) (fun _ _ _ _ _ => (pe_callTy call_int1 (by rfl) T.n_int (by decide +kernel) (pa_cons (pv 1) pa_nil)))) (pa_cons pe_int (pa_cons pe_int pa_nil)))))), ?_⟩
    refine ⟨_, rfl, _, rfl, a, _, rfl, hS, fun c hc => ?_⟩
    have e1 : cutV (ns.map V.int) none (some 60) = (ns.take 60).map V.int := cut60 ns
    rw [e1]
    have S0 : Same H (upd H c (.lst ((ns.take 60).map V.int))) := same_new hc
    refine ⟨c, rfl, ⟨_, .inl (.inl upd_same)⟩, fun b hb => ?_⟩
    have ncb : c ≠ b := ne_of_none upd_same hb
    refine lc_list (K := K) (a := c) (xs := (ns.take 60).map V.int) (fun i H' => Same (upd H c (.lst ((ns.take 60).map V.int))) H' ∧ H' b = some (.lst (((ns.take 60).map V.int).take i)))
      ⟨same_new hb, upd_same⟩ (fun i H' _ h => h.1.seq (.inl (.inl upd_same))) ?_ ?_
    · rintro i y H' hy ⟨S1, h1⟩
      obtain ⟨z, hz, rfl⟩ : ∃ z, (ns.take 60)[i]? = some z ∧ y = V.int z := by
        rw [List.getElem?_map] at hy
        cases e : (ns.take 60)[i]? with
        | none => rw [e] at hy; cases hy
        | some z => rw [e] at hy; exact ⟨z, rfl, (Option.some.inj hy).symm⟩
      refine ⟨rfl, _, rfl, .inl ⟨_, rfl, _, h1, ?_, ?_, ?_⟩⟩
      · refine small1000 ?_
        rw [List.length_take, List.length_map, List.length_take]
        omega
      · intro q o e
        have nb : q ≠ b := ne_of_none e hb
        rw [upd_ne nb]
        exact S1 q o e
      · rw [upd_same, ← List.map_take, ← List.map_take, take_more hz, List.map_append]
        rfl
    · rintro H' ⟨S1, h1⟩
      rw [List.take_length] at h1
      refine ⟨(by show 3 ≤ sizeLine; decide), fun p hp => ?_⟩
      have S2 : Same H H' := S0.trans S1
      have hb0 : H b = none := S0.free hb
      refine k p b _ (S2.free hp) hb0 ⟨ns.take 60, 0, 0, upd_same, ?_, Int.le_refl _, Int.le_refl _⟩ (S2.trans (same_new hp))
      rw [upd_ne (ne_of_none h1 hp)]
      exact h1
theorem sc__law_draw : FnScope ["well", "many", "left", "turn", "cell", "mixed"] ["well", "many"] (defScope s__law_draw) := ⟨rfl, rfl, rfl, by decide +kernel, rfl, by decide +kernel, by decide +kernel⟩
theorem ok__law_draw {f : Addr} {fd : FuncData} (F : Fun K "_law_draw" "_law_draw" s__law_draw f fd) (T : Blt mg) : FnOk P w K mg base CX0 1 f fd ["well", "many"] spDraw := by
  refine F.ok sc__law_draw (fun vs H Q E h => ?_) (fun cdv A outer s H vs Q E hr h => ?_)
  · obtain ⟨p, b, n, many, rfl, _⟩ := h
    rfl
  · obtain ⟨p, b, n, many, rfl, O, hn, hm, hm2, k⟩ := h
    obtain ⟨ns, t, l, hp, hb, ht, htn⟩ := id O
    have npb : p ≠ b := O.ne
    refine ⟨_, (pss_cons (ps_if (pt_cmpR op_gt (pe_ix ix_list (pv 0) pe_int (fun _ _ => rfl)) pe_int (nomark _)) (pss_cons (ps_set (i := 2) sc__law_draw.nd rfl (Or.inl rfl) (pe_callTy call_int1 (by rfl) T.n_int (by decide +kernel) (pa_cons (pe_ix ix_list (pv 0) pe_int (fun _ _ => rfl)) pa_nil)))
  (pss_cons (ps_asg (pe_op op_fdivW (pv 2) (pv 1)) (pg_sub (pv 0) pe_int set_list))
  (pss_one (ps_ret (pe_op op_mod (pe_callTy call_int1 (by rfl) T.n_int (by decide +kernel) (pa_cons (pv 2) pa_nil)) (pv 1)))))) pss_nil)
  (pss_cons (ps_set (i := 3) sc__law_draw.nd rfl (Or.inl rfl) (pe_ix ix_list (pv 0) pe_int (fun _ _ => rfl)))
  (pss_cons (ps_asg (pe_op op_add (pv 3) pe_int) (pg_sub (pv 0) pe_int set_list))
  (pss_cons (ps_set (i := 4) sc__law_draw.nd rfl (Or.inl rfl) (pe_op op_add (pe_op op_mul pe_int (pv 3)) pe_int))
  (C8.pss_cut (ps_if (pt_cmpR (op_neD hr.units) (pe_ix ix_list (pv 0) pe_int (fun _ _ => rfl)) (pe_lst pa_nil) (nomark _)) (pss_one (ps_set (i := 4) sc__law_draw.nd rfl (Or.inl rfl) (pe_ix ix_list (pe_ix ix_list (pv 0) pe_int (fun _ _ => rfl)) (pe_op op_mod (pe_callTy call_int1 (by rfl) T.n_int (by decide +kernel) (pa_cons (pv 3) pa_nil)) (pe_callB call_len_seq (by rfl) T.n_len (by decide +kernel) (pa_cons (pe_ix ix_list (pv 0) pe_int (fun _ _ => rfl)) pa_nil))) (fun _ _ => rfl)))) pss_nil)
  (pss_cons (ps_if (PW.pt (pw_and (pt_cmpR op_lt (pv 3) (pe_callB call_len_seq (by rfl) T.n_len (by decide +kernel) (pa_cons (pe_ix ix_list (pv 0) pe_int (fun _ _ => rfl)) pa_nil)) (nomark _)) (pw_and1 (pt_cmpR op_ge (pe_callB call_abs (by rfl) T.n_abs (by decide +kernel) (pa_cons (pv 4) pa_nil)) (pe_op op_pow pe_int pe_int) (nomark _))))) (pss_cons (ps_set (i := 2) sc__law_draw.nd rfl (Or.inl rfl) (pe_op op_add (pe_op op_mul pe_int (pe_op op_sub (pe_callB call_abs (by rfl) T.n_abs (by decide +kernel) (pa_cons (pe_callTy call_int1 (by rfl) T.n_int (by decide +kernel) (pa_cons (pv 4) pa_nil)) pa_nil)) (pe_op op_pow pe_int pe_int))) (pe_callTy call_int1 (by rfl) T.n_int (by decide +kernel) (pa_cons (pe_cmpR op_lt (pv 4) pe_int (nomark _)) pa_nil))))
  (pss_cons (ps_asg (pe_op op_fdivW (pv 2) (pv 1)) (pg_sub (pv 0) pe_int set_list))
  (pss_one (ps_ret (pe_op op_mod (pe_callTy call_int1 (by rfl) T.n_int (by decide +kernel) (pa_cons (pv 2) pa_nil)) (pv 1)))))) pss_nil)
  (pss_cons (ps_set (i := 5) sc__law_draw.nd rfl (Or.inl rfl) (pe_op op_mod (pe_callTy call_int1 (by rfl) T.n_int (by decide +kernel) (pa_cons (pe_op op_pow (pe_op op_add (pe_op op_add (pe_op op_mod (pe_callTy call_int1 (by rfl) T.n_int (by decide +kernel) (pa_cons (pv 4) pa_nil)) pe_int) (pe_op op_mul pe_int (pv 3))) pe_int) pe_int) pa_nil)) pe_int))
  (pss_cons (ps_set (i := 5) sc__law_draw.nd rfl (Or.inl rfl) (pe_op op_mod (pe_callTy call_int1 (by rfl) T.n_int (by decide +kernel) (pa_cons (pe_op op_pow (pe_op op_add (pe_op op_add (pe_op op_mul (pv 5) (pe_op op_add (pe_op op_mul pe_int (pv 3)) pe_int)) (pe_op op_mul (pe_op op_mul pe_int (pv 3)) (pv 3))) pe_int) pe_int) pa_nil)) pe_int))
  (pss_one (ps_ret (pe_op op_mod (pe_callTy call_int1 (by rfl) T.n_int (by decide +kernel) (pa_cons (pe_op op_fdiv (pv 5) pe_int) pa_nil)) (pv 1)))))))))))), ?_⟩
    -- quay[2] > 0
    refine ⟨_, rfl, p, _, _, _, rfl, rfl, SqL.of hp, rfl, _, _, rfl, rfl, _, rfl, ?_⟩
    refine ite2 (fun c => ?_) (fun c => ?_)
    · -- left = int(quay[2]); quay[2] = left // many; return int(left) % many
      refine ⟨_, rfl, p, _, _, _, rfl, rfl, SqL.of hp, rfl, .inl ⟨_, rfl, ?_⟩⟩
      refine ⟨_, rfl, _, rfl, _, _, rfl, rfl, wide_div hm hm2 (by decide) (by decide), _, rfl, p, _, _, _, rfl, rfl, hp, rfl, ?_⟩
      refine ⟨_, rfl, .inl ⟨_, rfl, _, rfl, _, _, rfl, rfl, hm, ?_⟩⟩
      refine k _ _ (Int.emod_nonneg _ (by omega)) (Int.emod_lt_of_pos _ hm) ⟨ns, t, _, upd_same, ?_, ht, by omega⟩ but_at
      rw [upd_ne npb.symm]
      exact hb
    · -- turn = quay[1]; quay[1] = turn + 1; cell = A * turn + B
      refine ⟨_, rfl, p, _, _, _, rfl, rfl, SqL.of hp, rfl, ?_⟩
      refine ⟨_, rfl, _, _, rfl, rfl, _, rfl, p, _, _, _, rfl, rfl, hp, rfl, ?_⟩
      refine ⟨_, rfl, _, _, rfl, rfl, .inl ⟨by decide, by decide⟩, _, _, rfl, rfl, ?_⟩
      -- quay[0] != []
      refine ⟨fun σ' H' => ∃ c0 : Int, σ' = [some (.ref p), some (.int many), none, some (.int t), some (.int c0), none] ∧ H' p = some (.lst [.ref b, .int (t + 1), .int l]) ∧ H' b = some (.lst (ns.map V.int)) ∧ But p H H', ?_, ?_⟩
      rotate_left
      · rintro σ' H' ⟨c0, rfl, hp2, hb2, S2⟩
        have ht2 : t ≤ 1000000 := by omega
        have fin : ∀ r : Int, 0 ≤ r → r < many → Q (.int r) H' := fun r h1 h2 => k r H' h1 h2 ⟨ns, t + 1, l, hp2, hb2, by omega, by omega⟩ S2
        have end_ : ∀ x : Int, Q (.int (x % many)) H' := fun x => fin _ (Int.emod_nonneg _ (by omega)) (Int.emod_lt_of_pos _ hm)
        refine ⟨_, rfl, _, rfl, p, _, _, _, rfl, rfl, SqL.of hp2, rfl, b, _, rfl, .inl (SqL.of hb2), _, _, rfl, rfl, _, rfl, ?_⟩
        refine ite2 (fun c1 => ?_) (fun c1 => ?_)
        · refine ⟨_, rfl, _, rfl, _, _, rfl, rfl, ⟨by decide, by decide, by decide⟩, _, _, rfl, rfl, _, rfl, ?_⟩
          refine ite2 (fun c2 => ?_) (fun c2 => ?_)
          · refine ⟨_, rfl, .inl ⟨_, rfl, _, rfl, _, _, rfl, rfl, ⟨by decide, by decide, by decide⟩, _, _, rfl, rfl, _, _, rfl, rfl, .inl ⟨by decide, by decide⟩, ?_⟩⟩
            refine ⟨_, rfl, _, _, rfl, rfl, .inr ⟨_, rfl, _, _, rfl, rfl, ?_⟩⟩
            refine ⟨_, rfl, _, rfl, _, _, rfl, rfl, wide_div hm hm2 (by decide) (by decide), _, rfl, p, _, _, _, rfl, rfl, hp2, rfl, ?_⟩
            refine ⟨_, rfl, .inl ⟨_, rfl, _, rfl, _, _, rfl, rfl, hm, ?_⟩⟩
            refine k _ _ (Int.emod_nonneg _ (by omega)) (Int.emod_lt_of_pos _ hm) ⟨ns, t + 1, _, upd_same, ?_, by omega, by omega⟩ (S2.trans but_at)
            rw [upd_ne npb.symm]
            exact hb2
          · refine ⟨_, rfl, .inl ⟨_, rfl, _, _, rfl, rfl, (by show (0 : Int) < _; decide), _, rfl, _, _, rfl, rfl, .inl ⟨by decide, by decide⟩, _, _, rfl, rfl, _, _, rfl, rfl, _, _, rfl, rfl, ⟨by decide, by decide, mix1 (by decide) (by decide) ht ht2 (by decide) (by decide) (by decide) (by decide)⟩, .inl ⟨_, rfl, _, _, rfl, rfl, (by show (0 : Int) < _; decide), ?_⟩⟩⟩
            refine ⟨_, rfl, _, rfl, _, _, rfl, rfl, .inl ⟨by decide, by decide⟩, _, _, rfl, rfl, _, _, rfl, rfl, .inl (mod_lim (by decide) (by decide)), _, rfl, _, _, rfl, rfl, .inl ⟨by decide, by decide⟩, _, rfl, _, _, rfl, rfl, .inr ⟨by omega, by omega⟩, _, _, rfl, rfl, _, _, rfl, rfl, _, _, rfl, rfl,
              ⟨by decide, by decide, mix2 (by decide) (by decide) ht ht2 (by decide) (by decide) (by decide) (by decide) (by decide) (by decide)⟩, .inl ⟨_, rfl, _, _, rfl, rfl, (by show (0 : Int) < _; decide), ?_⟩⟩
            exact ⟨_, rfl, _, _, rfl, rfl, ⟨by decide, by decide⟩, .inl ⟨_, rfl, _, rfl, _, _, rfl, rfl, hm, end_ _⟩⟩
        · refine ⟨_, rfl, .inl ⟨_, rfl, _, _, rfl, rfl, (by show (0 : Int) < _; decide), _, rfl, _, _, rfl, rfl, .inl ⟨by decide, by decide⟩, _, _, rfl, rfl, _, _, rfl, rfl, _, _, rfl, rfl, ⟨by decide, by decide, mix1 (by decide) (by decide) ht ht2 (by decide) (by decide) (by decide) (by decide)⟩, .inl ⟨_, rfl, _, _, rfl, rfl, (by show (0 : Int) < _; decide), ?_⟩⟩⟩
          refine ⟨_, rfl, _, rfl, _, _, rfl, rfl, .inl ⟨by decide, by decide⟩, _, _, rfl, rfl, _, _, rfl, rfl, .inl (mod_lim (by decide) (by decide)), _, rfl, _, _, rfl, rfl, .inl ⟨by decide, by decide⟩, _, rfl, _, _, rfl, rfl, .inr ⟨by omega, by omega⟩, _, _, rfl, rfl, _, _, rfl, rfl, _, _, rfl, rfl,
            ⟨by decide, by decide, mix2 (by decide) (by decide) ht ht2 (by decide) (by decide) (by decide) (by decide) (by decide) (by decide)⟩, .inl ⟨_, rfl, _, _, rfl, rfl, (by show (0 : Int) < _; decide), ?_⟩⟩
          exact ⟨_, rfl, _, _, rfl, rfl, ⟨by decide, by decide⟩, .inl ⟨_, rfl, _, rfl, _, _, rfl, rfl, hm, end_ _⟩⟩
      refine ⟨_, rfl, p, _, _, _, rfl, rfl, SqL.of upd_same, rfl, Nat.zero_le _, fun l0 hl0 => ?_⟩
      have hp1 : (upd (upd H p (.lst [.ref b, .int (t + 1), .int l])) l0 (.lst [])) p = some (.lst [.ref b, .int (t + 1), .int l]) := by
        rw [upd_ne (ne_of_none upd_same hl0), upd_same]
      have hb1 : (upd (upd H p (.lst [.ref b, .int (t + 1), .int l])) l0 (.lst [])) b = some (.lst (ns.map V.int)) := by
        have e : (upd H p (.lst [.ref b, .int (t + 1), .int l])) b = some (.lst (ns.map V.int)) := by
          rw [upd_ne npb.symm]
          exact hb
        rw [upd_ne (ne_of_none e hl0)]
        exact e
      have S1 : But p H (upd (upd H p (.lst [.ref b, .int (t + 1), .int l])) l0 (.lst [])) := but_at.trans (But.of (same_new hl0))
      refine ⟨.list (ns.map PyData.int), .list [], Dp.lst (SqL.of hb1) (dp_ints ns), Dp.lst (SqL.of upd_same) .nil, shaped_ints ns, shaped_ints [], _, rfl, ?_⟩
      rw [eqv_nil]
      refine ite2 (fun c => ?_) (fun c => ?_)
      · have c : ns ≠ [] := by simpa using c
        have hl : 0 < ns.length := List.length_pos_iff.mpr c
        have hl2 : (0 : Int) < ((ns.map V.int).length : Nat) := by
          rw [List.length_map]
          omega
        have h1 := Int.emod_nonneg t (show (((ns.map V.int).length : Nat) : Int) ≠ 0 by omega)
        have h2 := Int.emod_lt_of_pos t hl2
        obtain ⟨j, hj⟩ : ∃ j : Nat, t % (((ns.map V.int).length : Nat) : Int) = (j : Int) := ⟨_, (Int.toNat_of_nonneg h1).symm⟩
        have hj2 : j < ns.length := by
          rw [List.length_map] at hj h2
          omega
        have hx : (ns.map V.int)[j]? = some (V.int ns[j]) := by
          rw [List.getElem?_map, List.getElem?_eq_getElem hj2]
          rfl
        refine ⟨_, rfl, p, _, _, _, rfl, rfl, SqL.of hp1, rfl, ?_⟩
        refine ⟨_, rfl, .inl ⟨_, rfl, _, rfl, p, _, _, _, rfl, rfl, SqL.of hp1, rfl, b, _, rfl, .inl (SqL.of hb1), _, _, rfl, rfl, hl2, ?_⟩⟩
        exact ⟨b, _, _, V.int ns[j], rfl, rfl, SqL.of hb1, at_of hj hx, ns[j], rfl, hp1, hb1, S1⟩
      · exact ⟨_, rfl, hp1, hb1, S1⟩

/-- one of some things, drawn -/
def spOne : Sp := fun vs H Q _ => ∃ (p b l : Addr) (n : Nat) (xs : List V), vs = [.ref p, .ref l] ∧ Orch H p b n ∧ n < 1000000 ∧ H l = some (.lst xs) ∧ l ≠ p ∧ 0 < xs.length ∧ xs.length ≤ 1000 ∧
  ∀ (j : Nat) (x : V) (H' : Hp), xs[j]? = some x → Orch H' p b (n + 1) → But p H H' → Q x H'

theorem sc__law_pick : FnScope ["well", "some"] ["well", "some"] (defScope s__law_pick) := ⟨rfl, rfl, rfl, by decide +kernel, rfl, by decide +kernel, by decide +kernel⟩
theorem ok__law_pick {f f1 : Addr} {fd fd1 : FuncData} (F : Fun K "_law_pick" "_law_pick" s__law_pick f fd) (T : Blt mg) (D__law_draw : Df K mg "_law_draw" s__law_draw ["well", "many"] f1 fd1) : FnOk P w K mg base CX0 2 f fd ["well", "some"] spOne := by
  have G__law_draw : FnOk P w K mg base CX0 1 f1 fd1 ["well", "many"] spDraw := ok__law_draw D__law_draw.F T
  refine F.ok sc__law_pick (fun vs H Q E h => ?_) (fun cdv A outer s H vs Q E hr h => ?_)
  · obtain ⟨p, b, l, n, xs, rfl, _⟩ := h
    rfl
  · obtain ⟨p, b, l, n, xs, rfl, O, hn, hl, nlp, h0, h1, k⟩ := h
    refine ⟨_, (pss_one (ps_ret (pe_ix ix_list (pv 1) (pe_call G__law_draw (hr.mono (by decide)) (by rfl) D__law_draw.g D__law_draw.F.kp D__law_draw.b .nil pass0 (pa_cons (pv 0) (pa_cons (pe_callB call_len_seq (by rfl) T.n_len (by decide +kernel) (pa_cons (pv 1) pa_nil)) pa_nil))) (fun _ _ => rfl)))), ?_⟩
    refine ⟨_, rfl, _, rfl, _, rfl, l, xs, rfl, .inl (SqL.of hl), p, b, n, _, rfl, O, hn, by omega, ?_, fun r H' r0 r1 O' B' => ?_⟩
    · show (xs.length : Int).natAbs < 2 ^ 9000
      rw [Int.natAbs_natCast]
      exact Nat.lt_of_le_of_lt h1 (by decide)
    · obtain ⟨j, rfl⟩ := Int.eq_ofNat_of_zero_le r0
      have hj : j < xs.length := by omega
      exact ⟨l, xs, _, xs[j], rfl, rfl, SqL.of (B' l _ hl nlp), atI_nat (List.getElem?_eq_getElem hj), k j _ H' (List.getElem?_eq_getElem hj) O' B'⟩

end
end K32
namespace K32
open PySem PySem.Spec PyProof.Rows L2 OB SkE LamX
def Bad (K : PySem.W.Frag) (H : Hp) (x : V) (lo hi : Option Int) : Prop := ∃ b, IsI K H x b ∧ (b && inB lo hi x) = false
theorem yes_no {b : Bool} {A : Prop} (h : b = true) (z : b = false) : A := by
  rw [h] at z
  cases z
theorem in_bounds {lo hi i : Int} (h1 : lo ≤ i) (h2 : i ≤ hi) : (true && inB (some lo) (some hi) (.int i)) = true := by
  show (true && (decide (lo ≤ i) && decide (i ≤ hi))) = true
  rw [decide_eq_true h1, decide_eq_true h2]
  rfl
structure CodeOk (b d : Nat) : Prop where
  b2 : 2 ≤ b
  b3 : b ≤ 3
  d199 : d ≤ 199
theorem pow_le {d : Nat} (h : d ≤ 199) : 2 ^ d ≤ 2 ^ 199 := Nat.pow_le_pow_right (by decide) h
/-- a code stands at x -/
def IsCode (H : Hp) (C x : Addr) (b d : Nat) : Prop := ∃ dx fs, H x = some (.ins C dx fs) ∧ fs.lookup ("base" : Str) = some (.int (b : Int)) ∧ fs.lookup ("doubles" : Str) = some (.int (d : Int)) ∧ fs.lookup ("many" : Str) = some (.int ((b * 2 ^ d : Nat) : Int)) ∧ fs.lookup ("bits" : Str) = some (.int ((b - 1 + 2 * d : Nat) : Int))
theorem IsCode.same {H H' : Hp} {C x : Addr} {b d : Nat} (h : IsCode H C x b d) (s : Same H H') : IsCode H' C x b d := by
  obtain ⟨dx, fs, h1, h2⟩ := h
  exact ⟨dx, fs, s _ _ h1, h2⟩
theorem IsCode.but {H H' : Hp} {C x p : Addr} {b d : Nat} {xs : List V} (h : IsCode H C x b d) (s : But p H H') (hp : H p = some (.lst xs)) : IsCode H' C x b d := by
  obtain ⟨dx, fs, h1, h2⟩ := h
  exact ⟨dx, fs, s _ _ h1 (ne_of h1 hp (by intro z; cases z)), h2⟩
theorem IsCode.ext {H H' : Hp} {C x : Addr} {b d : Nat} (h : IsCode H C x b d) (e : ExtN H H') : IsCode H' C x b d := by
  obtain ⟨dx, fs, h1, h2⟩ := h
  exact ⟨dx, fs, e _ _ h1 (fun _ z => nomatch z), h2⟩
def spCodeInit (C : Addr) : Sp := fun vs H Q _ => ∃ (p dx : Addr) (b d : Nat), vs = [.ref p, .int (b : Int), .int (d : Int)] ∧ CodeOk b d ∧ H p = some (.ins C dx []) ∧
  ∀ H', IsCode H' C p b d → (∀ a o, H a = some o → a ≠ p → H' a = some o) → Q .non H'
def spCodeEq (K : PySem.W.Frag) (C : Addr) : Sp := fun vs H Q _ => ∃ (x : Addr) (y : V) (b d : Nat), vs = [.ref x, y] ∧ IsCode H C x b d ∧
  ((∃ y' b' d', y = .ref y' ∧ IsCode H C y' b' d' ∧ Q (.bl (decide (b = b' ∧ d = d'))) H) ∨ (NotO K C H y ∧ Q (.bl false) H))
theorem make_code {C x dx : Addr} {b d : Nat} {H1 : Hp} {R : Hp → Prop} {E : XK} (ok : CodeOk b d) (nx : H1 x = none) (ndx : H1 dx = none)
    (k : ∀ H3, Same H1 H3 → IsCode H3 C x b d → R H3) : spCodeInit C [.ref x, .int (b : Int), .int (d : Int)] (upd (upd H1 dx (.own x)) x (.ins C dx [])) (fun v H2 => v = .non ∧ R H2) E := by
  have old : ∀ a o, H1 a = some o → (upd (upd H1 dx (.own x)) x (.ins C dx [])) a = some o := fun a o e => by
    rw [upd_ne (ne_of_none e nx), upd_ne (ne_of_none e ndx)]
    exact e
  exact ⟨x, dx, b, d, rfl, ok, upd_same, fun H3 hl keep => ⟨rfl, k H3 (fun a o e => keep a o (old a o e) (ne_of_none e nx)) hl⟩⟩
theorem ne_code {K : PySem.W.Frag} {C x y : Addr} {b d b' d' : Nat} {H : Hp} {Q : VK} {E : XK} (hx : IsCode H C x b d) (hy : IsCode H C y b' d') (k : Q (.bl (!decide (b = b' ∧ d = d'))) H) : rNeO K C (spCodeEq K C) E (.ref x) (.ref y) H Q := by
  obtain ⟨dx, fs, h1, _⟩ := id hx
  obtain ⟨dy, gs, g1, _⟩ := id hy
  exact ⟨x, dx, fs, rfl, h1, .inl ⟨y, dy, gs, rfl, g1⟩, x, .ref y, b, d, rfl, hx, .inl ⟨y, b', d', rfl, hy, _, rfl, k⟩⟩
/-- as few doublings as three times so many need -/
def IsD (v d : Nat) : Prop := v ≤ 3 * 2 ^ d ∧ ∀ e, e < d → 3 * 2 ^ e < v
def cb (v d : Nat) : Nat := if v ≤ 2 * 2 ^ d then 2 else 3
theorem cb_ok (v : Nat) {d : Nat} (h : d ≤ 199) : CodeOk (cb v d) d := by
  unfold cb
  split
  · exact ⟨by decide, by decide, h⟩
  · exact ⟨by decide, by decide, h⟩
theorem isD_le {v d : Nat} (h : IsD v d) (hv : v ≤ 2 ^ 200) : d ≤ 199 := by
  by_cases z : d ≤ 199
  · exact z
  · have := h.2 199 (by omega)
    omega
theorem isD_one {v d e : Nat} (h : IsD v d) (g : IsD v e) : d = e := by
  rcases Nat.lt_trichotomy d e with z | z | z
  · have := g.2 d z
    have := h.1
    omega
  · exact z
  · have := h.2 e z
    have := g.1
    omega
def spFor (K : PySem.W.Frag) (C CN : Addr) : Sp := fun vs H Q E => ∃ x : V, vs = [x] ∧ ((Bad K H x (some 2) (some 1606938044258990275541962092341162602522202993782792835301376) ∧ RaisesP CN "values" E H) ∨
  ∃ v : Nat, x = .int (v : Int) ∧ 2 ≤ v ∧ v ≤ 2 ^ 200 ∧ ∀ d y H', IsD v d → H y = none → Same H H' → IsCode H' C y (cb v d) d → Q (.ref y) H')
theorem mul_cast (b d : Nat) : (b : Int) * 2 ^ d = ((b * 2 ^ d : Nat) : Int) := by
  rw [Int.natCast_mul, Int.natCast_pow]
  rfl
theorem shl_ok {b d : Nat} (hb : b ≤ 3) (hd : d ≤ 199) : CShl (b : Int) (d : Int) := by
  have e : Builtin.Int.intBits (b : Int) ≤ 2 := (show ∀ c < 4, Builtin.Int.intBits ((c : Nat) : Int) ≤ 2 by decide) b (by omega)
  exact ⟨by omega, by omega⟩
section
variable {P : Program} {w : World} {K : PySem.W.Frag} {mg : Str → Option Value} {base : Heap}
theorem sc_Code_init : FnScope ["self", "base", "doubles"] ["self", "base", "doubles"] (defScope s_Code_init) := ⟨rfl, rfl, rfl, by decide +kernel, rfl, by decide +kernel, by decide +kernel⟩
abbrev N_Code_init : List Str := ["self", "base", "doubles"]
theorem ok_Code_init {f f1 f2 C : Addr} {fd fd1 fd2 : FuncData} (F : Fun K "__init__" "Code.__init__" s_Code_init f fd) (T : Blt mg) (O_Code : OwnC K mg "Code" C f) (n1 : NoAttr K C "base") (n2 : NoAttr K C "doubles") (n3 : NoAttr K C "many") (n4 : NoAttr K C "bits") (D_is_within : Df K mg "is_within" s_is_within ["value", "least", "most"] f1 fd1) (D_is_integer : Df K mg "is_integer" s_is_integer ["value"] f2 fd2) :
    FnOk P w K mg base CX0 3 f fd ["self", "base", "doubles"] (spCodeInit C) := by
  have G_is_within : FnOk P w K mg base CX0 2 f1 fd1 ["value", "least", "most"] (spWithin K) := ok_is_within D_is_within.F D_is_integer T
  refine F.ok sc_Code_init (fun vs H Q E h => ?_) (fun cdv A outer s H vs Q E hr h => ?_)
  · obtain ⟨p, dx, b, d, rfl, _⟩ := h
    rfl
  · obtain ⟨p, dx, b, d, rfl, ok, hp, k⟩ := h
    have b2 := ok.b2
    have b3 := ok.b3
    have d1 := ok.d199
    refine ⟨_, (pss_cons (ps_if (pt_not (pt_val (pe_call G_is_within (hr.mono (by decide)) (by rfl) D_is_within.g D_is_within.F.kp D_is_within.b .nil pass0 (pa_cons (pv 1) (pa_cons (pe_glob (v := .int 2) rfl T.g_LEAST_BASE.choose_spec ⟨_, rfl⟩) (pa_cons (pe_glob (v := .int 3) rfl T.g_MOST_BASE.choose_spec ⟨_, rfl⟩) pa_nil)))))) (pss_one ps_never) pss_nil)
  (pss_cons (ps_if (pt_not (pt_val (pe_call G_is_within (hr.mono (by decide)) (by rfl) D_is_within.g D_is_within.F.kp D_is_within.b .nil pass0 (pa_cons (pv 2) (pa_cons pe_int (pa_cons (pe_glob (v := .int 199) rfl T.g_MOST_DOUBLES.choose_spec ⟨_, rfl⟩) pa_nil)))))) (pss_one ps_never) pss_nil)
  (pss_cons (ps_fld (pv 0) (pv 1) rfl)
  (pss_cons (ps_fld (pv 0) (pv 2) rfl)
  (pss_cons (ps_fld (pv 0) (pe_op op_shlN (pv 1) (pv 2)) rfl)
  (pss_one (ps_fld (pv 0) (pe_op op_add (pe_op op_sub (pv 1) pe_int) (pe_op op_mul pe_int (pv 2))) rfl))))))), ?_⟩
    refine ⟨_, rfl, _, some 2, some 3, true, rfl, isI_int _, _, rfl, ?_⟩
    rw [in_bounds (show (2 : Int) ≤ (b : Int) by omega) (show (b : Int) ≤ 3 by omega)]
    refine iteF ?_
    refine ⟨_, rfl, _, some 0, some 199, true, rfl, isI_int _, _, rfl, ?_⟩
    rw [in_bounds (show (0 : Int) ≤ (d : Int) by omega) (show (d : Int) ≤ 199 by omega)]
    refine iteF ?_
    refine ⟨_, rfl, _, rfl, p, C, dx, [], rfl, hp, O_Code.cl, n1, (by show 0 < 1000; decide), ?_⟩
    refine ⟨_, rfl, _, rfl, p, C, dx, _, rfl, upd_same, O_Code.cl, n2, (by show 1 < 1000; decide), ?_⟩
    refine ⟨_, rfl, _, rfl, _, d, rfl, rfl, shl_ok b3 d1, _, rfl, p, C, dx, _, rfl, upd_same, O_Code.cl, n3, (by show 2 < 1000; decide), ?_⟩
    refine ⟨_, rfl, _, _, rfl, rfl, _, rfl, _, _, rfl, rfl, .inl ⟨by decide, by decide⟩, _, _, rfl, rfl, _, rfl, p, C, dx, _, rfl, upd_same, O_Code.cl, n4, (by show 3 < 1000; decide), ?_⟩
    refine k _ ⟨dx, _, upd_same, rfl, rfl, ?_, ?_⟩ fun a o e na => ?_
    · show some (V.int ((b : Int) * 2 ^ d)) = _
      rw [Int.natCast_mul, Int.natCast_pow]
      rfl
    · show some (V.int ((b : Int) - 1 + 2 * (d : Int))) = _
      exact congrArg (fun z => some (V.int z)) (by omega)
    · rw [upd_ne na, upd_ne na, upd_ne na, upd_ne na]
      exact e
theorem sc_Code_eq : FnScope ["self", "other"] ["self", "other"] (defScope s_Code_eq) := ⟨rfl, rfl, rfl, by decide +kernel, rfl, by decide +kernel, by decide +kernel⟩
abbrev N_Code_eq : List Str := ["self", "other"]
theorem ok_Code_eq {f fI C : Addr} {fd : FuncData} (F : Fun K "__eq__" "Code.__eq__" s_Code_eq f fd) (T : Blt mg) (O_Code : OwnC K mg "Code" C fI) (n1 : NoAttr K C "base") (n2 : NoAttr K C "doubles") : FnOk P w K mg base CX0 1 f fd ["self", "other"] (spCodeEq K C) := by
  refine F.ok sc_Code_eq (fun vs H Q E h => ?_) (fun cdv A outer s H vs Q E hr h => ?_)
  · obtain ⟨x, y, b, d, rfl, _⟩ := h
    rfl
  · obtain ⟨x, y, b, d, rfl, hx, h⟩ := h
    refine ⟨_, (pss_one (ps_ret (pe_and (pe_callB call_isi (by rfl) T.n_isinstance (by decide +kernel) (pa_cons (pv 1) (pa_cons (pe_glob (v := .ref _) (by rfl) O_Code.g rfl) pa_nil))) (pe_and (pe_cmpR op_eq (pe_fld (pv 0) rfl) (pe_fld (pv 1) rfl) (nomark _)) (pe_one (pe_cmpR op_eq (pe_fld (pv 0) rfl) (pe_fld (pv 1) rfl) (nomark _))))))), ?_⟩
    rcases h with ⟨y', b', d', rfl, hy, k⟩ | ⟨⟨t, ty, ht⟩, k⟩
    · obtain ⟨dx, fs, h1, h2, h3, h4, h5⟩ := hx
      obtain ⟨dy, gs, g1, g2, g3, g4, g5⟩ := hy
      refine ⟨_, rfl, _, .ref C, .ref C, .ref C, true, rfl, .own C, O_Code.ty g1, O_Code.self, true, rfl, ?_⟩
      refine iteT ?_
      refine ⟨_, rfl, x, C, dx, _, _, rfl, h1, O_Code.cl, n1, h2, _, rfl, y', C, dy, _, _, rfl, g1, O_Code.cl, n1, g2, rfl, _, rfl, ?_⟩
      refine iteB (fun c => ?_) (fun c => ?_)
      · have e : b = b' := by
          have := V.int.inj (of_decide_eq_true c)
          omega
        refine ⟨_, rfl, x, C, dx, _, _, rfl, h1, O_Code.cl, n2, h3, _, rfl, y', C, dy, _, _, rfl, g1, O_Code.cl, n2, g3, rfl, ?_⟩
        rw [show decide (b = b' ∧ d = d') = decide (V.int (d : Int) = V.int (d' : Int)) from decide_eq_decide.mpr ⟨fun z => by rw [z.2], fun z => ⟨e, by have := V.int.inj z; omega⟩⟩] at k
        exact k
      · have e : ¬ b = b' := fun z => of_decide_eq_false c (by rw [z])
        rw [show decide (b = b' ∧ d = d') = false by simp [e]] at k
        exact k
    · exact ⟨_, rfl, y, .ref C, t, .ref C, false, rfl, .own C, ty, ht, false, rfl, iteF k⟩
theorem sc_code_for : FnScope ["values", "doubles"] ["values"] (defScope s_code_for) := ⟨rfl, rfl, rfl, by decide +kernel, rfl, by decide +kernel, by decide +kernel⟩
abbrev N_code_for : List Str := ["values", "doubles"]
theorem ok_code_for {f f1 fI CN C : Addr} {fd fd1 fdI : FuncData} (F : Fun K "code_for" "code_for" s_code_for f fd) (T : Blt mg) (O_Code : OwnC K mg "Code" C fI) (D_need_number : Df K mg "need_number" s_need_number ["value", "part", "least", "most"] f1 fd1) (G_need_number : FnOk P w K mg base (L2.CX P w) 4 f1 fd1 ["value", "part", "least", "most"] (spNeedNumber K CN))
    (b_Code_init : L2.Binds K fdI ["self", "base", "doubles"] []) (G_Code_init : FnOk P w K mg base CX0 3 fI fdI ["self", "base", "doubles"] (spCodeInit C)) : FnOk P w K mg base (L2.CX P w) 6 f fd ["values"] (spFor K C CN) := by
  refine F.okX sc_code_for (fun vs H Q E h => ?_) (fun cdv A outer s H vs Q E hr h => ?_)
  · obtain ⟨x, rfl, _⟩ := h
    rfl
  · obtain ⟨x, rfl, h⟩ := h
    refine ⟨_, (pss_cons (ps_expr (pe_callS G_need_number (hr.mono (by decide)) (by rfl) D_need_number.g D_need_number.F.kp D_need_number.b (fun σ => passAt (takes_of rfl rfl rfl rfl) σ) (pa_cons (pv 0) (pa_cons pe_str (pa_cons (pe_glob (v := .int 2) rfl T.g_LEAST_BASE.choose_spec ⟨_, rfl⟩) (pa_cons (pe_glob (v := .int 1606938044258990275541962092341162602522202993782792835301376) rfl T.g_MOST_VALUES.choose_spec ⟨_, rfl⟩) pa_nil))))))
  (pss_cons (ps_set (i := 1) sc_code_for.nd rfl (Or.inl rfl) pe_int)
  (pss_cons (ps_while (passes_of rfl) (pt_cmpR op_lt (pe_op op_shlN (pe_glob (v := .int 3) rfl T.g_MOST_BASE.choose_spec ⟨_, rfl⟩) (pv 1)) (pv 0) (nomark _)) (pss_one (ps_aug (i := 1) sc_code_for.nd rfl (.inl rfl) pe_int ip_add)))
  (pss_one (ps_ret (pe_make O_Code.made G_Code_init (hr.mono (by decide)) (by rfl) O_Code.g b_Code_init .nil pass0 (pa_cons (pe_ifExp (pt_cmpR op_ge (pe_op op_shlN (pe_glob (v := .int 2) rfl T.g_LEAST_BASE.choose_spec ⟨_, rfl⟩) (pv 1)) (pv 0) (nomark _)) (pe_glob (v := .int 2) rfl T.g_LEAST_BASE.choose_spec ⟨_, rfl⟩) (pe_glob (v := .int 3) rfl T.g_MOST_BASE.choose_spec ⟨_, rfl⟩)) (pa_cons (pv 1) pa_nil)))))))), ?_⟩
    rcases h with ⟨⟨b, hI, hb⟩, kx⟩ | ⟨v, rfl, v1, v2, k⟩
    · exact ⟨_, rfl, _, "values", some 2, some 1606938044258990275541962092341162602522202993782792835301376, b, rfl, hI, fun z => yes_no z hb, fun _ => kx⟩
    refine ⟨_, rfl, _, "values", some 2, some 1606938044258990275541962092341162602522202993782792835301376, true, rfl, isI_int _, fun _ => ?_, fun z => yes_no (in_bounds (by omega) (by omega)) z⟩
    refine while_by (fun σ H' => H' = H ∧ ∃ d : Nat, (∀ e, e < d → 3 * 2 ^ e < v) ∧ d ≤ 199 ∧ σ = [some (.int (v : Int)), some (.int (d : Int))])
      (fun σ _ => match σ with
        | [_, some (.int o)] => 200 - o.toNat
        | _ => 0) ⟨rfl, 0, fun j z => absurd z (Nat.not_lt_zero j), by decide, rfl⟩ ?_ ?_
    · rintro σ H' ⟨rfl, d, hall, d1, rfl⟩
      refine ⟨_, rfl, _, d, rfl, rfl, shl_ok (b := 3) (by decide) d1, _, rfl, _, _, rfl, rfl, _, rfl, ?_⟩
      refine ite2 (fun c => ?_) (fun c => ?_)
      · have c : 3 * 2 ^ d < v := by
          have := of_decide_eq_true c
          have e := mul_cast 3 d
          omega
        have d8 : d ≠ 199 := fun z => by
          rw [z] at c
          omega
        refine ⟨_, rfl, _, _, rfl, rfl, ⟨rfl, d + 1, fun j hj => ?_, by omega, ?_⟩, ?_⟩
        · by_cases z : j = d
          · rw [z]; exact c
          · exact hall j (by omega)
        · show [some (V.int (v : Int)), some (V.int ((d : Int) + 1))] = _
          rw [show (d : Int) + 1 = ((d + 1 : Nat) : Int) by omega]
        · show 200 - ((d : Int) + 1).toNat < 200 - (d : Int).toNat
          omega
      · have c : v ≤ 3 * 2 ^ d := by
          have e := mul_cast 3 d
          by_cases z : (3 : Int) * 2 ^ d < (v : Int)
          · exact absurd (decide_eq_true z) c
          · omega
        have isd : IsD v d := ⟨c, hall⟩
        refine ⟨_, rfl, _, d, rfl, rfl, shl_ok (b := 2) (by decide) d1, _, rfl, _, _, rfl, rfl, _, rfl, ?_⟩
        have e2 := mul_cast 2 d
        refine ite2 (fun c2 => ?_) (fun c2 => ?_)
        · have c2 : v ≤ 2 * 2 ^ d := by
            have := of_decide_eq_true c2
            omega
          have ec : cb v d = 2 := if_pos c2
          refine ⟨_, rfl, ?_⟩
          intro y dy ny ndy ney
          refine make_code (b := 2) ⟨by decide, by decide, d1⟩ ny ndy fun H3 S3 hl => k d y H3 isd ny S3 ?_
          rw [ec]
          exact hl
        · have c2 : ¬ v ≤ 2 * 2 ^ d := fun z => c2 (decide_eq_true (by omega))
          have ec : cb v d = 3 := if_neg c2
          refine ⟨_, rfl, ?_⟩
          intro y dy ny ndy ney
          refine make_code (b := 3) ⟨by decide, by decide, d1⟩ ny ndy fun H3 S3 hl => k d y H3 isd ny S3 ?_
          rw [ec]
          exact hl
    · rintro σ H1 Q1 Q2 hQ ⟨a1, a2, a3, a4, a5, a6, a7, a8, a9, b1, b2, b3, b4, b5, b6, q⟩
      exact ⟨a1, a2, a3, a4, a5, a6, a7, a8, a9, b1, b2, b3, b4, b5, b6, hQ _ _ q⟩
end
end K32
/-! min of a list of alike data: one of its items, the least. -/
namespace OB
open PySem PySem.Spec PyProof.Rows L2
section
variable {X : Cx}
def rMinD (K : PySem.W.Frag) : List V → Hp → VK → Prop := fun us H Q => ∃ (a : Addr) (vs : List V) (x : PyData) (xs : List PyData), us = [.ref a] ∧ SqL K H a vs ∧ DpAll K H vs (x :: xs) ∧ PySem.W.AlikeAll (x :: xs) ∧ PyData.depthAll (x :: xs) ≤ 20 ∧ (∀ d ∈ x :: xs, d.canLay0 = true) ∧
  ∀ (i : Nat) (v : V) (d : PyData), vs[i]? = some v → (x :: xs)[i]? = some d → d = PySem.W.minD x xs → Q v H
theorem call_minD (hc : X.calm = true) (hu : X.A.units + 64 < cLine) : CallR X (.builtin "min") (rMinD X.K) := by
  intro pins s σ H us ws Q I r h
  obtain ⟨a, vs, x, xs, rfl, hq, hd, al, dp, cl, q⟩ := h
  rw [Vals.ref1 r]
  obtain ⟨its, rv, pl, hz⟩ := I.list hq
  have isl : s.heap.IsList a its.toArray := by
    obtain ⟨o, m, e, c, _, d⟩ := pl
    exact ⟨o, e, c, m, d⟩
  obtain ⟨as, ra⟩ := Dp.readsAll I (x :: xs) vs its hd rv
  have ra2 : ReadsAll s.heap its.toArray.toList (x :: xs) as := by simpa using ra
  refine PySem.W.min_list_data (I.ok.hd hc) isl ra2 al (by omega) fun i v h' tk bs hv rd kp => ?_
  have hv : its[i]? = some v := by simpa using hv
  have li := (List.getElem?_eq_some_iff.mp hv).1
  have lv : i < vs.length := by rw [rv.length]; exact li
  obtain ⟨u, hu2, ru⟩ := rv.get (List.getElem?_eq_getElem lv)
  rw [hv] at hu2
  cases hu2
  obtain ⟨cs, rc, lx, mx, _⟩ := PySem.W.readsAll_at ra i v hv
  have hx : (x :: xs)[i]? = some ((x :: xs).getD i .none) := by
    rw [List.getD_eq_getElem?_getD, List.getElem?_eq_getElem lx]
    rfl
  have e := (Reads.unique (PySem.W.reads_keeps kp rc) _ _ rd).1
  exact ⟨vs[i], H, I.kept (t' := tk) kp, ru, q i _ _ (List.getElem?_eq_getElem lv) hx e⟩
end
end OB
/-! Lambdas by generator: what they bind, and that a call's reading grows with what is wanted. -/
namespace OB
open PySem PySem.Spec PyProof.Rows L2 LamX
def MTA (t : TA) : Prop := ∀ σ H (Q1 Q2 : List V → Hp → Prop), (∀ vs H, Q1 vs H → Q2 vs H) → t σ H Q1 → t σ H Q2
def MTE (t : TE) : Prop := ∀ σ H (Q1 Q2 : VK), (∀ v H, Q1 v H → Q2 v H) → t σ H Q1 → t σ H Q2
theorem mta_nil : MTA tNil := fun σ H Q1 Q2 h z => h _ _ z
theorem mta_cons {a : TE} {r : TA} (ha : MTE a) (hr : MTA r) : MTA (tCons a r) := fun σ H Q1 Q2 h z => ha σ H _ _ (fun x H1 z1 => hr σ H1 _ _ (fun xs H2 z2 => h _ _ z2) z1) z
theorem mte_var {i : Nat} : MTE (tVar i) := fun σ H Q1 Q2 h ⟨v, e, z⟩ => ⟨v, e, h _ _ z⟩
theorem mte_c {v : V} : MTE (tC v) := fun σ H Q1 Q2 h z => h _ _ z
theorem mte_lst {t : TA} (ht : MTA t) : MTE (tLst t) := fun σ H Q1 Q2 h z => ht σ H _ _ (fun xs H1 ⟨l, z1⟩ => ⟨l, fun p hp => h _ _ (z1 p hp)⟩) z
theorem mte_tup {t : TA} (ht : MTA t) : MTE (tTup t) := fun σ H Q1 Q2 h z => ht σ H _ _ (fun xs H1 ⟨l, z1⟩ => ⟨l, fun p hp => h _ _ (z1 p hp)⟩) z
def SpMono (sp : Sp) : Prop := ∀ vs H (Q1 Q2 : VK) (E1 E2 : XK), (∀ c d H, E1 c d H → E2 c d H) → (∀ v H, Q1 v H → Q2 v H) → sp vs H Q1 E1 → sp vs H Q2 E2
theorem mono_S {sp : Sp} {t : TA} (hs : SpMono sp) (ht : MTA t) : ∀ σ : L2.St, MonoL fun E H' Q' => tCallS sp (WE fun cls d _ H => E cls d H) t σ H' Q' :=
  fun σ E1 E2 H Q1 Q2 hE hQ z => ht σ H _ _ (fun vs H1 z1 => hs _ _ _ _ _ _ (fun c d H => hE c d H) (fun v H => hQ v H) z1) z
theorem mono_KS {sp : Sp} {gV : List V → List V → List V} {t : TA} (hs : SpMono sp) (ht : MTA t) : ∀ σ : L2.St, MonoL fun E H' Q' => tCallKS sp gV (WE fun cls d _ H => E cls d H) tNil t σ H' Q' :=
  fun σ E1 E2 H Q1 Q2 hE hQ z => ht σ H _ _ (fun vs H1 z1 => hs _ _ _ _ _ _ (fun c d H => hE c d H) (fun v H => hQ v H) z1) z
theorem bind_0 {pr : Arguments} (h : ∀ (q : Str) (body : Expr) (scope : Scope) (cl : List (Str × Addr)) (pm cv ctv : Value), bindArgs (lFn q pr body scope cl .none pm cv ctv) ⟨[], []⟩ = pure []) : ∀ ds : List Value, Vals (([] : List Int).map V.int) ds → LamB pr [] ds := fun ds rd => by
  cases rd
  exact lamB0 h
theorem bind_1 {pr : Arguments} {a : Str} {n : Int} (h : ∀ (d : Value) (q : Str) (body : Expr) (scope : Scope) (cl : List (Str × Addr)) (T : Addr) (pm cv ctv : Value), ∃ k, bindArgs (lFn q pr body scope cl (.ref T) pm cv ctv) ⟨[], []⟩ = seqItems? (.ref T) >>= k ∧ k (some #[d]) = pure [(a, d)]) :
    ∀ ds : List Value, Vals (([n] : List Int).map V.int) ds → LamB pr [a] ds := fun ds rd => by
  cases rd with
  | cons r rr =>
    cases rr
    exact lamB1 (h _)
theorem hu_0 {P1 : Addr} {q1 : Str} : ∀ p ∈ [(P1, q1)], p.1 = P1 → p.2 = q1 := fun p hp _ => congrArg Prod.snd (List.mem_singleton.mp hp)
theorem hu_1 {P1 P2 : Addr} {q1 q2 : Str} (n : P1 ≠ P2) : ∀ p ∈ [(P1, q1), (P2, q2)], p.1 = P1 → p.2 = q1 := fun p hp e => by
  rcases List.mem_cons.mp hp with rfl | hp
  · rfl
  · rw [List.mem_singleton.mp hp] at e
    exact absurd e.symm n
theorem hu_2 {P1 P2 : Addr} {q1 q2 : Str} (n : P1 ≠ P2) : ∀ p ∈ [(P1, q1), (P2, q2)], p.1 = P2 → p.2 = q2 := fun p hp e => by
  rcases List.mem_cons.mp hp with rfl | hp
  · exact absurd e n
  · exact congrArg Prod.snd (List.mem_singleton.mp hp)
end OB
namespace K32
open PySem PySem.Spec PyProof.Rows L2 OB SkE LamX
structure ErrR (K : PySem.W.Frag) (CF C : Addr) : Prop where
  xf : XfC K C
  ec : ExcC K C
  ex : PySem.W.exmOne K (.ref C) (.ref CF) = some true
  no : PySem.W.findIn K (.ref C) "part" = some none
structure Kinds (K : PySem.W.Frag) (mg : Str → Option Value) (CF CN : Addr) : Prop where
  gF : mg "FlipError" = some (.ref CF)
  gN : mg "BadNumber" = some (.ref CN)
  rN : ErrR K CF CN
  kNN : PySem.W.kitOne K (.ref CN) (.ref CN) = some true
def TTheard (CN : Addr) : List V → (XK → Hp → VK → Prop) → Hp → VK → Prop := fun vs tl H Q => vs = [] ∧
  tl (fun cls d H' => ∃ (dd : Addr) (part : Str), d = some dd ∧ H' dd = some (.xd [(("part" : Str), .str part)]) ∧ cls = .ref CN ∧ ∀ p H'', Same H' H'' → H'' p = some (.tup [.str "number", .str part]) → Q (.ref p) H'') H fun _ _ => False
section
theorem sc__law_heard : FnScope ["ask", "caught", "error"] ["ask"] (defScope s__law_heard) := ⟨rfl, rfl, rfl, by decide +kernel, rfl, by decide +kernel, by decide +kernel⟩
abbrev N__law_heard : List Str := ["ask", "caught", "error"]
theorem heard_gives {X : Cx} {g CF CN : Addr} {cdg : Value} {q : Str} {kk : Nat} (Z : Kinds X.K X.mg CF CN) (T : Blt X.mg) : Gives X ["ask", "caught", "error"] "_law_heard" (defScope s__law_heard) g cdg (defBody s__law_heard) "ask" q kk (TTheard CN) := by
  intro f c' vs s H Q tl hr act hc mono h
  obtain ⟨rfl, h⟩ := h
  have g_FlipError := Z.gF
  have g_BadNumber := Z.gN
  refine ⟨_, (pss_cons (ps_set (i := 1) sc__law_heard.nd rfl (Or.inl rfl) pe_non)
  (pss_cons (ps_try_keep (i := 2) (j := 1) (Wout := fun _ _ _ _ => False) rfl rfl rfl sc__law_heard.nd rfl rfl rfl rfl ⟨by rfl, by decide, .inl g_FlipError⟩ L2.takes0 (fun W pn xe tk _ => (pss_one (ps_expr (act W pn xe _ _ tk)))))
  (pss_cons (ps_if (pt_val (pe_callB (call_or call_isX call_isi) (by rfl) T.n_isinstance (by decide +kernel) (pa_cons (pv 1) (pa_cons (pe_glob (v := .ref _) (by rfl) g_BadNumber rfl) pa_nil)))) (pss_one (ps_ret (pe_tup (pa_cons pe_str (pa_cons (pe_xa (pv 1)) pa_nil))))) pss_nil)
  (pss_one (ps_ret (pe_ifExp (pt_cmpR op_isN (pv 1) pe_non (nomark _)) pe_non (pe_tup (pa_cons pe_str (pa_cons pe_non pa_nil))))))))), ?_⟩
  refine ⟨rfl, hc, ?_⟩
  refine mono _ _ _ _ _ ?_ ?_ h
  rotate_left
  · intro v H' z
    exact z.elim
  · rintro cls d H' ⟨dd, part, rfl, hd, rfl, k⟩
    refine ⟨true, Z.rN.ex, fun _ a ha => ?_, fun z => nomatch z⟩
    have nad : dd ≠ a := ne_of_none hd ha
    have hd1 : (upd H' a (ExA (.ref CN) (some dd) a)) dd = some (.xd [(("part" : Str), .str part)]) := by
      rw [upd_ne nad]
      exact hd
    have S0 := same_new (o := ExA (.ref CN) (some dd) a) ha
    refine ⟨_, rfl, .inl ⟨a, CN, some dd, .ref CN, .ref CN, true, rfl, Z.rN.ec, upd_same, (fun z e => by cases e; exact ⟨_, hd1⟩), .own CN, Z.kNN, ?_⟩⟩
    exact ⟨true, rfl, _, rfl, a, CN, dd, _, _, rfl, Z.rN.xf, Z.rN.no, upd_same, hd1, rfl, (by show 2 ≤ sizeLine; decide), fun p hp => k p _ (S0.trans (same_new hp)) upd_same⟩
end
/-- what the law looks for: the fewest bits by its own sums -/
def spDue : Sp := fun vs H Q _ => ∃ v : Nat, vs = [.int (v : Int)] ∧ 2 ≤ v ∧ v ≤ 2 ^ 200 ∧ ∀ (t : Addr) (d : Nat) (H' : Hp), Same H H' → IsD v d → H' t = some (.tup [.int ((cb v d - 1 + 2 * d : Nat) : Int), .int ((cb v d : Nat) : Int), .int (d : Int)]) → Q (.ref t) H'
/-- what was found of so many doublings -/
def fnd (v b n : Nat) : List (Nat × Nat) := ((List.range n).filter fun d => decide (v ≤ b * 2 ^ d)).map fun d => (b, d)
def trip (p : Nat × Nat) : List Int := [((p.1 - 1 + 2 * p.2 : Nat) : Int), (p.1 : Int), (p.2 : Int)]
def dat (p : Nat × Nat) : PyData := .tuple ((trip p).map .int)
def dl (p : Nat × Nat) : Nat := p.1 - 1 + 2 * p.2
theorem lt_dat (p q : Nat × Nat) : PySem.W.dataLt (dat p) (dat q) = decide (trip p < trip q) := by
  unfold dat
  rw [PySem.W.dataLt_tuple]
  exact PySem.W.dataLt_ints (trip p) (trip q)
theorem trip_lt {p q : Nat × Nat} (h : trip p < trip q) : dl p ≤ dl q := by
  unfold trip at h
  rw [List.cons_lt_cons_iff] at h
  unfold dl
  omega
theorem trip_nlt {p q : Nat × Nat} (h : ¬ trip p < trip q) : dl q ≤ dl p := by
  unfold trip at h
  rw [List.cons_lt_cons_iff] at h
  unfold dl
  omega
theorem min_fold : ∀ (ps : List (Nat × Nat)) (p : Nat × Nat), ∃ r, PySem.W.minD (dat p) (ps.map dat) = dat r ∧ r ∈ p :: ps ∧ ∀ y ∈ p :: ps, dl r ≤ dl y
  | [], p => ⟨p, rfl, List.mem_cons_self, fun y hy => by rw [List.mem_singleton.mp hy]; exact Nat.le_refl _⟩
  | a :: ps, p => by
    unfold PySem.W.minD
    rw [List.map_cons, List.foldl_cons, lt_dat]
    by_cases c : trip a < trip p
    · rw [decide_eq_true c]
      obtain ⟨r, e, m, k⟩ := min_fold ps a
      refine ⟨r, e, List.mem_cons_of_mem _ m, fun y hy => ?_⟩
      rcases List.mem_cons.mp hy with rfl | hy
      · exact Nat.le_trans (k a List.mem_cons_self) (trip_lt c)
      · exact k y hy
    · rw [decide_eq_false c]
      obtain ⟨r, e, m, k⟩ := min_fold ps p
      refine ⟨r, e, ?_, fun y hy => ?_⟩
      · rcases List.mem_cons.mp m with rfl | m
        · exact List.mem_cons_self
        · exact List.mem_cons_of_mem _ (List.mem_cons_of_mem _ m)
      · rcases List.mem_cons.mp hy with rfl | hy
        · exact k _ List.mem_cons_self
        · rcases List.mem_cons.mp hy with rfl | hy
          · exact Nat.le_trans (k p List.mem_cons_self) (trip_nlt c)
          · exact k y (List.mem_cons_of_mem _ hy)
def acc (v : Nat) : Nat → List (Nat × Nat)
  | 0 => []
  | i + 1 => acc v i ++ fnd v (i + 2) 200
theorem fnd_next (v b n : Nat) : fnd v b (n + 1) = fnd v b n ++ (if v ≤ b * 2 ^ n then [(b, n)] else []) := by
  unfold fnd
  rw [List.range_succ, List.filter_append, List.map_append]
  by_cases c : v ≤ b * 2 ^ n <;> simp [c]
theorem mem_fnd {v b n : Nat} {q : Nat × Nat} : q ∈ fnd v b n ↔ q.1 = b ∧ q.2 < n ∧ v ≤ b * 2 ^ q.2 := by
  unfold fnd
  rw [List.mem_map]
  constructor
  · rintro ⟨d, hd, rfl⟩
    obtain ⟨h1, h2⟩ := List.mem_filter.mp hd
    exact ⟨rfl, List.mem_range.mp h1, of_decide_eq_true h2⟩
  · rintro ⟨rfl, h1, h2⟩
    exact ⟨q.2, List.mem_filter.mpr ⟨List.mem_range.mpr h1, decide_eq_true h2⟩, rfl⟩
theorem mem_acc {v : Nat} {q : Nat × Nat} : q ∈ acc v 2 ↔ (q.1 = 2 ∨ q.1 = 3) ∧ q.2 < 200 ∧ v ≤ q.1 * 2 ^ q.2 := by
  show q ∈ ([] ++ fnd v 2 200) ++ fnd v 3 200 ↔ _
  rw [List.nil_append, List.mem_append, mem_fnd, mem_fnd]
  constructor
  · rintro (⟨h1, h2, h3⟩ | ⟨h1, h2, h3⟩)
    · exact ⟨.inl h1, h2, by rw [h1]; exact h3⟩
    · exact ⟨.inr h1, h2, by rw [h1]; exact h3⟩
  · rintro ⟨h1 | h1, h2, h3⟩
    · exact .inl ⟨h1, h2, by rw [h1] at h3; exact h3⟩
    · exact .inr ⟨h1, h2, by rw [h1] at h3; exact h3⟩
theorem isD_ex {v : Nat} : ∀ n, v ≤ 3 * 2 ^ n → ∃ d, d ≤ n ∧ IsD v d
  | 0, h => ⟨0, Nat.le_refl _, h, fun e z => absurd z (Nat.not_lt_zero e)⟩
  | n + 1, h => by
    by_cases c : v ≤ 3 * 2 ^ n
    · obtain ⟨d, h1, h2⟩ := isD_ex n c
      exact ⟨d, by omega, h2⟩
    · refine ⟨n + 1, Nat.le_refl _, h, fun e he => ?_⟩
      have : 2 ^ e ≤ 2 ^ n := Nat.pow_le_pow_right (by decide) (by omega)
      omega
theorem fnd_len (v b n : Nat) : (fnd v b n).length ≤ n := by
  unfold fnd
  rw [List.length_map]
  exact Nat.le_trans (List.length_filter_le _ _) (by rw [List.length_range]; exact Nat.le_refl _)
theorem least {v d : Nat} (h : IsD v d) {r : Nat × Nat} (m : r ∈ acc v 2) (k : dl r ≤ dl (cb v d, d)) : r = (cb v d, d) := by
  obtain ⟨b, e⟩ := r
  obtain ⟨h1, h2, h3⟩ := mem_acc.mp m
  have ge : ∀ e, v ≤ 3 * 2 ^ e → d ≤ e := fun e he => by
    by_cases z : e < d
    · have := h.2 e z
      omega
    · omega
  unfold dl at k
  simp only at h1 h2 h3 k
  rcases h1 with rfl | rfl
  · have g := ge e (by omega)
    by_cases z : e = d
    · subst z
      have : cb v e = 2 := if_pos h3
      rw [this]
    · have : cb v d ≤ 3 := by unfold cb; split <;> omega
      omega
  · have g := ge e h3
    by_cases z : v ≤ 2 * 2 ^ d
    · have : cb v d = 2 := if_pos z
      omega
    · have : cb v d = 3 := if_neg z
      have : e = d := by omega
      rw [this, ‹cb v d = 3›]
theorem alike_trip : ∀ ps : List (Nat × Nat), PySem.W.AlikeAll (ps.map dat) := fun ps => by
  refine ⟨fun x hx y hy => ?_, fun x hx => ?_⟩
  · obtain ⟨p, _, rfl⟩ := List.mem_map.mp hx
    obtain ⟨q, _, rfl⟩ := List.mem_map.mp hy
    simp [dat, trip, PySem.W.alike, PySem.W.alikeAll]
  · obtain ⟨p, _, rfl⟩ := List.mem_map.mp hx
    simp [dat]
theorem depth_dat : ∀ ps : List (Nat × Nat), PyData.depthAll (ps.map dat) ≤ 2
  | [] => by simp [PyData.depthAll]
  | p :: r => by
    have := depth_dat r
    simp [PyData.depthAll, dat, trip, PyData.depth]
    omega
theorem dat_inj {p q : Nat × Nat} (h : dat p = dat q) : p = q := by
  obtain ⟨a, b⟩ := p
  obtain ⟨c, d⟩ := q
  simp [dat, trip] at h
  rw [Prod.mk.injEq]
  omega
theorem dp_trips {K : PySem.W.Frag} {H : Hp} : ∀ rs : List (Addr × Nat × Nat), (∀ r ∈ rs, H r.1 = some (.tup ((trip r.2).map V.int))) → DpAll K H (rs.map fun r => V.ref r.1) ((rs.map (·.2)).map dat)
  | [], _ => .nil
  | r :: rs, h => .cons (Dp.tup (SqT.of (h r List.mem_cons_self)) (dp_ints _)) (dp_trips rs fun x hx => h x (List.mem_cons_of_mem _ hx))
theorem lay_dat (p : Nat × Nat) : (dat p).canLay0 = true := by simp [dat, PyData.canLay0, lay_ints]
theorem acc_len (v : Nat) : ∀ i, (acc v i).length ≤ 200 * i
  | 0 => Nat.le_refl _
  | i + 1 => by
    have := acc_len v i
    have := fnd_len v (i + 2) 200
    show (acc v i ++ fnd v (i + 2) 200).length ≤ _
    rw [List.length_append]
    omega
theorem small_log {n k : Nat} (h : n < 2 ^ k) : ((n : Nat) : Int).natAbs.log2 ≤ k := by
  rw [Int.natAbs_natCast]
  by_cases e : n = 0
  · rw [e]
    exact Nat.zero_le _
  · exact Nat.le_of_lt ((Nat.log2_lt e).mpr h)
/-- what was found so far, laid down -/
def Found (H0 H : Hp) (D : Addr) (ps : List (Nat × Nat)) : Prop := Same H0 H ∧ ∃ rs : List (Addr × Nat × Nat), rs.map (·.2) = ps ∧ H D = some (.lst (rs.map fun r => V.ref r.1)) ∧ ∀ r ∈ rs, H r.1 = some (.tup ((trip r.2).map V.int))
section
variable {P : Program} {w : World} {K : PySem.W.Frag} {mg : Str → Option Value} {base : Heap}
theorem sc__law_due : FnScope ["values", "found", "base", "doubles"] ["values"] (defScope s__law_due) := ⟨rfl, rfl, rfl, by decide +kernel, rfl, by decide +kernel, by decide +kernel⟩
abbrev N__law_due : List Str := ["values", "found", "base", "doubles"]
theorem ok__law_due {f : Addr} {fd : FuncData} (F : Fun K "_law_due" "_law_due" s__law_due f fd) (T : Blt mg) : FnOk P w K mg base CX0 1 f fd ["values"] spDue := by
  refine F.ok sc__law_due (fun vs H Q E h => ?_) (fun cdv A outer s H vs Q E hr h => ?_)
  · obtain ⟨v, rfl, _⟩ := h
    rfl
  · obtain ⟨v, rfl, v1, v2, k⟩ := h
    refine ⟨_, (pss_cons (ps_set (i := 1) sc__law_due.nd rfl (Or.inl rfl) (pe_lst pa_nil))
  (pss_cons (ps_for PassesOwn.never rfl (pi_tup (pe_tup (pa_cons pe_int (pa_cons pe_int pa_nil)))) (pg_name (i := 2) sc__law_due.nd rfl (Or.inl rfl)) (pss_one (ps_for PassesOwn.never rfl (pi_range1 (by rfl) T.n_range (pa_cons pe_int pa_nil)) (pg_name (i := 3) sc__law_due.nd rfl (Or.inl rfl)) (pss_one (ps_if (pt_cmpR op_ge (pe_op op_mulW (pv 2) (pe_op op_oneN pe_int (pv 3))) (pv 0) (nomark _)) (pss_one (ps_expr (pe_bm PySem.F.plainAttrs_list PySem.F.slot_list_append PySem.F.type_list_append mt_append (pv 1) (pa_cons (pe_tup (pa_cons (pe_op op_add (pe_op op_sub (pv 2) pe_int) (pe_op op_mul pe_int (pv 3))) (pa_cons (pv 2) (pa_cons (pv 3) pa_nil)))) pa_nil)))) pss_nil)))))
  (pss_one (ps_ret (pe_callB (call_minD rfl hr.units) (by rfl) T.n_min (by decide +kernel) (pa_cons (pv 1) pa_nil)))))), ?_⟩
    refine ⟨Nat.zero_le _, fun D hD => ?_⟩
    refine ⟨by show 2 ≤ sizeLine; decide, fun tb htb => ?_⟩
    have S1 := same_new (o := .lst []) hD
    have S2 := same_new (o := .tup [V.int 2, .int 3]) htb
    have g2 := upd_same (H := upd H D (.lst [])) (a := tb) (o := .tup [V.int 2, .int 3])
    have ntD : tb ≠ D := (ne_of_none (upd_same (H := H) (a := D) (o := .lst [])) htb).symm
    have F0 : Found H (upd (upd H D (.lst [])) tb (.tup [V.int 2, .int 3])) D [] := ⟨S1.trans S2, [], rfl, S2 _ _ upd_same, fun r hr => by cases hr⟩
    generalize upd (upd H D (.lst [])) tb (.tup [V.int 2, .int 3]) = H2 at F0 g2 ⊢
    clear S1 S2 htb
    refine ⟨tb, rfl, ⟨_, SqT.of g2⟩, ?_⟩
    refine for_tup (xs := [.int 2, .int 3]) (fun i σ H' => H' tb = some (.tup [V.int 2, .int 3]) ∧ Found H H' D (acc v i) ∧ i ≤ 2 ∧ ∃ u z : Option V, σ = [some (.int (v : Int)), some (.ref D), u, z]) ⟨g2, F0, by decide, none, none, rfl⟩ (fun i σ H' _ h => SqT.of h.1) ?_ ?_
    · rintro i x σ H3 hx ⟨g3, F3, hi, u, z, rfl⟩
      obtain ⟨i2, rfl⟩ : i < 2 ∧ x = .int ((i + 2 : Nat) : Int) := by
        match i, hx with
        | 0, e => cases e; exact ⟨by decide, rfl⟩
        | 1, e => cases e; exact ⟨by decide, rfl⟩
        | i + 2, e => cases e
      clear hx
      refine ⟨200, rfl, by decide, by decide, ?_⟩
      refine for_range (n := 200) (fun j σ H' => H' tb = some (.tup [V.int 2, .int 3]) ∧ Found H H' D (acc v i ++ fnd v (i + 2) j) ∧ ∃ z : Option V, σ = [some (.int (v : Int)), some (.ref D), some (.int ((i + 2 : Nat) : Int)), z]) ⟨g3, by rw [show fnd v (i + 2) 0 = [] from rfl, List.append_nil]; exact F3, z, rfl⟩ ?_ ?_
      · rintro j σ H4 hj ⟨g4, ⟨S4, rs, e4, h4, t4⟩, z, rfl⟩
        have pj : 2 ^ j < 2 ^ 200 := Nat.pow_lt_pow_right (by decide) hj
        have l1 : ((i + 2 : Nat) : Int).natAbs.log2 ≤ 2 := small_log (by omega)
        have l2 : ((2 ^ j : Nat) : Int).natAbs.log2 ≤ 200 := small_log pj
        refine ⟨_, rfl, _, rfl, j, rfl, congrArg V.int (Int.zero_add _), by omega, _, _, rfl, rfl, ?_, _, rfl, _, _, rfl, rfl, _, rfl, ?_⟩
        · show _ + _ < 1000000
          omega
        have em : ((i + 2 : Nat) : Int) * ((2 ^ j : Nat) : Int) = (((i + 2) * 2 ^ j : Nat) : Int) := (Int.natCast_mul _ _).symm
        refine ite2 (fun c => ?_) (fun c => ?_)
        · have c : v ≤ (i + 2) * 2 ^ j := by
            have := of_decide_eq_true c
            omega
          refine ⟨_, rfl, .inl ⟨rfl, _, SqL.of h4⟩, _, rfl, _, _, rfl, rfl, _, rfl, _, _, rfl, rfl, .inl ⟨by decide, by decide⟩, _, _, rfl, rfl, _, rfl, _, rfl, by show 3 ≤ sizeLine; decide, fun t ht => ?_⟩
          have et : [V.int (((i + 2 : Nat) : Int) - 1 + 2 * (0 + (j : Int))), .int ((i + 2 : Nat) : Int), .int (0 + (j : Int))] = (trip (i + 2, j)).map V.int := by
            show _ = [V.int ((i + 2 - 1 + 2 * j : Nat) : Int), .int ((i + 2 : Nat) : Int), .int (j : Int)]
            rw [Int.zero_add, show ((i + 2 : Nat) : Int) - 1 + 2 * (j : Int) = ((i + 2 - 1 + 2 * j : Nat) : Int) by omega]
          rw [et]
          have St := same_new (o := .tup ((trip (i + 2, j)).map V.int)) ht
          have gt := upd_same (H := H4) (a := t) (o := .tup ((trip (i + 2, j)).map V.int))
          have rl : rs.length ≤ 600 := by
            have := congrArg List.length e4
            rw [List.length_map, List.length_append] at this
            have := acc_len v i
            have := fnd_len v (i + 2) j
            omega
          refine ⟨D, _, _, rfl, rfl, St _ _ h4, by rw [List.length_map, sizeLine_eq]; omega, ?_⟩
          have ntD2 : t ≠ D := (ne_of_none h4 ht).symm
          refine ⟨by rw [upd_ne ntD]; exact St _ _ g4, ⟨fun a o e => ?_, rs ++ [(t, i + 2, j)], ?_, ?_, fun r hr => ?_⟩, _, rfl⟩
          · rw [upd_ne (ne_of_none e hD)]
            exact St _ _ (S4 _ _ e)
          · rw [List.map_append, e4, fnd_next, if_pos c, List.append_assoc]
            rfl
          · rw [upd_same, List.map_append]
            rfl
          · rcases List.mem_append.mp hr with hr | hr
            · have z := St _ _ (t4 r hr)
              rw [upd_ne (ne_of z (St _ _ h4) (by intro z; cases z))]
              exact z
            · rw [List.mem_singleton.mp hr, upd_ne ntD2]
              exact gt
        · have c : ¬ v ≤ (i + 2) * 2 ^ j := fun q => c (decide_eq_true (by omega))
          exact ⟨g4, ⟨S4, rs, by rw [fnd_next, if_neg c, List.append_nil]; exact e4, h4, t4⟩, _, rfl⟩
      · rintro σ H4 ⟨g4, F4, z, rfl⟩
        exact ⟨g4, F4, i2, _, _, rfl⟩
    · rintro σ H3 ⟨g3, ⟨S3, rs, e3, h3, t3⟩, hi, u, z, rfl⟩
      obtain ⟨d, d1, isd⟩ := isD_ex (v := v) 199 (by omega)
      have ok := cb_ok v d1
      have mq : (cb v d, d) ∈ acc v 2 := mem_acc.mpr ⟨by have := ok.b2; have := ok.b3; omega, by omega, by
        unfold cb
        split
        · assumption
        · exact isd.1⟩
      obtain ⟨p0, ps, e0⟩ := List.exists_cons_of_ne_nil (List.ne_nil_of_mem mq)
      have e3 : rs.map (·.2) = acc v 2 := e3
      obtain ⟨r, er, mr, kr⟩ := min_fold ps p0
      rw [← e0] at mr kr
      have rq := least isd mr (kr _ mq)
      have dp := dp_trips (K := K) rs t3
      have al := alike_trip (acc v 2)
      have dd := depth_dat (acc v 2)
      rw [e3, e0, List.map_cons] at dp
      rw [e0, List.map_cons] at al dd
      refine ⟨_, rfl, D, _, dat p0, ps.map dat, rfl, SqL.of h3, dp, al, by omega, fun x hx => ?_, fun i w x hw hx ex => ?_⟩
      · rw [← List.map_cons] at hx
        obtain ⟨p, _, rfl⟩ := List.mem_map.mp hx
        exact lay_dat p
      · rw [List.getElem?_map] at hw
        rw [← List.map_cons, ← e0, ← e3, List.getElem?_map, List.getElem?_map] at hx
        cases e : rs[i]? with
        | none => rw [e] at hw; cases hw
        | some y =>
          rw [e] at hw hx
          cases hw
          have hx : some (dat y.2) = some x := hx
          rw [← Option.some.inj hx, er] at ex
          have ey := (dat_inj ex).trans rq
          have ty := t3 y (List.mem_of_getElem? e)
          rw [ey] at ty
          exact k _ d _ S3 isd ty
end
end K32
namespace K32
open PySem PySem.Spec PyProof.Rows L2 OB SkE LamX
def LQ : Str := (envOfC "law" (defScope s_law) 0 0 .none).qual ++ "<lambda>"
def spLaw (K : PySem.W.Frag) (Pt : Addr) : Sp := fun vs H Q _ => ∃ (a : Addr) (ns : List Int), vs = [.ref a] ∧ SqL K H a (ns.map V.int) ∧ ns.length ≤ 63 ∧ H Pt = some (.tbl #[]) ∧ ∀ H', Q (.bl true) H'
theorem pick_int {ks : List Int} {j : Nat} {x : V} (h : (ks.map V.int)[j]? = some x) : ∃ k ∈ ks, x = V.int k := by
  rw [List.getElem?_map] at h
  cases e : ks[j]? with
  | none => rw [e] at h; cases h
  | some k => rw [e] at h; exact ⟨k, List.mem_of_getElem? e, (Option.some.inj h).symm⟩
theorem nat9 {k : Int} (h : k.natAbs < 1000) : k.natAbs < 2 ^ 9000 := Nat.lt_of_lt_of_le h (by decide)
theorem two_of {α : Type} : ∀ {l : List α}, l.length = 2 → ∃ a b, l = [a, b]
  | [a, b], _ => ⟨a, b, rfl⟩
/-- what stands between two steps of the law -/
structure Mid (T : List (Addr × Str)) (p b n : Nat) (H : Hp) : Prop where
  o : Orch H p b n
  t : Tabs T H
theorem Mid.same {T : List (Addr × Str)} {p b n : Nat} {H H' : Hp} (m : Mid T p b n H) (s : Same H H') : Mid T p b n H' := ⟨m.o.same s, m.t.ext s⟩
theorem Mid.draw {T : List (Addr × Str)} {p b n k : Nat} {H H' : Hp} (m : Mid T p b n H) (o : Orch H' p b k) (B : But p H H') : Mid T p b k H' := ⟨o, tabs_orchN m.t B m.o⟩
theorem Mid.mono {T : List (Addr × Str)} {p b n k : Nat} {H : Hp} (m : Mid T p b n H) (h : n ≤ k) : Mid T p b k H := ⟨m.o.mono h, m.t⟩
theorem Mid.put {T : List (Addr × Str)} {p b n : Nat} {H : Hp} {D : Addr} {xs ys : List V} (m : Mid T p b n H) (hD : H D = some (.lst xs)) (n1 : D ≠ p) (n2 : b ≠ D) : Mid T p b n (upd H D (.lst ys)) :=
  ⟨m.o.keep (fun u e => by rw [upd_ne n1.symm]; exact e) (fun u e => by rw [upd_ne n2]; exact e), tabs_butN m.t but_at hD⟩
theorem Mid.pD {T : List (Addr × Str)} {p b n : Nat} {H : Hp} {D : Addr} (m : Mid T p b n H) (h : H D = none) : D ≠ p := by
  obtain ⟨u, hu⟩ := m.o.pn
  exact (ne_of_none hu h).symm
theorem Mid.bD {T : List (Addr × Str)} {p b n : Nat} {H : Hp} {D : Addr} (m : Mid T p b n H) (h : H D = none) : b ≠ D := by
  obtain ⟨u, hu⟩ := m.o.bn
  exact ne_of_none hu h
theorem Mid.ext {T : List (Addr × Str)} {p b n : Nat} {H H' : Hp} (m : Mid T p b n H) (e : ExtN H H') (t : Tabs T H') : Mid T p b n H' := ⟨orch_extN m.o e, t⟩
theorem but_put {p D : Addr} {H H' : Hp} {o : HO} (hD : H D = none) (B : But p H H') : But p H (upd H' D o) := fun a u e na => by
  rw [upd_ne (ne_of_none e hD)]
  exact B _ _ e na
theorem many_is {b d : Nat} (h : b = 2 ∨ b = 3) : IsD (b * 2 ^ d) d ∧ cb (b * 2 ^ d) d = b := by
  have p := M07.two_pos d
  refine ⟨⟨?_, fun e he => ?_⟩, ?_⟩
  · rcases h with rfl | rfl <;> omega
  · have q : 2 * 2 ^ e ≤ 2 ^ d := by
      rw [Nat.mul_comm, ← Nat.pow_succ]
      exact Nat.pow_le_pow_right (by decide) he
    have := M07.two_pos e
    rcases h with rfl | rfl <;> omega
  · unfold cb
    rcases h with rfl | rfl
    · exact if_pos (Nat.le_refl _)
    · exact if_neg (by omega)
theorem same_code {b d : Nat} : (!decide (b = b ∧ d = d)) = false := by simp
theorem for_mono {K : PySem.W.Frag} {C CN : Addr} : SpMono (spFor K C CN) := fun vs H Q1 Q2 E1 E2 hE hQ h => by
  obtain ⟨x, e, h⟩ := h
  refine ⟨x, e, ?_⟩
  rcases h with ⟨n, r⟩ | ⟨v, e1, h1, h2, q⟩
  · exact .inl ⟨n, fun d hd => hE _ _ _ (r d hd)⟩
  · exact .inr ⟨v, e1, h1, h2, fun d y H' a b c z => hQ _ _ (q d y H' a b c z)⟩
section
variable {P : Program} {w : World} {K : PySem.W.Frag} {mg : Str → Option Value} {base : Heap}
theorem sc_law : FnScope ["script", "well", "turn", "power", "near", "values", "bits", "base", "doubles", "told", "other", "odd", "value"] ["script"] (defScope s_law) := ⟨rfl, rfl, rfl, by decide +kernel, rfl, by decide +kernel, by decide +kernel⟩
abbrev N_law : List Str := ["script", "well", "turn", "power", "near", "values", "bits", "base", "doubles", "told", "other", "odd", "value"]
theorem ok_law {f f1 f2 f3 f4 f5 f6 fI fE C CF CN c Pt : Addr} {fd1 fd2 fd3 fd4 fd5 fd6 fdI fdE : FuncData} {oc kV doc pm ct : Value} {od an : Option Addr} {osl : Array (Option Value)} (T : Blt mg)
    (lk : K.lookup f = some ⟨oc, od, .func (PySem.W.fnOf "law" "law" (defArgs s_law) (defBody s_law) (defScope s_law) .none kV doc pm an (.ref c) ct), osl⟩) (hcd : PySem.W.codeIn K (.ref c) "law" = true)
    (TB : TabB base mg c Pt) (Z : Kinds K mg CF CN) (O_Code : OwnC K mg "Code" C fI) (n1 : NoAttr K C "base") (n2 : NoAttr K C "doubles") (n3 : NoAttr K C "many") (n4 : NoAttr K C "bits")
    (D__law_well : Df K mg "_law_well" s__law_well ["script"] f1 fd1) (G__law_well : FnOk P w K mg base CX0 1 f1 fd1 ["script"] (spLot K)) (D__law_draw : Df K mg "_law_draw" s__law_draw ["well", "many"] f2 fd2) (D__law_pick : Df K mg "_law_pick" s__law_pick ["well", "some"] f3 fd3) (D__law_heard : Df K mg "_law_heard" s__law_heard ["ask"] f4 fd4) (D__law_due : Df K mg "_law_due" s__law_due ["values"] f5 fd5)
    (D_code_for : Df K mg "code_for" s_code_for ["values"] f6 fd6) (GX_code_for : FnOk P w K mg base (L2.CX P w) 6 f6 fd6 ["values"] (spFor K C CN))
    (b_Code_init : L2.Binds K fdI ["self", "base", "doubles"] []) (G_Code_init : FnOk P w K mg base CX0 3 fI fdI ["self", "base", "doubles"] (spCodeInit C)) (EQ_Code : OwnEqC K C fE) (b_Code_eq : L2.Binds K fdE ["self", "other"] []) (G_Code_eq : FnOk P w K mg base CX0 1 fE fdE ["self", "other"] (spCodeEq K C)) :
    FnG P w K mg base CX0 12 f (PySem.W.fnOf "law" "law" (defArgs s_law) (defBody s_law) (defScope s_law) .none kV doc pm an (.ref c) ct) ["script"] (spLaw K Pt) := by
  have G_code_for := calm_of GX_code_for
  have G__law_draw : FnOk P w K mg base CX0 1 f2 fd2 ["well", "many"] spDraw := ok__law_draw D__law_draw.F T
  have G__law_pick : FnOk P w K mg base CX0 2 f3 fd3 ["well", "some"] spOne := ok__law_pick D__law_pick.F T D__law_draw
  have G__law_due : FnOk P w K mg base CX0 1 f5 fd5 ["values"] spDue := ok__law_due D__law_due.F T
  have kb_code_for : KBinds K fd6 ["values"] ["values"] (kg [0]) (kg [0]) := kbinds D_code_for.F (fun _ _ _ _ _ _ us ws hl => by
    rcases us with _ | ⟨a, us⟩
    · rcases ws with _ | ⟨x0, ws⟩ <;> first | rfl | exact absurd (show 0 = 1 from hl) (by decide)
    · exact absurd (show 0 = 1 from hl) (by decide)) kg_vals
  obtain ⟨ocH, odH, kVH, docH, pmH, anH, cdvH, ctH, oslH, eH, lkH, hcH⟩ := D__law_heard.F.ex
  subst eH
  refine fnG_of lk hcd sc_law (fun vs H Q E h => ?_) fun A outer s H vs Q E hgd hr h => ?_
  · obtain ⟨a, ns, rfl, _⟩ := h
    rfl
  · obtain ⟨a, ns, rfl, hS, hl, hPt, k⟩ := h
    have t0 : ∃ t, PSs (cxOf CX0 P w K mg base ["script", "well", "turn", "power", "near", "values", "bits", "base", "doubles", "told", "other", "odd", "value"] "law" (defScope s_law) f (.ref c) A outer s H E).nox (defBody s_law) t ∧ t { nx := fun _ H' => Q .non H', rt := Q } (L2.start ["script", "well", "turn", "power", "near", "values", "bits", "base", "doubles", "told", "other", "odd", "value"] [.ref a]) H := by
      refine ⟨_, (pss_cons (ps_set (i := 1) sc_law.nd rfl (Or.inl rfl) (pe_call G__law_well (hr.mono (by decide)) (by rfl) D__law_well.g D__law_well.F.kp D__law_well.b .nil pass0 (pa_cons (pv 0) pa_nil)))
  (pss_cons (ps_for PassesOwn.never rfl (pi_range1 (by rfl) T.n_range (pa_cons pe_int pa_nil)) (pg_name (i := 2) sc_law.nd rfl (Or.inl rfl)) (pss_cons (ps_set (i := 3) sc_law.nd rfl (Or.inl rfl) (pe_call G__law_pick (hr.mono (by decide)) (by rfl) D__law_pick.g D__law_pick.F.kp D__law_pick.b .nil pass0 (pa_cons (pv 1) (pa_cons (pe_lst (pa_cons (pe_call G__law_draw (hr.mono (by decide)) (by rfl) D__law_draw.g D__law_draw.F.kp D__law_draw.b .nil pass0 (pa_cons (pv 1) (pa_cons pe_int pa_nil))) (pa_cons (pe_call G__law_draw (hr.mono (by decide)) (by rfl) D__law_draw.g D__law_draw.F.kp D__law_draw.b .nil pass0 (pa_cons (pv 1) (pa_cons pe_int pa_nil))) (pa_cons pe_int pa_nil)))) pa_nil))))
  (pss_cons (ps_set (i := 4) sc_law.nd rfl (Or.inl rfl) (pe_op op_add (pe_op op_mul (pe_call G__law_pick (hr.mono (by decide)) (by rfl) D__law_pick.g D__law_pick.F.kp D__law_pick.b .nil pass0 (pa_cons (pv 1) (pa_cons (pe_lst (pa_cons pe_int (pa_cons pe_int (pa_cons pe_int pa_nil)))) pa_nil))) (pe_op op_oneN pe_int (pv 3))) (pe_call G__law_pick (hr.mono (by decide)) (by rfl) D__law_pick.g D__law_pick.F.kp D__law_pick.b .nil pass0 (pa_cons (pv 1) (pa_cons (pe_lst (pa_cons pe_int (pa_cons pe_int (pa_cons (pe_un un_neg pe_int) (pa_cons pe_int (pa_cons (pe_call G__law_draw (hr.mono (by decide)) (by rfl) D__law_draw.g D__law_draw.F.kp D__law_draw.b .nil pass0 (pa_cons (pv 1) (pa_cons (pe_op op_oneN pe_int (pv 3)) pa_nil))) pa_nil)))))) pa_nil)))))
  (pss_cons (ps_set (i := 5) sc_law.nd rfl (Or.inl rfl) (pe_callB (call_max2 rfl) (by rfl) T.n_max (by decide +kernel) (pa_cons pe_int (pa_cons (pe_call G__law_pick (hr.mono (by decide)) (by rfl) D__law_pick.g D__law_pick.F.kp D__law_pick.b .nil pass0 (pa_cons (pv 1) (pa_cons (pe_lst (pa_cons (pv 4) (pa_cons (pv 4) (pa_cons (pv 4) (pa_cons (pe_op op_add pe_int (pe_call G__law_draw (hr.mono (by decide)) (by rfl) D__law_draw.g D__law_draw.F.kp D__law_draw.b .nil pass0 (pa_cons (pv 1) (pa_cons pe_int pa_nil)))) (pa_cons (pe_op op_oneN pe_int pe_int) (pa_cons (pe_op op_sub (pe_op op_oneN pe_int pe_int) (pe_call G__law_draw (hr.mono (by decide)) (by rfl) D__law_draw.g D__law_draw.F.kp D__law_draw.b .nil pass0 (pa_cons (pv 1) (pa_cons pe_int pa_nil)))) pa_nil))))))) pa_nil))) pa_nil))))
  (pss_cons (ps_asg (pe_call G__law_due (hr.mono (by decide)) (by rfl) D__law_due.g D__law_due.F.kp D__law_due.b .nil pass0 (pa_cons (pv 5) pa_nil)) (pg_tup (by rfl) (pgs_cons (pg_name (i := 6) sc_law.nd rfl (Or.inl rfl)) (pgs_cons (pg_name (i := 7) sc_law.nd rfl (Or.inl rfl)) (pgs_cons (pg_name (i := 8) sc_law.nd rfl (Or.inl rfl)) pgs_nil)))))
  (pss_cons (ps_set (i := 9) sc_law.nd rfl (Or.inl rfl) (pe_call G_code_for (hr.mono (by decide)) (by rfl) D_code_for.g D_code_for.F.kp D_code_for.b .nil pass0 (pa_cons (pv 5) pa_nil)))
  (C8.pss_cut (ps_if (PW.pt (pw_or (pt_not (pt_val (pe_callB call_isi (by rfl) T.n_isinstance (by decide +kernel) (pa_cons (pv 9) (pa_cons (pe_glob (v := .ref _) (by rfl) O_Code.g rfl) pa_nil))))) (pw_or (pt_cmpR op_ne (pe_callB (call_reprI hgd hr.units) (by rfl) T.n_repr (by decide +kernel) (pa_cons (pe_lst (pa_cons (pe_fld (pv 9) rfl) (pa_cons (pe_fld (pv 9) rfl) (pa_cons (pe_fld (pv 9) rfl) pa_nil)))) pa_nil)) (pe_callB (call_reprI hgd hr.units) (by rfl) T.n_repr (by decide +kernel) (pa_cons (pe_lst (pa_cons (pv 7) (pa_cons (pv 8) (pa_cons (pv 6) pa_nil)))) pa_nil)) (nomark _)) (pw_or1 (pt_cmpR op_lt (pe_fld (pv 9) rfl) (pv 5) (nomark _)))))) (pss_one (ps_ret pe_bl)) pss_nil)
  (C8.pss_cut (ps_if (PW.pt (pw_or (PW.pt (pw_and (pt_cmpR op_gt (pv 8) pe_int (nomark _)) (pw_and1 (pt_cmpR op_ge (pe_fld (pe_make O_Code.made G_Code_init (hr.mono (by decide)) (by rfl) O_Code.g b_Code_init .nil pass0 (pa_cons (pv 7) (pa_cons (pe_op op_sub (pv 8) pe_int) pa_nil))) rfl) (pv 5) (nomark _))))) (pw_or (pt_cmpR (op_neO G_Code_eq EQ_Code b_Code_eq pass0 (hr.mono (by decide))) (pe_callKo G_code_for (hr.mono (by decide)) (by rfl) D_code_for.g D_code_for.F.kp kb_code_for pass0 (pk_cons (pv 5) pk_nil)) (pv 9) (nomark _)) (pw_or1 (pt_cmpR (op_neO G_Code_eq EQ_Code b_Code_eq pass0 (hr.mono (by decide))) (pe_call G_code_for (hr.mono (by decide)) (by rfl) D_code_for.g D_code_for.F.kp D_code_for.b .nil pass0 (pa_cons (pe_fld (pv 9) rfl) pa_nil)) (pv 9) (nomark _)))))) (pss_one (ps_ret pe_bl)) pss_nil)
  (pss_cons (ps_set (i := 10) sc_law.nd rfl (Or.inl rfl) (pe_op op_sub (pv 6) (pe_callTy call_int1 (by rfl) T.n_int (by decide +kernel) (pa_cons (pe_cmpR op_eq (pv 7) pe_int (nomark _)) pa_nil))))
  (pss_one (ps_if (PW.pt (pw_and (pt_cmpR op_gt (pv 6) pe_int (nomark _)) (pw_and1 (pt_cmpR op_ge (pe_op op_mulW (pe_op op_sub pe_int (pv 7)) (pe_op op_oneN pe_int (pe_op op_sub (pe_op op_fdiv (pv 10) pe_int) pe_int))) (pv 5) (nomark _))))) (pss_one (ps_ret pe_bl)) pss_nil)))))))))))
  (pss_cons (ps_set (i := 11) sc_law.nd rfl (Or.inl rfl) (pe_lst (pa_cons pe_non (pa_cons pe_int (pa_cons pe_int (pa_cons (pe_un un_neg pe_int) (pa_cons pe_bl (pa_cons pe_str (pa_cons (pe_lst (pa_cons pe_int pa_nil)) (pa_cons (pe_op op_add (pe_op op_oneN pe_int pe_int) pe_int) (pa_cons (pe_op op_oneN pe_int pe_int) (pa_cons (pe_tup (pa_cons pe_int pa_nil)) pa_nil))))))))))))
  (pss_one (ps_ret (pe_cmpR (op_eqD hr.units) (pe_lc (own := [("value", 12)]) (g := (gName 12)) (tt := tTest (tOp (rNeD K) (tLam2 [(Pt, LQ)] [] (TTheard CN) fun E => tCallS (spFor K C CN) (WE fun cls d _ H => E cls d H) (tCons (tVar 12) tNil)) (tTup (tCons (tC (V.str "number")) (tCons (tC (V.str "values")) tNil))))) rfl sc_law.nd (pi_list (pv 11)) (blkOk_by (N := N_law) (own := [("value", 12)]) (sc := defScope s_law) (by decide +kernel)) (fun _ _ _ _ _ => (pg_name (i := 12) sc_law.nd rfl (Or.inr rfl))) (fun _ _ _ _ _ => (pts_one (pt_cmpR (op_neD hr.units) (pe_lam (T := [(Pt, LQ)]) (vs := []) (TT := TTheard CN) (k := 7) (nm := []) (dts := []) (t := fun E => tCallS (spFor K C CN) (WE fun cls d _ H => E cls d H) (tCons (tVar 12) tNil)) (by rfl) D__law_heard.g D__law_heard.F.kp lkH hcH D__law_heard.b sc__law_heard rfl (Or.inl rfl) (heard_gives Z T) TB rfl List.mem_cons_self hu_0 (hr.mono (by decide)) (lamN_by (by rfl)) (.inl ⟨rfl, rfl⟩) (bind_0 fun _ _ _ _ _ _ _ => rfl) (mono_S for_mono (mta_cons mte_var mta_nil)) pa_nil (fun _ _ _ => rfl) rfl (fun A outer s H E f c' hr2 => pe_callS GX_code_for (hr2.mono (by decide)) (by rfl) D_code_for.g D_code_for.F.kp D_code_for.b (fun σ => passAt (takes_of rfl rfl rfl rfl) σ) (pa_cons (pv 12) pa_nil))) (pe_tup (pa_cons pe_str (pa_cons pe_str pa_nil))) (nomark _)))) (fun _ _ _ _ _ => (pv 12))) (pe_lst pa_nil) (nomark _))))))), ?_⟩
      refine ⟨_, rfl, a, ns, rfl, hS, hl, fun p b H1 hp hb O S1 => ?_⟩
      have M1 : Mid [(Pt, LQ)] p b 0 H1 := ⟨O, fun x hx => by
        rw [List.mem_singleton.mp hx]
        exact .nil (S1 _ _ hPt)⟩
      refine ⟨8, rfl, by decide, by decide, ?_⟩
      refine for_range (n := 8) (fun i σ H' => Mid [(Pt, LQ)] p b (100 * i) H' ∧ ∃ u2 u3 u4 u5 u6 u7 u8 u9 u10 : Option V, σ = [some (.ref a), some (.ref p), u2, u3, u4, u5, u6, u7, u8, u9, u10, none, none]) ⟨M1, none, none, none, none, none, none, none, none, none, rfl⟩ ?_ ?_
      · rintro i σ H2 hi ⟨M2, u2, u3, u4, u5, u6, u7, u8, u9, u10, rfl⟩
        clear S1 O M1 hS hPt hp hb
        -- power
        refine ⟨_, rfl, _, rfl, p, b, _, 6, rfl, M2.o, by omega, by decide, by decide, fun r H3 r0 r1 O3 B3 => ⟨_, rfl, p, b, _, 190, rfl, O3, by omega, by decide, by decide, fun r' H4 q0 q1 O4 B4 => ⟨by show 3 ≤ sizeLine; decide, fun l hl => ?_⟩⟩⟩
        have M4 := (M2.draw O3 B3).draw O4 B4
        have M5 := M4.same (same_new (o := .lst [V.int r, .int r', .int 198]) hl)
        refine ⟨p, b, l, _, _, rfl, M5.o, by omega, upd_same, M4.pD hl, by show 0 < 3; decide, by show 3 ≤ 1000; decide, fun jj x H5 hjj O5 B5 => ?_⟩
        obtain ⟨kk, hk, rfl⟩ := pick_int (ks := [r, r', 198]) hjj
        have kb : 0 ≤ kk ∧ kk ≤ 198 := by simp at hk; omega
        obtain ⟨pw, rfl⟩ := Int.eq_ofNat_of_zero_le kb.1
        have M5 := M5.draw O5 B5
        have pw8 : pw ≤ 198 := by omega
        have pp : 2 ^ pw ≤ 2 ^ 198 := Nat.pow_le_pow_right (by decide) pw8
        have p0 := M07.two_pos pw
        clear hk hjj kb O5 B5 O4 B4 O3 B3 M4 M2 r0 r1 q0 q1 hl
        -- near
        refine ⟨_, rfl, by show 3 ≤ sizeLine; decide, fun l hl => ?_⟩
        have M6 := M5.same (same_new (o := .lst [V.int 1, .int 2, .int 3]) hl)
        refine ⟨p, b, l, _, _, rfl, M6.o, by omega, upd_same, M5.pD hl, by show 0 < 3; decide, by show 3 ≤ 1000; decide, fun jj x H6 hjj O6 B6 => ?_⟩
        obtain ⟨k1, hk1, rfl⟩ := pick_int (ks := [1, 2, 3]) hjj
        have M6 := M6.draw O6 B6
        have kb1 : 1 ≤ k1 ∧ k1 ≤ 3 := by simp at hk1; omega
        refine ⟨_, rfl, pw, rfl, rfl, by omega, _, _, rfl, rfl, .inl ⟨by omega, by omega⟩, ?_⟩
        refine ⟨_, rfl, _, rfl, _, rfl, _, rfl, pw, rfl, rfl, by omega, p, b, _, ((2 ^ pw : Nat) : Int), rfl, M6.o, by omega, by omega, ?_, fun r H7 r0 r1 O7 B7 => ⟨by show 5 ≤ sizeLine; decide, fun l2 hl2 => ?_⟩⟩
        · rw [Int.natAbs_natCast]
          exact Nat.lt_of_le_of_lt pp (by decide)
        have M7 := M6.draw O7 B7
        have M8 := M7.same (same_new (o := .lst [V.int 0, .int 1, .int (-1), .int 2, .int r]) hl2)
        refine ⟨p, b, l2, _, _, rfl, M8.o, by omega, upd_same, M7.pD hl2, by show 0 < 5; decide, by show 5 ≤ 1000; decide, fun jj x H8 hjj O8 B8 => ?_⟩
        obtain ⟨k2, hk2, rfl⟩ := pick_int (ks := [0, 1, -1, 2, r]) hjj
        have M8 := M8.draw O8 B8
        refine ⟨_, _, rfl, rfl, ?_⟩
        obtain ⟨near, en, near1⟩ : ∃ near : Int, near = k1 * ((2 ^ pw : Nat) : Int) + k2 ∧ near ≤ 2 ^ 200 := by
          refine ⟨_, rfl, ?_⟩
          have b2 : k2 ≤ 2 ∨ k2 < ((2 ^ pw : Nat) : Int) := by
            simp at hk2
            omega
          have e1 : k1 = 1 ∨ k1 = 2 ∨ k1 = 3 := by simp at hk1; omega
          rcases e1 with rfl | rfl | rfl <;> omega
        show gName 4 (V.int (k1 * ((2 ^ pw : Nat) : Int) + k2)) _ _ _
        rw [← en]
        clear en hk1 hk2 kb1 hjj hl hl2 r0 r1 O6 B6 O7 B7 O8 B8 M5 M6 M7
        -- values
        refine ⟨_, rfl, _, rfl, _, rfl, _, rfl, _, rfl, p, b, _, 30, rfl, M8.o, by omega, by decide, by decide, fun r H9 r0 r1 O9 B9 => ⟨_, _, rfl, rfl, 200, rfl, rfl, by decide, 200, rfl, rfl, by decide, _, rfl, p, b, _, 9, rfl, O9, by omega, by decide, by decide, fun r' H10 q0 q1 O10 B10 => ⟨_, _, rfl, rfl, by show 6 ≤ sizeLine; decide, fun l hl => ?_⟩⟩⟩
        have M10 := (M8.draw O9 B9).draw O10 B10
        have M11 := M10.same (same_new (o := .lst [V.int near, .int near, .int near, .int (2 + r), .int ((2 ^ 200 : Nat) : Int), .int (((2 ^ 200 : Nat) : Int) - r')]) hl)
        refine ⟨p, b, l, _, _, rfl, M11.o, by omega, upd_same, M10.pD hl, by show 0 < 6; decide, by show 6 ≤ 1000; decide, fun jj x H11 hjj O11 B11 => ?_⟩
        obtain ⟨k3, hk3, rfl⟩ := pick_int (ks := [near, near, near, 2 + r, ((2 ^ 200 : Nat) : Int), ((2 ^ 200 : Nat) : Int) - r']) hjj
        have M11 := M11.draw O11 B11
        refine ⟨_, _, rfl, ?_⟩
        obtain ⟨v, ev, v1, v2⟩ : ∃ v : Nat, (if k3 > 2 then k3 else 2) = (v : Int) ∧ 2 ≤ v ∧ v ≤ 2 ^ 200 := by
          have b3 : k3 ≤ 2 ^ 200 := by
            simp at hk3
            omega
          refine ⟨(if k3 > 2 then k3 else 2).toNat, ?_, ?_, ?_⟩ <;> split <;> omega
        rw [ev]
        clear ev hk3 hjj hl r0 r1 q0 q1 O9 B9 O10 B10 O11 B11 M8 M10 near1
        -- due, told
        refine ⟨_, rfl, v, rfl, v1, v2, fun t d H12 S12 isd ht => ⟨t, _, rfl, SqT.of ht, rfl, _, _, rfl, _, _, rfl, _, _, rfl, rfl, ?_⟩⟩
        refine ⟨_, rfl, _, rfl, .inr ⟨v, rfl, v1, v2, fun d' y H13 isd' ny S13 hy => ?_⟩⟩
        obtain rfl := isD_one isd isd'
        have M13 := M11.same (S12.trans S13)
        have dl9 := isD_le isd v2
        have ok := cb_ok v dl9
        have pd : 2 ^ d ≤ 2 ^ 199 := Nat.pow_le_pow_right (by decide) dl9
        have pd0 := M07.two_pos d
        generalize ecb : cb v d = bb at *
        have big : v ≤ bb * 2 ^ d := by
          rw [← ecb]
          unfold cb
          split
          · assumption
          · exact isd.1
        refine ⟨fun σ' H' => σ' = [some (.ref a), some (.ref p), some (.int (0 + (i : Int))), some (.int (pw : Int)), some (.int near), some (.int (v : Int)), some (.int ((bb - 1 + 2 * d : Nat) : Int)), some (.int (bb : Int)), some (.int (d : Int)), some (.ref y), u10, none, none] ∧ Same H13 H', ?_, ?_⟩
        · obtain ⟨dx, fs, h1, h2, h3, h4, h5⟩ := id hy
          have lg : ∀ n ∈ [(bb : Int), (d : Int), ((bb - 1 + 2 * d : Nat) : Int)], n.natAbs.log2 < 1920 := fun n hn => by
            have b3 := ok.b3
            have small : ∀ m : Nat, m < 1024 → ((m : Nat) : Int).natAbs.log2 < 1920 := fun m hm => Nat.lt_of_le_of_lt (small_log (k := 10) hm) (by decide)
            simp only [List.mem_cons, List.not_mem_nil, or_false] at hn
            rcases hn with rfl | rfl | rfl
            · exact small _ (by omega)
            · exact small _ (by omega)
            · exact small _ (by omega)
          refine ⟨_, rfl, _, .ref C, .ref C, .ref C, true, rfl, .own C, O_Code.ty h1, O_Code.self, true, rfl, iteF ?_⟩
          refine ⟨_, rfl, y, C, dx, _, _, rfl, h1, O_Code.cl, n1, h2, _, rfl, y, C, dx, _, _, rfl, h1, O_Code.cl, n2, h3, _, rfl, y, C, dx, _, _, rfl, h1, O_Code.cl, n4, h5, by show 3 ≤ sizeLine; decide, fun l1 hl1 => ⟨l1, [(bb : Int), (d : Int), ((bb - 1 + 2 * d : Nat) : Int)], rfl, lg, by show 3 ≤ 1000; decide, .inl ⟨SqL.of upd_same, ?_⟩⟩⟩
          have U1 := same_new (o := .lst [V.int (bb : Int), .int (d : Int), .int ((bb - 1 + 2 * d : Nat) : Int)]) hl1
          refine ⟨_, rfl, _, rfl, _, rfl, by show 3 ≤ sizeLine; decide, fun l2 hl2 => ⟨l2, [(bb : Int), (d : Int), ((bb - 1 + 2 * d : Nat) : Int)], rfl, lg, by show 3 ≤ 1000; decide, .inl ⟨SqL.of upd_same, ?_⟩⟩⟩
          have U2 := U1.trans (same_new (o := .lst [V.int (bb : Int), .int (d : Int), .int ((bb - 1 + 2 * d : Nat) : Int)]) hl2)
          refine ⟨rfl, _, rfl, ?_⟩
          refine iteB (fun c => absurd c (by simp)) (fun _ => ?_)
          refine ⟨_, rfl, y, C, dx, _, _, rfl, U2 _ _ h1, O_Code.cl, n3, h4, _, rfl, _, _, rfl, rfl, _, rfl, ?_⟩
          refine ite2 (fun c => ?_) (fun _ => ?_)
          · exfalso
            have := of_decide_eq_true c
            omega
          · exact ⟨rfl, U2⟩
        · rintro σ' H14 ⟨rfl, S14⟩
          have M14 := M13.same S14
          have hy14 := hy.same S14
          have bcase : bb = 2 ∨ bb = 3 := by have := ok.b2; have := ok.b3; omega
          have bmul : ∀ e, bb * 2 ^ e ≤ 3 * 2 ^ e := fun e => Nat.mul_le_mul_right _ ok.b3
          have b2mul : 2 * 2 ^ d ≤ bb * 2 ^ d := Nat.mul_le_mul_right _ ok.b2
          have not2 : bb = 3 → 2 * 2 ^ d < v := fun z => by
            rw [← ecb] at z
            unfold cb at z
            split at z
            · cases z
            · omega
          have many200 : bb * 2 ^ d ≤ 2 ^ 200 := by
            rcases bcase with z | z
            · rw [z]
              omega
            · have q := not2 z
              have d8 : d ≠ 199 := fun e => by
                rw [e] at q
                omega
              have : 2 ^ d ≤ 2 ^ 198 := Nat.pow_le_pow_right (by decide) (by omega)
              rw [z]
              omega
          refine ⟨fun σ' H' => σ' = [some (.ref a), some (.ref p), some (.int (0 + (i : Int))), some (.int (pw : Int)), some (.int near), some (.int (v : Int)), some (.int ((bb - 1 + 2 * d : Nat) : Int)), some (.int (bb : Int)), some (.int (d : Int)), some (.ref y), u10, none, none] ∧ Same H14 H', ?_, ?_⟩
          · refine ⟨_, rfl, _, _, rfl, rfl, _, rfl, ?_⟩
            refine ite2 (fun c => ?_) (fun c => ?_)
            · have d1 : 1 ≤ d := by
                have := of_decide_eq_true c
                omega
              refine ⟨_, rfl, _, rfl, _, _, rfl, rfl, ?_⟩
              rw [show (fun i j : Int => V.int (i - j)) (d : Int) 1 = V.int ((d - 1 : Nat) : Int) from congrArg V.int (by omega)]
              intro z dz nz ndz nez
              refine make_code ⟨ok.b2, ok.b3, by omega⟩ nz ndz fun H15 SX hz => ?_
              obtain ⟨dz, gs, z1, z2, z3, z4, z5⟩ := id hz
              have less : bb * 2 ^ (d - 1) < v := Nat.lt_of_le_of_lt (bmul _) (isd.2 (d - 1) (by omega))
              refine ⟨z, C, dz, _, _, rfl, z1, O_Code.cl, n3, z4, _, rfl, _, _, rfl, rfl, _, rfl, ?_⟩
              refine ite2 (fun c => ?_) (fun _ => ?_)
              · exfalso
                have := of_decide_eq_true c
                omega
              refine ⟨_, rfl, _, rfl, .inr ⟨v, rfl, v1, v2, fun d2 y2 H16 isd2 ny2 S16 hy2 => ⟨_, rfl, ?_⟩⟩⟩
              obtain rfl := isD_one isd isd2
              rw [ecb] at hy2
              have SY := SX.trans S16
              refine ne_code hy2 (hy14.same SY) ⟨_, rfl, ?_⟩
              rw [same_code]
              refine iteF ?_
              obtain ⟨dx, fs, h1, h2, h3, h4, h5⟩ := id (hy14.same SY)
              refine ⟨_, rfl, y, C, dx, _, _, rfl, h1, O_Code.cl, n3, h4, _, rfl, .inr ⟨bb * 2 ^ d, rfl, by omega, many200, fun d3 y3 H17 isd3 ny3 S17 hy3 => ⟨_, rfl, ?_⟩⟩⟩
              obtain rfl := isD_one (many_is bcase).1 isd3
              rw [(many_is bcase).2] at hy3
              refine ne_code hy3 (hy14.same (SY.trans S17)) ⟨_, rfl, ?_⟩
              rw [same_code]
              exact iteF ⟨rfl, SY.trans S17⟩
            · have SX : Same H14 H14 := fun _ _ e => e
              refine iteF ?_
              refine ⟨_, rfl, _, rfl, .inr ⟨v, rfl, v1, v2, fun d2 y2 H16 isd2 ny2 S16 hy2 => ⟨_, rfl, ?_⟩⟩⟩
              obtain rfl := isD_one isd isd2
              rw [ecb] at hy2
              have SY := SX.trans S16
              refine ne_code hy2 (hy14.same SY) ⟨_, rfl, ?_⟩
              rw [same_code]
              refine iteF ?_
              obtain ⟨dx, fs, h1, h2, h3, h4, h5⟩ := id (hy14.same SY)
              refine ⟨_, rfl, y, C, dx, _, _, rfl, h1, O_Code.cl, n3, h4, _, rfl, .inr ⟨bb * 2 ^ d, rfl, by omega, many200, fun d3 y3 H17 isd3 ny3 S17 hy3 => ⟨_, rfl, ?_⟩⟩⟩
              obtain rfl := isD_one (many_is bcase).1 isd3
              rw [(many_is bcase).2] at hy3
              refine ne_code hy3 (hy14.same (SY.trans S17)) ⟨_, rfl, ?_⟩
              rw [same_code]
              exact iteF ⟨rfl, SY.trans S17⟩
          · rintro σ' H15 ⟨rfl, S15⟩
            have M15 := M14.same S15
            obtain ⟨e, ee, ex⟩ : ∃ e : Nat, e ≤ 199 ∧ (2 < bb - 1 + 2 * d → (5 - bb) * 2 ^ e < v ∧ (((bb - 1 + 2 * d : Nat) : Int) - (if decide (V.int (bb : Int) = V.int 2) = true then 1 else 0)) / 2 - 1 = (e : Int)) := by
              rcases bcase with rfl | rfl
              · refine ⟨d - 1, by omega, fun h => ⟨isd.2 (d - 1) (by omega), ?_⟩⟩
                rw [if_pos (by simp)]
                omega
              · refine ⟨d, dl9, fun h => ⟨not2 rfl, ?_⟩⟩
                rw [if_neg (by simp)]
                omega
            refine ⟨_, rfl, _, rfl, rfl, .inr ⟨_, rfl, _, _, rfl, rfl, ?_⟩⟩
            refine ⟨_, rfl, _, _, rfl, rfl, _, rfl, ?_⟩
            refine ite2 (fun c => ?_) (fun _ => ?_)
            · have c : 2 < bb - 1 + 2 * d := by
                have := of_decide_eq_true c
                omega
              obtain ⟨less, ex⟩ := ex c
              have pe : 2 ^ e < 2 ^ 200 := Nat.pow_lt_pow_right (by decide) (by omega)
              refine ⟨_, rfl, _, _, rfl, rfl, _, rfl, _, _, rfl, rfl, ⟨by decide, by decide⟩, _, _, rfl, rfl, e, rfl, congrArg V.int ex, by omega, _, _, rfl, rfl, ?_, _, rfl, _, _, rfl, rfl, _, rfl, ?_⟩
              · show _ + _ < 1000000
                have l1 : ((5 : Int) - (bb : Int)).natAbs.log2 ≤ 3 := by
                  rw [show (5 : Int) - (bb : Int) = ((5 - bb : Nat) : Int) by have := ok.b3; omega]
                  exact small_log (by omega)
                have l2 : ((2 ^ e : Nat) : Int).natAbs.log2 ≤ 200 := small_log pe
                omega
              have em : ((5 : Int) - (bb : Int)) * ((2 ^ e : Nat) : Int) = (((5 - bb) * 2 ^ e : Nat) : Int) := by
                rw [Int.natCast_mul, show ((5 - bb : Nat) : Int) = (5 : Int) - (bb : Int) by have := ok.b3; omega]
              refine ite2 (fun c => ?_) (fun _ => ?_)
              · exfalso
                have := of_decide_eq_true c
                omega
              · exact ⟨M15.mono (by omega), _, _, _, _, _, _, _, _, _, rfl⟩
            · exact iteF ⟨M15.mono (by omega), _, _, _, _, _, _, _, _, _, rfl⟩
      · rintro σ H2 ⟨M2, u2, u3, u4, u5, u6, u7, u8, u9, u10, rfl⟩
        clear S1 O M1 hS hPt hp hb
        refine ⟨_, rfl, by show 1 ≤ sizeLine; decide, fun a1 ha1 => ⟨200, rfl, rfl, by decide, _, _, rfl, rfl, 333, rfl, rfl, by decide, by show 1 ≤ sizeLine; decide, fun a2 ha2 => ⟨by show 10 ≤ sizeLine; decide, fun l hl => ?_⟩⟩⟩
        have s1 := same_new (o := .lst [V.int 2]) ha1
        have s2 := same_new (o := .tup [V.int 3]) ha2
        have s3 := same_new (o := .lst [V.non, .int 0, .int 1, .int (-5), .bl true, .str "2", .ref a1, .int (((2 ^ 200 : Nat) : Int) + 1), .int ((2 ^ 333 : Nat) : Int), .ref a2]) hl
        have g1 := s3 _ _ (s2 _ _ (upd_same (H := H2) (a := a1) (o := .lst [V.int 2])))
        have g2 := s3 _ _ (upd_same (H := upd H2 a1 (.lst [V.int 2])) (a := a2) (o := .tup [V.int 3]))
        have g3 := upd_same (H := upd (upd H2 a1 (.lst [V.int 2])) a2 (.tup [V.int 3])) (a := l) (o := .lst [V.non, .int 0, .int 1, .int (-5), .bl true, .str "2", .ref a1, .int (((2 ^ 200 : Nat) : Int) + 1), .int ((2 ^ 333 : Nat) : Int), .ref a2])
        have M3 := M2.same (s1.trans (s2.trans s3))
        show gName 11 (V.ref l) _ _ _
        generalize upd (upd (upd H2 a1 (.lst [V.int 2])) a2 (.tup [V.int 3])) l (.lst [V.non, .int 0, .int 1, .int (-5), .bl true, .str "2", .ref a1, .int (((2 ^ 200 : Nat) : Int) + 1), .int ((2 ^ 333 : Nat) : Int), .ref a2]) = H3 at g1 g2 g3 M3 ⊢
        clear s1 s2 s3 M2 ha1 ha2 hl
        refine ⟨_, rfl, l, rfl, ⟨_, SqL.of g3⟩, fun D hD => ?_⟩
        refine lc_list (K := K) (a := l) (xs := [V.non, .int 0, .int 1, .int (-5), .bl true, .str "2", .ref a1, .int (((2 ^ 200 : Nat) : Int) + 1), .int ((2 ^ 333 : Nat) : Int), .ref a2]) (fun j H' => H' l = some (.lst [V.non, .int 0, .int 1, .int (-5), .bl true, .str "2", .ref a1, .int (((2 ^ 200 : Nat) : Int) + 1), .int ((2 ^ 333 : Nat) : Int), .ref a2]) ∧ H' a1 = some (.lst [V.int 2]) ∧ H' a2 = some (.tup [V.int 3]) ∧ H' D = some (.lst []) ∧ Tabs [(Pt, LQ)] H') ⟨same_new hD _ _ g3, same_new hD _ _ g1, same_new hD _ _ g2, upd_same, M3.t.ext (same_new hD)⟩ (fun j H' _ h => SqL.of h.1) ?_ ?_
        · rintro j x H4 hx ⟨w1, w2, w3, w4, w5⟩
          have bad : ∀ H', H' a1 = some (.lst [V.int 2]) → H' a2 = some (.tup [V.int 3]) → Bad K H' x (some 2) (some 1606938044258990275541962092341162602522202993782792835301376) := by
            intro H' e1 e2
            match j, hx with
            | 0, z => cases z; exact ⟨false, isI_non, rfl⟩
            | 1, z => cases z; exact ⟨true, isI_int _, by decide⟩
            | 2, z => cases z; exact ⟨true, isI_int _, by decide⟩
            | 3, z => cases z; exact ⟨true, isI_int _, by decide⟩
            | 4, z => cases z; exact ⟨false, isI_bl _, rfl⟩
            | 5, z => cases z; exact ⟨false, isI_str _, rfl⟩
            | 6, z => cases z; exact ⟨false, isI_lst e1, rfl⟩
            | 7, z => cases z; exact ⟨true, isI_int _, by decide +kernel⟩
            | 8, z => cases z; exact ⟨true, isI_int _, by decide +kernel⟩
            | 9, z => cases z; exact ⟨false, isI_tup e2, rfl⟩
            | j + 10, z => cases z
          refine ⟨rfl, w5, fun Ha ea Ta => ⟨rfl, _, rfl, x, rfl, .inl ⟨bad _ (ea _ _ w2 fun _ z => nomatch z) (ea _ _ w3 fun _ z => nomatch z), fun d hd => ⟨d, "values", rfl, upd_same, rfl, fun q Hb Sb hq => ?_⟩⟩⟩⟩
          have Sd := (same_new (o := .xd [(("part" : Str), .str "values")]) hd).trans Sb
          refine ⟨by show 2 ≤ sizeLine; decide, fun t2 ht2 => ?_⟩
          have S2 := same_new (o := .tup [V.str "number", .str "values"]) ht2
          have SA := Sd.trans S2
          refine ⟨.tuple [.str "number", .str "values"], .tuple [.str "number", .str "values"], Dp.tup (SqT.of (S2 _ _ hq)) (.cons (.str _) (.cons (.str _) .nil)), Dp.tup (SqT.of upd_same) (.cons (.str _) (.cons (.str _) .nil)), (by decide +kernel), (by decide +kernel), _, rfl, ?_⟩
          rw [SeqAt.eqv_refl _ (by decide +kernel)]
          exact ⟨SA _ _ (ea _ _ w1 fun _ z => nomatch z), SA _ _ (ea _ _ w2 fun _ z => nomatch z), SA _ _ (ea _ _ w3 fun _ z => nomatch z), SA _ _ (ea _ _ w4 fun _ z => nomatch z), Ta.ext SA⟩
        · rintro H4 ⟨w1, w2, w3, w4, w5⟩
          refine ⟨by show 0 ≤ sizeLine; decide, fun l9 hl9 => ?_⟩
          refine ⟨.list [], .list [], Dp.lst (SqL.of (same_new hl9 _ _ w4)) .nil, Dp.lst (SqL.of upd_same) .nil, (by decide +kernel), (by decide +kernel), ?_⟩
          rw [SeqAt.eqv_refl _ (by decide +kernel)]
          exact k _
    obtain ⟨t, h1, h2⟩ := t0
    exact ⟨t, h1.nox, h2⟩
end
end K32
namespace K32
open PySem PySem.Spec PyProof.Rows L2 OB SkE LamX ClX
theorem all_mk {l : PySem.W.OpenLaw} {w : World} {K : PySem.W.Frag} {h : Heap} {mg : Str → Option Value} {fa f_is_integer f_is_within f_need_number f_items_of f_integer_of f_item_at f_integer_at f_need_end f_code_for f__law_well f__law_draw f__law_pick f__law_heard f__law_due f_law CF C_BadNumber fi_BadNumber N_BadNumber C_BadCode fi_BadCode N_BadCode C_BadText fi_BadText N_BadText C_Code f_Code_init f_Code_eq f_Code_str f_Code_read p_Code_read c Pt : Addr} {cd_is_integer oc_is_integer kV_is_integer dc_is_integer pm_is_integer ct_is_integer cd_is_within oc_is_within kV_is_within dc_is_within pm_is_within ct_is_within cd_need_number oc_need_number kV_need_number dc_need_number pm_need_number ct_need_number cd_items_of oc_items_of kV_items_of dc_items_of pm_items_of ct_items_of cd_integer_of oc_integer_of kV_integer_of dc_integer_of pm_integer_of ct_integer_of cd_item_at oc_item_at kV_item_at dc_item_at pm_item_at ct_item_at cd_integer_at oc_integer_at kV_integer_at dc_integer_at pm_integer_at ct_integer_at cd_need_end oc_need_end kV_need_end dc_need_end pm_need_end ct_need_end cd_code_for oc_code_for kV_code_for dc_code_for pm_code_for ct_code_for cd__law_well oc__law_well kV__law_well dc__law_well pm__law_well ct__law_well cd__law_draw oc__law_draw kV__law_draw dc__law_draw pm__law_draw ct__law_draw cd__law_pick oc__law_pick kV__law_pick dc__law_pick pm__law_pick ct__law_pick cd__law_heard oc__law_heard kV__law_heard dc__law_heard pm__law_heard ct__law_heard cd__law_due oc__law_due kV__law_due dc__law_due pm__law_due ct__law_due oc_law kV_law dc_law pm_law ct_law oi_BadNumber kVi_BadNumber dci_BadNumber pmi_BadNumber cti_BadNumber cdi_BadNumber oi_BadCode kVi_BadCode dci_BadCode pmi_BadCode cti_BadCode cdi_BadCode oi_BadText kVi_BadText dci_BadText pmi_BadText cti_BadText cdi_BadText oc_Code_init kV_Code_init dc_Code_init pm_Code_init cd_Code_init ct_Code_init oc_Code_eq kV_Code_eq dc_Code_eq pm_Code_eq cd_Code_eq ct_Code_eq oc_Code_str kV_Code_str dc_Code_str pm_Code_str cd_Code_str ct_Code_str oc_Code_read kV_Code_read dc_Code_read pm_Code_read cd_Code_read ct_Code_read : Value} {od_is_integer an_is_integer od_is_within an_is_within od_need_number an_need_number od_items_of an_items_of od_integer_of an_integer_of od_item_at an_item_at od_integer_at an_integer_at od_need_end an_need_end od_code_for an_code_for od__law_well an__law_well od__law_draw an__law_draw od__law_pick an__law_pick od__law_heard an__law_heard od__law_due an__law_due od_law an_law odi_BadNumber ani_BadNumber dd_BadNumber odi_BadCode ani_BadCode dd_BadCode odi_BadText ani_BadText dd_BadText od_Code_init an_Code_init od_Code_eq an_Code_eq od_Code_str an_Code_str od_Code_read an_Code_read odC : Option Addr} {sl_is_integer sl_is_within sl_need_number sl_items_of sl_integer_of sl_item_at sl_integer_at sl_need_end sl_code_for sl__law_well sl__law_draw sl__law_pick sl__law_heard sl__law_due sl_law sli_BadNumber sli_BadCode sli_BadText sl_Code_init sl_Code_eq sl_Code_str sl_Code_read slC : Array (Option Value)} {vsC : Array Value} {t_MOST_DIGITS t_LEAST_BASE t_MOST_BASE t_MOST_DOUBLES t_MOST_VALUES : Tok}{rs_Code_read : List Value} {nm_BadNumber q_BadNumber : Str} {bs_BadNumber sub_BadNumber : List Value} {sn_BadNumber : List Str} {ab_BadNumber : Bool} {col_BadNumber : Option Bool} {m0_BadNumber m1_BadNumber m2_BadNumber m3_BadNumber m5_BadNumber : Option Value} {nm_BadCode q_BadCode : Str} {bs_BadCode sub_BadCode : List Value} {sn_BadCode : List Str} {ab_BadCode : Bool} {col_BadCode : Option Bool} {m0_BadCode m1_BadCode m2_BadCode m3_BadCode m5_BadCode : Option Value} {nm_BadText q_BadText : Str} {bs_BadText sub_BadText : List Value} {sn_BadText : List Str} {ab_BadText : Bool} {col_BadText : Option Bool} {m0_BadText m1_BadText m2_BadText m3_BadText m5_BadText : Option Value}
    (X : K.In h) (G : h.Ns mainGlobals mg) (hfa : mg "law" = some (.ref fa))
    (a_is_integer : PySem.W.nsIn K mainGlobals "is_integer" = some (some (.ref f_is_integer)))
    (l_is_integer : K.lookup f_is_integer = some ⟨oc_is_integer, od_is_integer, .func (PySem.W.fnOf "is_integer" "is_integer" (defArgs s_is_integer) (defBody s_is_integer) (defScope s_is_integer) .none kV_is_integer dc_is_integer pm_is_integer an_is_integer cd_is_integer ct_is_integer), sl_is_integer⟩)
    (c_is_integer : PySem.W.codeIn K cd_is_integer "is_integer" = true)
    (k_is_integer : PySem.W.keepIn K (.ref f_is_integer) = true)
    (a_is_within : PySem.W.nsIn K mainGlobals "is_within" = some (some (.ref f_is_within)))
    (l_is_within : K.lookup f_is_within = some ⟨oc_is_within, od_is_within, .func (PySem.W.fnOf "is_within" "is_within" (defArgs s_is_within) (defBody s_is_within) (defScope s_is_within) .none kV_is_within dc_is_within pm_is_within an_is_within cd_is_within ct_is_within), sl_is_within⟩)
    (c_is_within : PySem.W.codeIn K cd_is_within "is_within" = true)
    (k_is_within : PySem.W.keepIn K (.ref f_is_within) = true)
    (a_need_number : PySem.W.nsIn K mainGlobals "need_number" = some (some (.ref f_need_number)))
    (l_need_number : K.lookup f_need_number = some ⟨oc_need_number, od_need_number, .func (PySem.W.fnOf "need_number" "need_number" (defArgs s_need_number) (defBody s_need_number) (defScope s_need_number) .none kV_need_number dc_need_number pm_need_number an_need_number cd_need_number ct_need_number), sl_need_number⟩)
    (c_need_number : PySem.W.codeIn K cd_need_number "need_number" = true)
    (k_need_number : PySem.W.keepIn K (.ref f_need_number) = true)
    (a_items_of : PySem.W.nsIn K mainGlobals "items_of" = some (some (.ref f_items_of)))
    (l_items_of : K.lookup f_items_of = some ⟨oc_items_of, od_items_of, .func (PySem.W.fnOf "items_of" "items_of" (defArgs s_items_of) (defBody s_items_of) (defScope s_items_of) .none kV_items_of dc_items_of pm_items_of an_items_of cd_items_of ct_items_of), sl_items_of⟩)
    (c_items_of : PySem.W.codeIn K cd_items_of "items_of" = true)
    (k_items_of : PySem.W.keepIn K (.ref f_items_of) = true)
    (a_integer_of : PySem.W.nsIn K mainGlobals "integer_of" = some (some (.ref f_integer_of)))
    (l_integer_of : K.lookup f_integer_of = some ⟨oc_integer_of, od_integer_of, .func (PySem.W.fnOf "integer_of" "integer_of" (defArgs s_integer_of) (defBody s_integer_of) (defScope s_integer_of) .none kV_integer_of dc_integer_of pm_integer_of an_integer_of cd_integer_of ct_integer_of), sl_integer_of⟩)
    (c_integer_of : PySem.W.codeIn K cd_integer_of "integer_of" = true)
    (k_integer_of : PySem.W.keepIn K (.ref f_integer_of) = true)
    (a_item_at : PySem.W.nsIn K mainGlobals "item_at" = some (some (.ref f_item_at)))
    (l_item_at : K.lookup f_item_at = some ⟨oc_item_at, od_item_at, .func (PySem.W.fnOf "item_at" "item_at" (defArgs s_item_at) (defBody s_item_at) (defScope s_item_at) .none kV_item_at dc_item_at pm_item_at an_item_at cd_item_at ct_item_at), sl_item_at⟩)
    (c_item_at : PySem.W.codeIn K cd_item_at "item_at" = true)
    (k_item_at : PySem.W.keepIn K (.ref f_item_at) = true)
    (a_integer_at : PySem.W.nsIn K mainGlobals "integer_at" = some (some (.ref f_integer_at)))
    (l_integer_at : K.lookup f_integer_at = some ⟨oc_integer_at, od_integer_at, .func (PySem.W.fnOf "integer_at" "integer_at" (defArgs s_integer_at) (defBody s_integer_at) (defScope s_integer_at) .none kV_integer_at dc_integer_at pm_integer_at an_integer_at cd_integer_at ct_integer_at), sl_integer_at⟩)
    (c_integer_at : PySem.W.codeIn K cd_integer_at "integer_at" = true)
    (k_integer_at : PySem.W.keepIn K (.ref f_integer_at) = true)
    (a_need_end : PySem.W.nsIn K mainGlobals "need_end" = some (some (.ref f_need_end)))
    (l_need_end : K.lookup f_need_end = some ⟨oc_need_end, od_need_end, .func (PySem.W.fnOf "need_end" "need_end" (defArgs s_need_end) (defBody s_need_end) (defScope s_need_end) .none kV_need_end dc_need_end pm_need_end an_need_end cd_need_end ct_need_end), sl_need_end⟩)
    (c_need_end : PySem.W.codeIn K cd_need_end "need_end" = true)
    (k_need_end : PySem.W.keepIn K (.ref f_need_end) = true)
    (a_code_for : PySem.W.nsIn K mainGlobals "code_for" = some (some (.ref f_code_for)))
    (l_code_for : K.lookup f_code_for = some ⟨oc_code_for, od_code_for, .func (PySem.W.fnOf "code_for" "code_for" (defArgs s_code_for) (defBody s_code_for) (defScope s_code_for) .none kV_code_for dc_code_for pm_code_for an_code_for cd_code_for ct_code_for), sl_code_for⟩)
    (c_code_for : PySem.W.codeIn K cd_code_for "code_for" = true)
    (k_code_for : PySem.W.keepIn K (.ref f_code_for) = true)
    (a__law_well : PySem.W.nsIn K mainGlobals "_law_well" = some (some (.ref f__law_well)))
    (l__law_well : K.lookup f__law_well = some ⟨oc__law_well, od__law_well, .func (PySem.W.fnOf "_law_well" "_law_well" (defArgs s__law_well) (defBody s__law_well) (defScope s__law_well) .none kV__law_well dc__law_well pm__law_well an__law_well cd__law_well ct__law_well), sl__law_well⟩)
    (c__law_well : PySem.W.codeIn K cd__law_well "_law_well" = true)
    (k__law_well : PySem.W.keepIn K (.ref f__law_well) = true)
    (a__law_draw : PySem.W.nsIn K mainGlobals "_law_draw" = some (some (.ref f__law_draw)))
    (l__law_draw : K.lookup f__law_draw = some ⟨oc__law_draw, od__law_draw, .func (PySem.W.fnOf "_law_draw" "_law_draw" (defArgs s__law_draw) (defBody s__law_draw) (defScope s__law_draw) .none kV__law_draw dc__law_draw pm__law_draw an__law_draw cd__law_draw ct__law_draw), sl__law_draw⟩)
    (c__law_draw : PySem.W.codeIn K cd__law_draw "_law_draw" = true)
    (k__law_draw : PySem.W.keepIn K (.ref f__law_draw) = true)
    (a__law_pick : PySem.W.nsIn K mainGlobals "_law_pick" = some (some (.ref f__law_pick)))
    (l__law_pick : K.lookup f__law_pick = some ⟨oc__law_pick, od__law_pick, .func (PySem.W.fnOf "_law_pick" "_law_pick" (defArgs s__law_pick) (defBody s__law_pick) (defScope s__law_pick) .none kV__law_pick dc__law_pick pm__law_pick an__law_pick cd__law_pick ct__law_pick), sl__law_pick⟩)
    (c__law_pick : PySem.W.codeIn K cd__law_pick "_law_pick" = true)
    (k__law_pick : PySem.W.keepIn K (.ref f__law_pick) = true)
    (a__law_heard : PySem.W.nsIn K mainGlobals "_law_heard" = some (some (.ref f__law_heard)))
    (l__law_heard : K.lookup f__law_heard = some ⟨oc__law_heard, od__law_heard, .func (PySem.W.fnOf "_law_heard" "_law_heard" (defArgs s__law_heard) (defBody s__law_heard) (defScope s__law_heard) .none kV__law_heard dc__law_heard pm__law_heard an__law_heard cd__law_heard ct__law_heard), sl__law_heard⟩)
    (c__law_heard : PySem.W.codeIn K cd__law_heard "_law_heard" = true)
    (k__law_heard : PySem.W.keepIn K (.ref f__law_heard) = true)
    (a__law_due : PySem.W.nsIn K mainGlobals "_law_due" = some (some (.ref f__law_due)))
    (l__law_due : K.lookup f__law_due = some ⟨oc__law_due, od__law_due, .func (PySem.W.fnOf "_law_due" "_law_due" (defArgs s__law_due) (defBody s__law_due) (defScope s__law_due) .none kV__law_due dc__law_due pm__law_due an__law_due cd__law_due ct__law_due), sl__law_due⟩)
    (c__law_due : PySem.W.codeIn K cd__law_due "_law_due" = true)
    (k__law_due : PySem.W.keepIn K (.ref f__law_due) = true)
    (a_law : PySem.W.nsIn K mainGlobals "law" = some (some (.ref f_law)))
    (l_law : K.lookup f_law = some ⟨oc_law, od_law, .func (PySem.W.fnOf "law" "law" (defArgs s_law) (defBody s_law) (defScope s_law) .none kV_law dc_law pm_law an_law (.ref c) ct_law), sl_law⟩)
    (c_law : PySem.W.codeIn K (.ref c) "law" = true)
    (k_law : PySem.W.keepIn K (.ref f_law) = true)
    (aF : PySem.W.nsIn K mainGlobals "FlipError" = some (some (.ref CF)))
    (eF : PySem.W.subIn K (.ref CF) (.type "BaseException") = some true)
    (dF : PySem.W.hasDictIn K CF = true)
    (tF : PySem.W.typeIn K (.ref CF) = some (.type "type"))
    (a_BadNumber : PySem.W.nsIn K mainGlobals "BadNumber" = some (some (.ref C_BadNumber)))
    (x_BadNumber : K.lookup C_BadNumber = some (excClassObj nm_BadNumber q_BadNumber C_BadNumber N_BadNumber bs_BadNumber [.ref CF, .type "ValueError", .type "Exception", .type "BaseException", .type "object"] true sn_BadNumber sub_BadNumber ab_BadNumber col_BadNumber dd_BadNumber m0_BadNumber m1_BadNumber m2_BadNumber m3_BadNumber m5_BadNumber "ValueError.__new__"))
    (sa_BadNumber : PySem.W.findIn K (.ref C_BadNumber) "__setattr__" = some (some (.builtin "object.__setattr__")))
    (e_BadNumber : PySem.W.subIn K (.ref C_BadNumber) (.type "BaseException") = some true)
    (t_BadNumber : PySem.W.typeIn K (.ref C_BadNumber) = some (.type "type"))
    (k_BadNumber : PySem.W.keepIn K (.ref C_BadNumber) = true)
    (i_BadNumber : PySem.W.findIn K (.ref C_BadNumber) "__init__" = some (some (.ref fi_BadNumber)))
    (ti_BadNumber : PySem.W.typeIn K (.ref fi_BadNumber) = some (.type "function"))
    (li_BadNumber : K.lookup fi_BadNumber = some ⟨oi_BadNumber, odi_BadNumber, .func (PySem.W.fnOf "__init__" "BadNumber.__init__" (defArgs s_init_BadNumber) (defBody s_init_BadNumber) (defScope s_init_BadNumber) .none kVi_BadNumber dci_BadNumber pmi_BadNumber ani_BadNumber cdi_BadNumber cti_BadNumber), sli_BadNumber⟩)
    (ci_BadNumber : PySem.W.codeIn K cdi_BadNumber "BadNumber.__init__" = true)
    (ki_BadNumber : PySem.W.keepIn K (.ref fi_BadNumber) = true)
    (no_BadNumber_part : PySem.W.findIn K (.ref C_BadNumber) "part" = some none)
    (ga_BadNumber : PySem.W.findIn K (.ref C_BadNumber) "__getattribute__" = some (some (.builtin "BaseException.__getattribute__")))
    (gg_BadNumber : PySem.W.findIn K (.ref C_BadNumber) "__getattr__" = some none)
    (hd_BadNumber : PySem.W.hasDictIn K C_BadNumber = true)
    (ha_BadNumber : PySem.W.findIn K (.ref C_BadNumber) "__class__" = some (some (.builtin "object.__class__")))
    (hm_BadNumber : PySem.W.mroIn K C_BadNumber (.type "object") = some true)
    (sf_BadNumber : PySem.W.subIn K (.ref C_BadNumber) (.ref CF) = some true)
    (is_BadNumber : PySem.W.isClsIn K C_BadNumber = true)
    (z_BadNumber : PySem.W.subIn K (.type "NoneType") (.ref C_BadNumber) = some false)
    (a_BadCode : PySem.W.nsIn K mainGlobals "BadCode" = some (some (.ref C_BadCode)))
    (x_BadCode : K.lookup C_BadCode = some (excClassObj nm_BadCode q_BadCode C_BadCode N_BadCode bs_BadCode [.ref CF, .type "ValueError", .type "Exception", .type "BaseException", .type "object"] true sn_BadCode sub_BadCode ab_BadCode col_BadCode dd_BadCode m0_BadCode m1_BadCode m2_BadCode m3_BadCode m5_BadCode "ValueError.__new__"))
    (sa_BadCode : PySem.W.findIn K (.ref C_BadCode) "__setattr__" = some (some (.builtin "object.__setattr__")))
    (e_BadCode : PySem.W.subIn K (.ref C_BadCode) (.type "BaseException") = some true)
    (t_BadCode : PySem.W.typeIn K (.ref C_BadCode) = some (.type "type"))
    (k_BadCode : PySem.W.keepIn K (.ref C_BadCode) = true)
    (i_BadCode : PySem.W.findIn K (.ref C_BadCode) "__init__" = some (some (.ref fi_BadCode)))
    (ti_BadCode : PySem.W.typeIn K (.ref fi_BadCode) = some (.type "function"))
    (li_BadCode : K.lookup fi_BadCode = some ⟨oi_BadCode, odi_BadCode, .func (PySem.W.fnOf "__init__" "BadCode.__init__" (defArgs s_init_BadCode) (defBody s_init_BadCode) (defScope s_init_BadCode) .none kVi_BadCode dci_BadCode pmi_BadCode ani_BadCode cdi_BadCode cti_BadCode), sli_BadCode⟩)
    (ci_BadCode : PySem.W.codeIn K cdi_BadCode "BadCode.__init__" = true)
    (ki_BadCode : PySem.W.keepIn K (.ref fi_BadCode) = true)
    (no_BadCode_part : PySem.W.findIn K (.ref C_BadCode) "part" = some none)
    (ga_BadCode : PySem.W.findIn K (.ref C_BadCode) "__getattribute__" = some (some (.builtin "BaseException.__getattribute__")))
    (gg_BadCode : PySem.W.findIn K (.ref C_BadCode) "__getattr__" = some none)
    (hd_BadCode : PySem.W.hasDictIn K C_BadCode = true)
    (ha_BadCode : PySem.W.findIn K (.ref C_BadCode) "__class__" = some (some (.builtin "object.__class__")))
    (hm_BadCode : PySem.W.mroIn K C_BadCode (.type "object") = some true)
    (sf_BadCode : PySem.W.subIn K (.ref C_BadCode) (.ref CF) = some true)
    (is_BadCode : PySem.W.isClsIn K C_BadCode = true)
    (z_BadCode : PySem.W.subIn K (.type "NoneType") (.ref C_BadCode) = some false)
    (a_BadText : PySem.W.nsIn K mainGlobals "BadText" = some (some (.ref C_BadText)))
    (x_BadText : K.lookup C_BadText = some (excClassObj nm_BadText q_BadText C_BadText N_BadText bs_BadText [.ref CF, .type "ValueError", .type "Exception", .type "BaseException", .type "object"] true sn_BadText sub_BadText ab_BadText col_BadText dd_BadText m0_BadText m1_BadText m2_BadText m3_BadText m5_BadText "ValueError.__new__"))
    (sa_BadText : PySem.W.findIn K (.ref C_BadText) "__setattr__" = some (some (.builtin "object.__setattr__")))
    (e_BadText : PySem.W.subIn K (.ref C_BadText) (.type "BaseException") = some true)
    (t_BadText : PySem.W.typeIn K (.ref C_BadText) = some (.type "type"))
    (k_BadText : PySem.W.keepIn K (.ref C_BadText) = true)
    (i_BadText : PySem.W.findIn K (.ref C_BadText) "__init__" = some (some (.ref fi_BadText)))
    (ti_BadText : PySem.W.typeIn K (.ref fi_BadText) = some (.type "function"))
    (li_BadText : K.lookup fi_BadText = some ⟨oi_BadText, odi_BadText, .func (PySem.W.fnOf "__init__" "BadText.__init__" (defArgs s_init_BadText) (defBody s_init_BadText) (defScope s_init_BadText) .none kVi_BadText dci_BadText pmi_BadText ani_BadText cdi_BadText cti_BadText), sli_BadText⟩)
    (ci_BadText : PySem.W.codeIn K cdi_BadText "BadText.__init__" = true)
    (ki_BadText : PySem.W.keepIn K (.ref fi_BadText) = true)
    (no_BadText_line : PySem.W.findIn K (.ref C_BadText) "line" = some none)
    (no_BadText_item : PySem.W.findIn K (.ref C_BadText) "item" = some none)
    (ga_BadText : PySem.W.findIn K (.ref C_BadText) "__getattribute__" = some (some (.builtin "BaseException.__getattribute__")))
    (gg_BadText : PySem.W.findIn K (.ref C_BadText) "__getattr__" = some none)
    (hd_BadText : PySem.W.hasDictIn K C_BadText = true)
    (ha_BadText : PySem.W.findIn K (.ref C_BadText) "__class__" = some (some (.builtin "object.__class__")))
    (hm_BadText : PySem.W.mroIn K C_BadText (.type "object") = some true)
    (sf_BadText : PySem.W.subIn K (.ref C_BadText) (.ref CF) = some true)
    (is_BadText : PySem.W.isClsIn K C_BadText = true)
    (z_BadText : PySem.W.subIn K (.type "NoneType") (.ref C_BadText) = some false)
    (sub_BadNumber_BadNumber : PySem.W.subIn K (.ref C_BadNumber) (.ref C_BadNumber) = some true)
    (sub_BadNumber_BadCode : PySem.W.subIn K (.ref C_BadNumber) (.ref C_BadCode) = some false)
    (sub_BadNumber_BadText : PySem.W.subIn K (.ref C_BadNumber) (.ref C_BadText) = some false)
    (sub_BadCode_BadNumber : PySem.W.subIn K (.ref C_BadCode) (.ref C_BadNumber) = some false)
    (sub_BadCode_BadCode : PySem.W.subIn K (.ref C_BadCode) (.ref C_BadCode) = some true)
    (sub_BadCode_BadText : PySem.W.subIn K (.ref C_BadCode) (.ref C_BadText) = some false)
    (sub_BadText_BadNumber : PySem.W.subIn K (.ref C_BadText) (.ref C_BadNumber) = some false)
    (sub_BadText_BadCode : PySem.W.subIn K (.ref C_BadText) (.ref C_BadCode) = some false)
    (sub_BadText_BadText : PySem.W.subIn K (.ref C_BadText) (.ref C_BadText) = some true)
    (spn : PySem.W.specialIn K (.builtin "object.__class__") "__get__" = some (some (.builtin "getset_descriptor.__get__")))
    (tkn : PySem.W.takesIn K (.builtin "object.__class__") = some true)
    (a_MOST_DIGITS : PySem.W.nsIn K mainGlobals "MOST_DIGITS" = some (some (.int 140 t_MOST_DIGITS)))
    (a_LEAST_BASE : PySem.W.nsIn K mainGlobals "LEAST_BASE" = some (some (.int 2 t_LEAST_BASE)))
    (a_MOST_BASE : PySem.W.nsIn K mainGlobals "MOST_BASE" = some (some (.int 3 t_MOST_BASE)))
    (a_MOST_DOUBLES : PySem.W.nsIn K mainGlobals "MOST_DOUBLES" = some (some (.int 199 t_MOST_DOUBLES)))
    (a_MOST_VALUES : PySem.W.nsIn K mainGlobals "MOST_VALUES" = some (some (.int 1606938044258990275541962092341162602522202993782792835301376 t_MOST_VALUES)))
    (n_abs : PySem.W.nsIn K mainGlobals "abs" = some none)
    (n_bool : PySem.W.nsIn K mainGlobals "bool" = some none)
    (n_int : PySem.W.nsIn K mainGlobals "int" = some none)
    (n_isinstance : PySem.W.nsIn K mainGlobals "isinstance" = some none)
    (n_len : PySem.W.nsIn K mainGlobals "len" = some none)
    (n_max : PySem.W.nsIn K mainGlobals "max" = some none)
    (n_min : PySem.W.nsIn K mainGlobals "min" = some none)
    (n_range : PySem.W.nsIn K mainGlobals "range" = some none)
    (n_repr : PySem.W.nsIn K mainGlobals "repr" = some none)
    (n_str : PySem.W.nsIn K mainGlobals "str" = some none)
    (aC_Code : PySem.W.nsIn K mainGlobals "Code" = some (some (.ref C_Code)))
    (pg_Code : PySem.W.plainGet K C_Code Str.empty = true)
    (hdC_Code : PySem.W.hasDictIn K C_Code = true)
    (po_Code : PySem.W.plainOver K C_Code = true)
    (saC_Code : PySem.W.findIn K (.ref C_Code) "__setattr__" = some (some (.builtin "object.__setattr__")))
    (mkC_Code : PySem.W.makesIn K C_Code = true)
    (kcC_Code : PySem.W.keepIn K (.ref C_Code) = true)
    (haC_Code : PySem.W.findIn K (.ref C_Code) "__class__" = some (some (.builtin "object.__class__")))
    (hmC_Code : PySem.W.mroIn K C_Code (.type "object") = some true)
    (isC_Code : PySem.W.isClsIn K C_Code = true)
    (tyC_Code : PySem.W.typeIn K (.ref C_Code) = some (.type "type"))
    (sfC_Code : PySem.W.subIn K (.ref C_Code) (.ref C_Code) = some true)
    (suNoneType_Code : PySem.W.subIn K (.type "NoneType") (.ref C_Code) = some false)
    (suint_Code : PySem.W.subIn K (.type "int") (.ref C_Code) = some false)
    (subool_Code : PySem.W.subIn K (.type "bool") (.ref C_Code) = some false)
    (sustr_Code : PySem.W.subIn K (.type "str") (.ref C_Code) = some false)
    (sulist_Code : PySem.W.subIn K (.type "list") (.ref C_Code) = some false)
    (sutuple_Code : PySem.W.subIn K (.type "tuple") (.ref C_Code) = some false)
    (sudict_Code : PySem.W.subIn K (.type "dict") (.ref C_Code) = some false)
    (nC_Code_base : PySem.W.findIn K (.ref C_Code) "base" = some none)
    (nC_Code_doubles : PySem.W.findIn K (.ref C_Code) "doubles" = some none)
    (nC_Code_many : PySem.W.findIn K (.ref C_Code) "many" = some none)
    (nC_Code_bits : PySem.W.findIn K (.ref C_Code) "bits" = some none)
    (fi_Code_init : PySem.W.findIn K (.ref C_Code) "__init__" = some (some (.ref f_Code_init)))
    (if_Code_init : PySem.W.isFn K (.ref f_Code_init) = true)
    (l_Code_init : K.lookup f_Code_init = some ⟨oc_Code_init, od_Code_init, .func (PySem.W.fnOf "__init__" "Code.__init__" (defArgs s_Code_init) (defBody s_Code_init) (defScope s_Code_init) .none kV_Code_init dc_Code_init pm_Code_init an_Code_init cd_Code_init ct_Code_init), sl_Code_init⟩)
    (c_Code_init : PySem.W.codeIn K cd_Code_init "Code.__init__" = true)
    (k_Code_init : PySem.W.keepIn K (.ref f_Code_init) = true)
    (fi_Code_eq : PySem.W.findIn K (.ref C_Code) "__eq__" = some (some (.ref f_Code_eq)))
    (if_Code_eq : PySem.W.isFn K (.ref f_Code_eq) = true)
    (l_Code_eq : K.lookup f_Code_eq = some ⟨oc_Code_eq, od_Code_eq, .func (PySem.W.fnOf "__eq__" "Code.__eq__" (defArgs s_Code_eq) (defBody s_Code_eq) (defScope s_Code_eq) .none kV_Code_eq dc_Code_eq pm_Code_eq an_Code_eq cd_Code_eq ct_Code_eq), sl_Code_eq⟩)
    (c_Code_eq : PySem.W.codeIn K cd_Code_eq "Code.__eq__" = true)
    (k_Code_eq : PySem.W.keepIn K (.ref f_Code_eq) = true)
    (ne_Code : PySem.W.findIn K (.ref C_Code) "__ne__" = some (some (.builtin "object.__ne__")))
    (fi_Code_str : PySem.W.findIn K (.ref C_Code) "__str__" = some (some (.ref f_Code_str)))
    (if_Code_str : PySem.W.isFn K (.ref f_Code_str) = true)
    (l_Code_str : K.lookup f_Code_str = some ⟨oc_Code_str, od_Code_str, .func (PySem.W.fnOf "__str__" "Code.__str__" (defArgs s_Code_str) (defBody s_Code_str) (defScope s_Code_str) .none kV_Code_str dc_Code_str pm_Code_str an_Code_str cd_Code_str ct_Code_str), sl_Code_str⟩)
    (c_Code_str : PySem.W.codeIn K cd_Code_str "Code.__str__" = true)
    (k_Code_str : PySem.W.keepIn K (.ref f_Code_str) = true)
    (sm_Code_read : PySem.W.findCls K (.ref C_Code) (.type "type") "read" = some (.get (.builtin "staticmethod.__get__") (.ref p_Code_read) .none (.ref C_Code)))
    (rc_Code_read : PySem.W.recIn K p_Code_read "staticmethod" = some (.ref f_Code_read :: rs_Code_read))
    (l_Code_read : K.lookup f_Code_read = some ⟨oc_Code_read, od_Code_read, .func (PySem.W.fnOf "read" "Code.read" (defArgs s_Code_read) (defBody s_Code_read) (defScope s_Code_read) .none kV_Code_read dc_Code_read pm_Code_read an_Code_read cd_Code_read ct_Code_read), sl_Code_read⟩)
    (c_Code_read : PySem.W.codeIn K cd_Code_read "Code.read" = true)
    (k_Code_read : PySem.W.keepIn K (.ref f_Code_read) = true)
    (rdC_Code : PySem.W.readsIn K C_Code (.type "type") = true)
    (gaC_Code : PySem.W.specialIn K (.ref C_Code) "__getattribute__" = some (some (.builtin "type.__getattribute__")))
    (l_code : K.lookup c = some ⟨.type "code", odC, .fields vsC, slC⟩)
    (v11 : vsC[11]? = some (.ref Pt))
    (hdc : PySem.W.codeHdIn K c Pt = true)
    (kPt : K.lookup Pt = none)
    (hPt : h.get? Pt = some { cls := .none, data := .fields #[] }) :
    OB.LawG l w K CX0 12 63 "script" mg fa h := by
  have efa := hfa.symm.trans (PySem.W.mg_of X G a_law)
  cases efa
  have D_is_integer : Df K mg "is_integer" s_is_integer ["value"] f_is_integer _ := ⟨fun_mk (st := s_is_integer) l_is_integer c_is_integer k_is_integer, PySem.W.mg_of X G a_is_integer, (fun_mk (st := s_is_integer) l_is_integer c_is_integer k_is_integer).binds (ps := ["value"]) fun _ _ _ _ _ _ us hl => match us, hl with | [_], _ => rfl⟩
  have D_is_within : Df K mg "is_within" s_is_within ["value", "least", "most"] f_is_within _ := ⟨fun_mk (st := s_is_within) l_is_within c_is_within k_is_within, PySem.W.mg_of X G a_is_within, (fun_mk (st := s_is_within) l_is_within c_is_within k_is_within).binds (ps := ["value", "least", "most"]) fun _ _ _ _ _ _ us hl => match us, hl with | [_, _, _], _ => rfl⟩
  have D_need_number : Df K mg "need_number" s_need_number ["value", "part", "least", "most"] f_need_number _ := ⟨fun_mk (st := s_need_number) l_need_number c_need_number k_need_number, PySem.W.mg_of X G a_need_number, (fun_mk (st := s_need_number) l_need_number c_need_number k_need_number).binds (ps := ["value", "part", "least", "most"]) fun _ _ _ _ _ _ us hl => match us, hl with | [_, _, _, _], _ => rfl⟩
  have D_items_of : Df K mg "items_of" s_items_of ["text"] f_items_of _ := ⟨fun_mk (st := s_items_of) l_items_of c_items_of k_items_of, PySem.W.mg_of X G a_items_of, (fun_mk (st := s_items_of) l_items_of c_items_of k_items_of).binds (ps := ["text"]) fun _ _ _ _ _ _ us hl => match us, hl with | [_], _ => rfl⟩
  have D_integer_of : Df K mg "integer_of" s_integer_of ["item"] f_integer_of _ := ⟨fun_mk (st := s_integer_of) l_integer_of c_integer_of k_integer_of, PySem.W.mg_of X G a_integer_of, (fun_mk (st := s_integer_of) l_integer_of c_integer_of k_integer_of).binds (ps := ["item"]) fun _ _ _ _ _ _ us hl => match us, hl with | [_], _ => rfl⟩
  have D_item_at : Df K mg "item_at" s_item_at ["items", "at"] f_item_at _ := ⟨fun_mk (st := s_item_at) l_item_at c_item_at k_item_at, PySem.W.mg_of X G a_item_at, (fun_mk (st := s_item_at) l_item_at c_item_at k_item_at).binds (ps := ["items", "at"]) fun _ _ _ _ _ _ us hl => match us, hl with | [_, _], _ => rfl⟩
  have D_integer_at : Df K mg "integer_at" s_integer_at ["items", "at", "least", "most"] f_integer_at _ := ⟨fun_mk (st := s_integer_at) l_integer_at c_integer_at k_integer_at, PySem.W.mg_of X G a_integer_at, (fun_mk (st := s_integer_at) l_integer_at c_integer_at k_integer_at).binds (ps := ["items", "at", "least", "most"]) fun _ _ _ _ _ _ us hl => match us, hl with | [_, _, _, _], _ => rfl⟩
  have D_need_end : Df K mg "need_end" s_need_end ["items", "at"] f_need_end _ := ⟨fun_mk (st := s_need_end) l_need_end c_need_end k_need_end, PySem.W.mg_of X G a_need_end, (fun_mk (st := s_need_end) l_need_end c_need_end k_need_end).binds (ps := ["items", "at"]) fun _ _ _ _ _ _ us hl => match us, hl with | [_, _], _ => rfl⟩
  have D_code_for : Df K mg "code_for" s_code_for ["values"] f_code_for _ := ⟨fun_mk (st := s_code_for) l_code_for c_code_for k_code_for, PySem.W.mg_of X G a_code_for, (fun_mk (st := s_code_for) l_code_for c_code_for k_code_for).binds (ps := ["values"]) fun _ _ _ _ _ _ us hl => match us, hl with | [_], _ => rfl⟩
  have D__law_well : Df K mg "_law_well" s__law_well ["script"] f__law_well _ := ⟨fun_mk (st := s__law_well) l__law_well c__law_well k__law_well, PySem.W.mg_of X G a__law_well, (fun_mk (st := s__law_well) l__law_well c__law_well k__law_well).binds (ps := ["script"]) fun _ _ _ _ _ _ us hl => match us, hl with | [_], _ => rfl⟩
  have D__law_draw : Df K mg "_law_draw" s__law_draw ["well", "many"] f__law_draw _ := ⟨fun_mk (st := s__law_draw) l__law_draw c__law_draw k__law_draw, PySem.W.mg_of X G a__law_draw, (fun_mk (st := s__law_draw) l__law_draw c__law_draw k__law_draw).binds (ps := ["well", "many"]) fun _ _ _ _ _ _ us hl => match us, hl with | [_, _], _ => rfl⟩
  have D__law_pick : Df K mg "_law_pick" s__law_pick ["well", "some"] f__law_pick _ := ⟨fun_mk (st := s__law_pick) l__law_pick c__law_pick k__law_pick, PySem.W.mg_of X G a__law_pick, (fun_mk (st := s__law_pick) l__law_pick c__law_pick k__law_pick).binds (ps := ["well", "some"]) fun _ _ _ _ _ _ us hl => match us, hl with | [_, _], _ => rfl⟩
  have D__law_heard : Df K mg "_law_heard" s__law_heard ["ask"] f__law_heard _ := ⟨fun_mk (st := s__law_heard) l__law_heard c__law_heard k__law_heard, PySem.W.mg_of X G a__law_heard, (fun_mk (st := s__law_heard) l__law_heard c__law_heard k__law_heard).binds (ps := ["ask"]) fun _ _ _ _ _ _ us hl => match us, hl with | [_], _ => rfl⟩
  have D__law_due : Df K mg "_law_due" s__law_due ["values"] f__law_due _ := ⟨fun_mk (st := s__law_due) l__law_due c__law_due k__law_due, PySem.W.mg_of X G a__law_due, (fun_mk (st := s__law_due) l__law_due c__law_due k__law_due).binds (ps := ["values"]) fun _ _ _ _ _ _ us hl => match us, hl with | [_], _ => rfl⟩
  have FI_BadNumber := fun_mk (st := s_init_BadNumber) li_BadNumber ci_BadNumber ki_BadNumber
  have BI_BadNumber := FI_BadNumber.binds (ps := ["self", "part"]) fun _ _ _ _ _ _ us hl => match us, hl with | [_, _], _ => rfl
  have O_BadNumber : OexC K C_BadNumber := ⟨⟨_, _, _, _, _, _, _, _, _, _, _, _, _, _, _, x_BadNumber, by rfl⟩, sa_BadNumber, e_BadNumber, t_BadNumber, k_BadNumber⟩
  have XF_BadNumber : XfC K C_BadNumber := ⟨ga_BadNumber, gg_BadNumber, e_BadNumber, hd_BadNumber⟩
  have EC_BadNumber : ExcC K C_BadNumber := ⟨ga_BadNumber, gg_BadNumber, e_BadNumber, hd_BadNumber, ha_BadNumber, spn, tkn, hm_BadNumber⟩
  have EX_BadNumber : PySem.W.exmOne K (.ref C_BadNumber) (.ref CF) = some true := PySem.W.exm_ref eF dF tF sf_BadNumber
  have kit_BadNumber_BadNumber : PySem.W.kitOne K (.ref C_BadNumber) (.ref C_BadNumber) = some true := kit_sub is_BadNumber t_BadNumber sub_BadNumber_BadNumber sub_BadNumber_BadNumber
  have kit_BadCode_BadNumber : PySem.W.kitOne K (.ref C_BadCode) (.ref C_BadNumber) = some false := kit_sub is_BadNumber t_BadNumber sub_BadNumber_BadNumber sub_BadCode_BadNumber
  have kit_BadText_BadNumber : PySem.W.kitOne K (.ref C_BadText) (.ref C_BadNumber) = some false := kit_sub is_BadNumber t_BadNumber sub_BadNumber_BadNumber sub_BadText_BadNumber
  have kz_BadNumber : PySem.W.kitOne K (.type "NoneType") (.ref C_BadNumber) = some false := kit_sub is_BadNumber t_BadNumber sub_BadNumber_BadNumber z_BadNumber
  have g_BadNumber : mg "BadNumber" = some (.ref C_BadNumber) := PySem.W.mg_of X G a_BadNumber
  have FI_BadCode := fun_mk (st := s_init_BadCode) li_BadCode ci_BadCode ki_BadCode
  have BI_BadCode := FI_BadCode.binds (ps := ["self", "part"]) fun _ _ _ _ _ _ us hl => match us, hl with | [_, _], _ => rfl
  have O_BadCode : OexC K C_BadCode := ⟨⟨_, _, _, _, _, _, _, _, _, _, _, _, _, _, _, x_BadCode, by rfl⟩, sa_BadCode, e_BadCode, t_BadCode, k_BadCode⟩
  have XF_BadCode : XfC K C_BadCode := ⟨ga_BadCode, gg_BadCode, e_BadCode, hd_BadCode⟩
  have EC_BadCode : ExcC K C_BadCode := ⟨ga_BadCode, gg_BadCode, e_BadCode, hd_BadCode, ha_BadCode, spn, tkn, hm_BadCode⟩
  have EX_BadCode : PySem.W.exmOne K (.ref C_BadCode) (.ref CF) = some true := PySem.W.exm_ref eF dF tF sf_BadCode
  have kit_BadNumber_BadCode : PySem.W.kitOne K (.ref C_BadNumber) (.ref C_BadCode) = some false := kit_sub is_BadCode t_BadCode sub_BadCode_BadCode sub_BadNumber_BadCode
  have kit_BadCode_BadCode : PySem.W.kitOne K (.ref C_BadCode) (.ref C_BadCode) = some true := kit_sub is_BadCode t_BadCode sub_BadCode_BadCode sub_BadCode_BadCode
  have kit_BadText_BadCode : PySem.W.kitOne K (.ref C_BadText) (.ref C_BadCode) = some false := kit_sub is_BadCode t_BadCode sub_BadCode_BadCode sub_BadText_BadCode
  have kz_BadCode : PySem.W.kitOne K (.type "NoneType") (.ref C_BadCode) = some false := kit_sub is_BadCode t_BadCode sub_BadCode_BadCode z_BadCode
  have g_BadCode : mg "BadCode" = some (.ref C_BadCode) := PySem.W.mg_of X G a_BadCode
  have FI_BadText := fun_mk (st := s_init_BadText) li_BadText ci_BadText ki_BadText
  have BI_BadText := FI_BadText.binds (ps := ["self", "line", "item"]) fun _ _ _ _ _ _ us hl => match us, hl with | [_, _, _], _ => rfl
  have O_BadText : OexC K C_BadText := ⟨⟨_, _, _, _, _, _, _, _, _, _, _, _, _, _, _, x_BadText, by rfl⟩, sa_BadText, e_BadText, t_BadText, k_BadText⟩
  have XF_BadText : XfC K C_BadText := ⟨ga_BadText, gg_BadText, e_BadText, hd_BadText⟩
  have EC_BadText : ExcC K C_BadText := ⟨ga_BadText, gg_BadText, e_BadText, hd_BadText, ha_BadText, spn, tkn, hm_BadText⟩
  have EX_BadText : PySem.W.exmOne K (.ref C_BadText) (.ref CF) = some true := PySem.W.exm_ref eF dF tF sf_BadText
  have kit_BadNumber_BadText : PySem.W.kitOne K (.ref C_BadNumber) (.ref C_BadText) = some false := kit_sub is_BadText t_BadText sub_BadText_BadText sub_BadNumber_BadText
  have kit_BadCode_BadText : PySem.W.kitOne K (.ref C_BadCode) (.ref C_BadText) = some false := kit_sub is_BadText t_BadText sub_BadText_BadText sub_BadCode_BadText
  have kit_BadText_BadText : PySem.W.kitOne K (.ref C_BadText) (.ref C_BadText) = some true := kit_sub is_BadText t_BadText sub_BadText_BadText sub_BadText_BadText
  have kz_BadText : PySem.W.kitOne K (.type "NoneType") (.ref C_BadText) = some false := kit_sub is_BadText t_BadText sub_BadText_BadText z_BadText
  have g_BadText : mg "BadText" = some (.ref C_BadText) := PySem.W.mg_of X G a_BadText
  have F_Code_init := fun_mk (st := s_Code_init) l_Code_init c_Code_init k_Code_init
  have b_Code_init := F_Code_init.binds (ps := ["self", "base", "doubles"]) fun _ _ _ _ _ _ us hl => match us, hl with | [_, _, _], _ => rfl
  have F_Code_eq := fun_mk (st := s_Code_eq) l_Code_eq c_Code_eq k_Code_eq
  have b_Code_eq := F_Code_eq.binds (ps := ["self", "other"]) fun _ _ _ _ _ _ us hl => match us, hl with | [_, _], _ => rfl
  have EQ_Code : OwnEqC K C_Code f_Code_eq := ⟨fi_Code_eq, if_Code_eq, ne_Code, hmC_Code⟩
  have F_Code_str := fun_mk (st := s_Code_str) l_Code_str c_Code_str k_Code_str
  have b_Code_str := F_Code_str.binds (ps := ["self"]) fun _ _ _ _ _ _ us hl => match us, hl with | [_], _ => rfl
  have ST_Code : OwnStrC K C_Code f_Code_str := ⟨fi_Code_str, if_Code_str⟩
  have F_Code_read := fun_mk (st := s_Code_read) l_Code_read c_Code_read k_Code_read
  have b_Code_read := F_Code_read.binds (ps := ["text"]) fun _ _ _ _ _ _ us hl => match us, hl with | [_], _ => rfl
  have SM_Code_read : CStat K C_Code (.type "type") "read" p_Code_read f_Code_read := ⟨sm_Code_read, ⟨_, rc_Code_read⟩, k_Code_read⟩
  have RD_Code : CRead K C_Code (.type "type") := ⟨rdC_Code, gaC_Code⟩
  have O_Code : OwnC K mg "Code" C_Code f_Code_init := ⟨⟨pg_Code, hdC_Code, po_Code, saC_Code⟩, PySem.W.mg_of X G aC_Code, ⟨mkC_Code, fi_Code_init, if_Code_init, kcC_Code⟩, haC_Code, spn, tkn, hmC_Code, kit_sub isC_Code tyC_Code sfC_Code sfC_Code, fun n hn => by
    simp only [List.mem_cons, List.not_mem_nil, or_false] at hn
    rcases hn with rfl | rfl | rfl | rfl | rfl | rfl | rfl
    · exact kit_sub isC_Code tyC_Code sfC_Code suNoneType_Code
    · exact kit_sub isC_Code tyC_Code sfC_Code suint_Code
    · exact kit_sub isC_Code tyC_Code sfC_Code subool_Code
    · exact kit_sub isC_Code tyC_Code sfC_Code sustr_Code
    · exact kit_sub isC_Code tyC_Code sfC_Code sulist_Code
    · exact kit_sub isC_Code tyC_Code sfC_Code sutuple_Code
    · exact kit_sub isC_Code tyC_Code sfC_Code sudict_Code
    , sutuple_Code⟩
  have T : Blt mg := ⟨⟨_, PySem.W.mg_of X G a_MOST_DIGITS⟩, ⟨_, PySem.W.mg_of X G a_LEAST_BASE⟩, ⟨_, PySem.W.mg_of X G a_MOST_BASE⟩, ⟨_, PySem.W.mg_of X G a_MOST_DOUBLES⟩, ⟨_, PySem.W.mg_of X G a_MOST_VALUES⟩, PySem.W.mg_none_of X G n_abs, PySem.W.mg_none_of X G n_bool, PySem.W.mg_none_of X G n_int, PySem.W.mg_none_of X G n_isinstance, PySem.W.mg_none_of X G n_len, PySem.W.mg_none_of X G n_max, PySem.W.mg_none_of X G n_min, PySem.W.mg_none_of X G n_range, PySem.W.mg_none_of X G n_repr, PySem.W.mg_none_of X G n_str⟩
  refine ⟨PySem.W.fnOf "law" "law" (defArgs s_law) (defBody s_law) (defScope s_law) .none kV_law dc_law pm_law an_law (.ref c) ct_law, [(c, Pt)], spLaw K Pt, ⟨fun p hp => ?_, fun p hp => ?_, fun p hp => ?_⟩, fun s u => .of_eq rfl, fun H a ns hl _ hP hS => ⟨a, ns, rfl, hS, hl, hP _ List.mem_cons_self, fun _ => rfl⟩, fun base hK hG hTB => ?_⟩
  · rw [List.mem_singleton.mp hp]
    exact hPt
  · rw [List.mem_singleton.mp hp]
    exact kPt
  · rw [List.mem_singleton.mp hp]
    exact PySem.W.codeHd_of_K X hdc
  · have R_BadNumber : Err l.prog w K mg base "BadNumber" "part" C_BadNumber fi_BadNumber _ := ⟨O_BadNumber, i_BadNumber, ti_BadNumber, ok_init1 FI_BadNumber sc_init_BadNumber rfl (.inl rfl) (.inl rfl), BI_BadNumber, g_BadNumber, no_BadNumber_part⟩
    have Z : Kinds K mg CF C_BadNumber := ⟨PySem.W.mg_of X G aF, g_BadNumber, ⟨XF_BadNumber, EC_BadNumber, EX_BadNumber, no_BadNumber_part⟩, kit_BadNumber_BadNumber⟩
    have G_need_number := ok_need_number (P := l.prog) (w := w) (base := base) D_need_number.F D_is_within D_is_integer T R_BadNumber
    have G_Code_init := ok_Code_init (P := l.prog) (w := w) (base := base) F_Code_init T O_Code nC_Code_base nC_Code_doubles nC_Code_many nC_Code_bits D_is_within D_is_integer
    have G_Code_eq := ok_Code_eq (P := l.prog) (w := w) (base := base) F_Code_eq T O_Code nC_Code_base nC_Code_doubles
    have G_code_for := ok_code_for (P := l.prog) (w := w) (base := base) D_code_for.F T O_Code D_need_number G_need_number b_Code_init G_Code_init
    have G__law_well := ok__law_well (P := l.prog) (w := w) (base := base) D__law_well.F T
    exact ok_law T l_law c_law (hTB _ List.mem_cons_self) Z O_Code nC_Code_base nC_Code_doubles nC_Code_many nC_Code_bits D__law_well G__law_well D__law_draw D__law_pick D__law_heard D__law_due D_code_for G_code_for b_Code_init G_Code_init EQ_Code b_Code_eq G_Code_eq
end K32
open PySem PySem.W PyProof.Rows
set_option maxRecDepth 100000 in
set_option maxHeartbeats 0 in
theorem PySem.Challenge.cw_oneflip_k32_codes_of_fewest_bits_holds : PySem.Challenge.rw_oneflip_k32_codes_of_fewest_bits.Holds := by
  w_on; o_law; k_head; (case hw => w_witness2)
  k_fill
  refine OB.walk_G (l := PySem.Challenge.rw_oneflip_k32_codes_of_fewest_bits) (n := 63) (k := 12) (x := "script") (CX := fun _ => L2.CX0) rfl (by decide) rfl ⟨rfl, by decide, by decide⟩ (fun w h Y => PySem.W.km_in_of Y) ?F (fun _ _ _ _ _ z => z)
  case F =>
    intro w mg fa h Y KX G hmg
    refine' K32.all_mk KX G hmg ?a_is_integer ?l_is_integer ?c_is_integer ?k_is_integer ?a_is_within ?l_is_within ?c_is_within ?k_is_within ?a_need_number ?l_need_number ?c_need_number ?k_need_number ?a_items_of ?l_items_of ?c_items_of ?k_items_of ?a_integer_of ?l_integer_of ?c_integer_of ?k_integer_of ?a_item_at ?l_item_at ?c_item_at ?k_item_at ?a_integer_at ?l_integer_at ?c_integer_at ?k_integer_at ?a_need_end ?l_need_end ?c_need_end ?k_need_end ?a_code_for ?l_code_for ?c_code_for ?k_code_for ?a__law_well ?l__law_well ?c__law_well ?k__law_well ?a__law_draw ?l__law_draw ?c__law_draw ?k__law_draw ?a__law_pick ?l__law_pick ?c__law_pick ?k__law_pick ?a__law_heard ?l__law_heard ?c__law_heard ?k__law_heard ?a__law_due ?l__law_due ?c__law_due ?k__law_due ?a_law ?l_law ?c_law ?k_law ?aF ?eF ?dF ?tF ?a_BadNumber ?x_BadNumber ?sa_BadNumber ?e_BadNumber ?t_BadNumber ?k_BadNumber ?i_BadNumber ?ti_BadNumber ?li_BadNumber ?ci_BadNumber ?ki_BadNumber ?no_BadNumber_part ?ga_BadNumber ?gg_BadNumber ?hd_BadNumber ?ha_BadNumber ?hm_BadNumber ?sf_BadNumber ?is_BadNumber ?z_BadNumber ?a_BadCode ?x_BadCode ?sa_BadCode ?e_BadCode ?t_BadCode ?k_BadCode ?i_BadCode ?ti_BadCode ?li_BadCode ?ci_BadCode ?ki_BadCode ?no_BadCode_part ?ga_BadCode ?gg_BadCode ?hd_BadCode ?ha_BadCode ?hm_BadCode ?sf_BadCode ?is_BadCode ?z_BadCode ?a_BadText ?x_BadText ?sa_BadText ?e_BadText ?t_BadText ?k_BadText ?i_BadText ?ti_BadText ?li_BadText ?ci_BadText ?ki_BadText ?no_BadText_line ?no_BadText_item ?ga_BadText ?gg_BadText ?hd_BadText ?ha_BadText ?hm_BadText ?sf_BadText ?is_BadText ?z_BadText ?sub_BadNumber_BadNumber ?sub_BadNumber_BadCode ?sub_BadNumber_BadText ?sub_BadCode_BadNumber ?sub_BadCode_BadCode ?sub_BadCode_BadText ?sub_BadText_BadNumber ?sub_BadText_BadCode ?sub_BadText_BadText ?spn ?tkn ?a_MOST_DIGITS ?a_LEAST_BASE ?a_MOST_BASE ?a_MOST_DOUBLES ?a_MOST_VALUES ?n_abs ?n_bool ?n_int ?n_isinstance ?n_len ?n_max ?n_min ?n_range ?n_repr ?n_str ?aC_Code ?pg_Code ?hdC_Code ?po_Code ?saC_Code ?mkC_Code ?kcC_Code ?haC_Code ?hmC_Code ?isC_Code ?tyC_Code ?sfC_Code ?suNoneType_Code ?suint_Code ?subool_Code ?sustr_Code ?sulist_Code ?sutuple_Code ?sudict_Code ?nC_Code_base ?nC_Code_doubles ?nC_Code_many ?nC_Code_bits ?fi_Code_init ?if_Code_init ?l_Code_init ?c_Code_init ?k_Code_init ?fi_Code_eq ?if_Code_eq ?l_Code_eq ?c_Code_eq ?k_Code_eq ?ne_Code ?fi_Code_str ?if_Code_str ?l_Code_str ?c_Code_str ?k_Code_str ?sm_Code_read ?rc_Code_read ?l_Code_read ?c_Code_read ?k_Code_read ?rdC_Code ?gaC_Code ?l_code ?v11 ?hdc ?kPt ?hPt
    (case a_is_integer => k_is)
    (case l_is_integer => k_is)
    (case c_is_integer => k_is)
    (case k_is_integer => k_is)
    (case a_is_within => k_is)
    (case l_is_within => k_is)
    (case c_is_within => k_is)
    (case k_is_within => k_is)
    (case a_need_number => k_is)
    (case l_need_number => k_is)
    (case c_need_number => k_is)
    (case k_need_number => k_is)
    (case a_items_of => k_is)
    (case l_items_of => k_is)
    (case c_items_of => k_is)
    (case k_items_of => k_is)
    (case a_integer_of => k_is)
    (case l_integer_of => k_is)
    (case c_integer_of => k_is)
    (case k_integer_of => k_is)
    (case a_item_at => k_is)
    (case l_item_at => k_is)
    (case c_item_at => k_is)
    (case k_item_at => k_is)
    (case a_integer_at => k_is)
    (case l_integer_at => k_is)
    (case c_integer_at => k_is)
    (case k_integer_at => k_is)
    (case a_need_end => k_is)
    (case l_need_end => k_is)
    (case c_need_end => k_is)
    (case k_need_end => k_is)
    (case a_code_for => k_is)
    (case l_code_for => k_is)
    (case c_code_for => k_is)
    (case k_code_for => k_is)
    (case a__law_well => k_is)
    (case l__law_well => k_is)
    (case c__law_well => k_is)
    (case k__law_well => k_is)
    (case a__law_draw => k_is)
    (case l__law_draw => k_is)
    (case c__law_draw => k_is)
    (case k__law_draw => k_is)
    (case a__law_pick => k_is)
    (case l__law_pick => k_is)
    (case c__law_pick => k_is)
    (case k__law_pick => k_is)
    (case a__law_heard => k_is)
    (case l__law_heard => k_is)
    (case c__law_heard => k_is)
    (case k__law_heard => k_is)
    (case a__law_due => k_is)
    (case l__law_due => k_is)
    (case c__law_due => k_is)
    (case k__law_due => k_is)
    (case a_law => k_is)
    (case l_law => k_is)
    (case c_law => k_is)
    (case k_law => k_is)
    (case aF => k_is)
    (case eF => k_is)
    (case dF => k_is)
    (case tF => k_is)
    (case a_BadNumber => k_is)
    (case x_BadNumber => k_is)
    (case sa_BadNumber => k_is)
    (case e_BadNumber => k_is)
    (case t_BadNumber => k_is)
    (case k_BadNumber => k_is)
    (case i_BadNumber => k_is)
    (case ti_BadNumber => k_is)
    (case li_BadNumber => k_is)
    (case ci_BadNumber => k_is)
    (case ki_BadNumber => k_is)
    (case no_BadNumber_part => k_is)
    (case ga_BadNumber => k_is)
    (case gg_BadNumber => k_is)
    (case hd_BadNumber => k_is)
    (case ha_BadNumber => k_is)
    (case hm_BadNumber => k_is)
    (case sf_BadNumber => k_is)
    (case is_BadNumber => k_is)
    (case z_BadNumber => k_is)
    (case a_BadCode => k_is)
    (case x_BadCode => k_is)
    (case sa_BadCode => k_is)
    (case e_BadCode => k_is)
    (case t_BadCode => k_is)
    (case k_BadCode => k_is)
    (case i_BadCode => k_is)
    (case ti_BadCode => k_is)
    (case li_BadCode => k_is)
    (case ci_BadCode => k_is)
    (case ki_BadCode => k_is)
    (case no_BadCode_part => k_is)
    (case ga_BadCode => k_is)
    (case gg_BadCode => k_is)
    (case hd_BadCode => k_is)
    (case ha_BadCode => k_is)
    (case hm_BadCode => k_is)
    (case sf_BadCode => k_is)
    (case is_BadCode => k_is)
    (case z_BadCode => k_is)
    (case a_BadText => k_is)
    (case x_BadText => k_is)
    (case sa_BadText => k_is)
    (case e_BadText => k_is)
    (case t_BadText => k_is)
    (case k_BadText => k_is)
    (case i_BadText => k_is)
    (case ti_BadText => k_is)
    (case li_BadText => k_is)
    (case ci_BadText => k_is)
    (case ki_BadText => k_is)
    (case no_BadText_line => k_is)
    (case no_BadText_item => k_is)
    (case ga_BadText => k_is)
    (case gg_BadText => k_is)
    (case hd_BadText => k_is)
    (case ha_BadText => k_is)
    (case hm_BadText => k_is)
    (case sf_BadText => k_is)
    (case is_BadText => k_is)
    (case z_BadText => k_is)
    (case sub_BadNumber_BadNumber => k_is)
    (case sub_BadNumber_BadCode => k_is)
    (case sub_BadNumber_BadText => k_is)
    (case sub_BadCode_BadNumber => k_is)
    (case sub_BadCode_BadCode => k_is)
    (case sub_BadCode_BadText => k_is)
    (case sub_BadText_BadNumber => k_is)
    (case sub_BadText_BadCode => k_is)
    (case sub_BadText_BadText => k_is)
    (case spn => k_is)
    (case tkn => k_is)
    (case a_MOST_DIGITS => k_is)
    (case a_LEAST_BASE => k_is)
    (case a_MOST_BASE => k_is)
    (case a_MOST_DOUBLES => k_is)
    (case a_MOST_VALUES => k_is)
    (case n_abs => k_is)
    (case n_bool => k_is)
    (case n_int => k_is)
    (case n_isinstance => k_is)
    (case n_len => k_is)
    (case n_max => k_is)
    (case n_min => k_is)
    (case n_range => k_is)
    (case n_repr => k_is)
    (case n_str => k_is)
    (case aC_Code => k_is)
    (case pg_Code => k_is)
    (case hdC_Code => k_is)
    (case po_Code => k_is)
    (case saC_Code => k_is)
    (case mkC_Code => k_is)
    (case kcC_Code => k_is)
    (case haC_Code => k_is)
    (case hmC_Code => k_is)
    (case isC_Code => k_is)
    (case tyC_Code => k_is)
    (case sfC_Code => k_is)
    (case suNoneType_Code => k_is)
    (case suint_Code => k_is)
    (case subool_Code => k_is)
    (case sustr_Code => k_is)
    (case sulist_Code => k_is)
    (case sutuple_Code => k_is)
    (case sudict_Code => k_is)
    (case nC_Code_base => k_is)
    (case nC_Code_doubles => k_is)
    (case nC_Code_many => k_is)
    (case nC_Code_bits => k_is)
    (case fi_Code_init => k_is)
    (case if_Code_init => k_is)
    (case l_Code_init => k_is)
    (case c_Code_init => k_is)
    (case k_Code_init => k_is)
    (case fi_Code_eq => k_is)
    (case if_Code_eq => k_is)
    (case l_Code_eq => k_is)
    (case c_Code_eq => k_is)
    (case k_Code_eq => k_is)
    (case ne_Code => k_is)
    (case fi_Code_str => k_is)
    (case if_Code_str => k_is)
    (case l_Code_str => k_is)
    (case c_Code_str => k_is)
    (case k_Code_str => k_is)
    (case sm_Code_read => k_is)
    (case rc_Code_read => k_is)
    (case l_Code_read => k_is)
    (case c_Code_read => k_is)
    (case k_Code_read => k_is)
    (case rdC_Code => k_is)
    (case gaC_Code => k_is)
    (case l_code => k_is)
    (case v11 => rfl)
    (case hdc => kernel_rfl)
    (case kPt => kernel_rfl)
    (case hPt => exact PySem.W.km_tabs_of Y _ (by k_mem))
