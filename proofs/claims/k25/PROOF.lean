import PyProof.Rows.All
import Wide.All
import OpenK.AllK
import Wide.FinOn
import HandS.ForMost
import HandS.Exc
import HandS.ExcValue
import HandS.ExcField
import HandS.ExcIs
import HandS.IsInst
import HandS.Lambda
import HandS.EndTab
import HandS.Wide
import HandS.WideBits
import HandS.RaiseMore
import HandS.WordsList
import HandS.WordsExc
import HandS.ExcInit
import PyProof.Rows.SetFrom
import HandS.SetFor
import HandS.Zip
import HandS.SortInts
import PyProof.ReprRoads
import HandS.FStrTup
import HandS.EndBits
import HandS.OwnEq
import PyProof.FactsAll.object_2
import HandS.ClsMeth
import HandS.MakeKwOnly
import HandS.Defaults
import KE.KFmtOwn
import HandS.ExcOwn
import PyProof.StrLawsRepr
import PyProof.CallFns
import HandS.Text
import HandS.StrMore
import HandS.Set
import HandS.Strs
import PyProof.Rows.RegReprOcc
import HandS.Conv
import HandS.Codes
import HandS.ForDict
import HandS.NoneIn
import KE.KNestM
import PySem.Challenge.RW_oneflip_k25_layouts_beside_one_another
set_option linter.all false
/-! Ones of a number, pairs of neighbours below it. -/
set_option exponentiation.threshold 100000
namespace M04
theorem two_pos (k : Nat) : 0 < 2 ^ k := Nat.pow_pos (by decide)
def cnt (n : Nat) : Nat → Nat
  | 0 => 0
  | k + 1 => cnt n k + n / 2 ^ k % 2
theorem cnt_low (n k : Nat) : cnt n (k + 1) = n % 2 + cnt (n / 2) k := by
  induction k with
  | zero =>
    show 0 + n / 2 ^ 0 % 2 = n % 2 + 0
    rw [Nat.pow_zero, Nat.div_one]
    omega
  | succ k ih =>
    show cnt n (k + 1) + n / 2 ^ (k + 1) % 2 = n % 2 + (cnt (n / 2) k + n / 2 / 2 ^ k % 2)
    rw [ih, Nat.div_div_eq_div_mul, Nat.pow_succ, Nat.mul_comm 2]
    omega
def pc (n : Nat) : Nat := cnt n n
theorem cnt_zero (k : Nat) : cnt 0 k = 0 := by
  induction k with
  | zero => rfl
  | succ k ih =>
    show cnt 0 k + 0 / 2 ^ k % 2 = 0
    rw [ih, Nat.zero_div]
theorem cnt_more {n k : Nat} (h : n < 2 ^ k) : cnt n (k + 1) = cnt n k := by
  show cnt n k + n / 2 ^ k % 2 = cnt n k
  rw [Nat.div_eq_of_lt h]
  rfl
theorem cnt_up {n k : Nat} (h : n < 2 ^ k) (m : Nat) : cnt n (k + m) = cnt n k := by
  induction m with
  | zero => rfl
  | succ m ih =>
    have h2 : n < 2 ^ (k + m) := Nat.lt_of_lt_of_le h (Nat.pow_le_pow_right (by decide) (Nat.le_add_right k m))
    exact (cnt_more h2).trans ih
theorem cnt_pc {n k : Nat} (h : n < 2 ^ k) : cnt n k = pc n := by
  unfold pc
  have h2 : n < 2 ^ n := Nat.lt_two_pow_self
  by_cases c : k ≤ n
  · have e := cnt_up h (n - k)
    rw [show k + (n - k) = n by omega] at e
    exact e.symm
  · have e := cnt_up h2 (k - n)
    rw [show n + (k - n) = k by omega] at e
    exact e
theorem pc_half (n : Nat) : pc n = n % 2 + pc (n / 2) := by
  have h : n < 2 ^ (n + 1) := Nat.lt_trans Nat.lt_two_pow_self (Nat.pow_lt_pow_right (by decide) (Nat.lt_succ_self n))
  have h2 : n / 2 < 2 ^ n := by
    rw [Nat.pow_succ] at h
    omega
  rw [← cnt_pc h, cnt_low, cnt_pc h2]
theorem pc_two (n : Nat) : pc (2 * n) = pc n := by
  rw [pc_half, show 2 * n % 2 = 0 by omega, show 2 * n / 2 = n by omega, Nat.zero_add]
theorem pc_odd (n : Nat) : pc (2 * n + 1) = pc n + 1 := by
  rw [pc_half, show (2 * n + 1) % 2 = 1 by omega, show (2 * n + 1) / 2 = n by omega, Nat.add_comm]
theorem pc_zero : pc 0 = 0 := rfl
/-- the ones of all words below n -/
def E : Nat → Nat
  | 0 => 0
  | n + 1 => E n + pc n
theorem E_two (m : Nat) : E (2 * m) = 2 * E m + m := by
  induction m with
  | zero => rfl
  | succ m ih =>
    show E (2 * m) + pc (2 * m) + pc (2 * m + 1) = 2 * (E m + pc m) + (m + 1)
    rw [ih, pc_two, pc_odd]
    omega
theorem E_odd (m : Nat) : E (2 * m + 1) = E m + E (m + 1) + m := by
  show E (2 * m) + pc (2 * m) = E m + (E m + pc m) + m
  rw [E_two, pc_two]
  omega
theorem E_even (m : Nat) : E (2 * m + 2) = 2 * E (m + 1) + m + 1 := E_two (m + 1)
def T (b : Nat) : Nat := b * 2 ^ b / 2
theorem T_succ (b : Nat) : T (b + 1) = (b + 1) * 2 ^ b := by
  unfold T
  rw [Nat.pow_succ, ← Nat.mul_assoc, Nat.mul_div_cancel _ (by decide)]
theorem T_two (b : Nat) : 2 * T b = b * 2 ^ b := by
  cases b with
  | zero => rfl
  | succ b => rw [T_succ, Nat.pow_succ, Nat.mul_comm 2, Nat.mul_assoc]
theorem pc_pow (q b : Nat) : pc (q * 2 ^ b) = pc q := by
  induction b with
  | zero => rw [Nat.pow_zero, Nat.mul_one]
  | succ b ih => rw [Nat.pow_succ, ← Nat.mul_assoc, Nat.mul_comm, pc_two, ih]
theorem E_pow (q b : Nat) : E (q * 2 ^ b + 2 ^ b) = E (q * 2 ^ b) + pc q * 2 ^ b + T b := by
  induction b with
  | zero =>
    show E (q * 1 + 1) = E (q * 1) + pc q * 1 + 0
    rw [Nat.mul_one, Nat.mul_one]
    rfl
  | succ b ih =>
    have e1 : q * 2 ^ (b + 1) = 2 * (q * 2 ^ b) := by rw [Nat.pow_succ, ← Nat.mul_assoc, Nat.mul_comm]
    have e2 : 2 ^ (b + 1) = 2 * 2 ^ b := by rw [Nat.pow_succ, Nat.mul_comm]
    rw [e1, e2, ← Nat.mul_add, E_two, E_two, ih, T_succ, Nat.mul_add, Nat.mul_add, T_two, Nat.add_mul]
    have e3 : pc q * (2 * 2 ^ b) = 2 * (pc q * 2 ^ b) := by rw [← Nat.mul_assoc, Nat.mul_comm (pc q), Nat.mul_assoc]
    rw [e3]
    omega
/-- the bits of n below c, descending -/
def D (n : Nat) : Nat → List Nat
  | 0 => []
  | c + 1 => if n / 2 ^ c % 2 = 1 then c :: D n c else D n c
def S : List Nat → Nat → Nat → Nat
  | [], _, acc => acc
  | b :: r, a, acc => S r (a + 1) (acc + a * 2 ^ b + T b)
theorem S_is (n c : Nat) : S (D n c) (pc (n / 2 ^ c)) (E (n / 2 ^ c * 2 ^ c)) = E n := by
  induction c with
  | zero =>
    show E (n / 2 ^ 0 * 2 ^ 0) = E n
    rw [Nat.pow_zero, Nat.div_one, Nat.mul_one]
  | succ c ih =>
    have e : n / 2 ^ (c + 1) = n / 2 ^ c / 2 := by rw [Nat.pow_succ, Nat.div_div_eq_div_mul]
    have e2 : n / 2 ^ (c + 1) * 2 ^ (c + 1) = 2 * (n / 2 ^ c / 2) * 2 ^ c := by
      rw [e, Nat.pow_succ, Nat.mul_comm (2 ^ c), ← Nat.mul_assoc, Nat.mul_comm _ 2]
    unfold D
    by_cases h : n / 2 ^ c % 2 = 1
    · rw [if_pos h, e2, e]
      show S (D n c) (pc (n / 2 ^ c / 2) + 1) (E (2 * (n / 2 ^ c / 2) * 2 ^ c) + pc (n / 2 ^ c / 2) * 2 ^ c + T c) = E n
      have p1 : pc (n / 2 ^ c / 2) + 1 = pc (n / 2 ^ c) := by rw [pc_half (n / 2 ^ c), h, Nat.add_comm]
      have p2 : pc (n / 2 ^ c / 2) = pc (2 * (n / 2 ^ c / 2)) := (pc_two _).symm
      have p3 : 2 * (n / 2 ^ c / 2) * 2 ^ c + 2 ^ c = n / 2 ^ c * 2 ^ c := by
        have z : n / 2 ^ c = 2 * (n / 2 ^ c / 2) + 1 := by omega
        conv => rhs; rw [z]
        rw [Nat.add_mul, Nat.one_mul]
      rw [p1, p2, ← E_pow, p3]
      exact ih
    · rw [if_neg h, e2, e]
      have z : 2 * (n / 2 ^ c / 2) = n / 2 ^ c := by omega
      have p1 : pc (n / 2 ^ c / 2) = pc (n / 2 ^ c) := by
        have q := pc_two (n / 2 ^ c / 2)
        rw [z] at q
        exact q.symm
      rw [z, p1]
      exact ih
theorem S_all {n c : Nat} (h : n < 2 ^ c) : S (D n c) 0 0 = E n := by
  have e := S_is n c
  rw [Nat.div_eq_of_lt h, Nat.zero_mul] at e
  exact e
theorem E_two_pow (p : Nat) : E (2 * 2 ^ p) = (p + 1) * 2 ^ p := by
  have e := E_pow 0 (p + 1)
  rw [Nat.zero_mul, Nat.zero_add, T_succ] at e
  have e2 : 2 ^ (p + 1) = 2 * 2 ^ p := by rw [Nat.pow_succ, Nat.mul_comm]
  rw [e2] at e
  rw [e]
  show 0 + 0 * _ + _ = _
  rw [Nat.zero_mul]
  omega
/-- the bits of n below c, ascending -/
theorem D_rev (n c : Nat) : (D n c).reverse = (List.range c).filter fun i => decide (n / 2 ^ i % 2 = 1) := by
  induction c with
  | zero => rfl
  | succ c ih =>
    rw [List.range_succ, List.filter_append, ← ih]
    show (if n / 2 ^ c % 2 = 1 then c :: D n c else D n c).reverse = _
    by_cases h : n / 2 ^ c % 2 = 1
    · rw [if_pos h, List.reverse_cons]
      simp [h]
    · rw [if_neg h]
      simp [h]
theorem D_lt {n c b : Nat} (h : b ∈ D n c) : b < c := by
  have e : b ∈ (D n c).reverse := List.mem_reverse.mpr h
  rw [D_rev] at e
  exact List.mem_range.mp (List.mem_filter.mp e).1
theorem D_len (n c : Nat) : (D n c).length ≤ c := by
  rw [← List.length_reverse, D_rev]
  exact Nat.le_trans (List.length_filter_le _ _) (by rw [List.length_range]; exact Nat.le_refl _)
/-! ### signs -/
/-- the signs of n to the base 2, the lowest first -/
def R (n : Nat) : List Nat := ((Nat.toDigits 2 n).map fun c => c.toNat).reverse
theorem R_small {n : Nat} (h : n < 2) : R n = [48 + n] := by
  unfold R
  rw [Nat.toDigits_of_lt_base h]
  have e : n = 0 ∨ n = 1 := by omega
  rcases e with rfl | rfl <;> rfl
theorem R_big {n : Nat} (h : 2 ≤ n) : R n = (48 + n % 2) :: R (n / 2) := by
  unfold R
  rw [Nat.toDigits_of_base_le (by decide) h, List.map_append, List.reverse_append]
  have e : n % 2 = 0 ∨ n % 2 = 1 := by omega
  rcases e with z | z <;> rw [z] <;> rfl
theorem R_facts : ∀ n : Nat, n < 2 ^ (R n).length ∧ (∀ i, i < (R n).length → (R n)[i]? = some (48 + n / 2 ^ i % 2)) := by
  intro n
  induction n using Nat.strongRecOn with
  | ind n ih =>
    by_cases h : n < 2
    · rw [R_small h]
      refine ⟨by show n < 2 ^ 1; omega, fun i hi => ?_⟩
      have hi : i < 1 := hi
      have e : i = 0 := by omega
      subst e
      show some (48 + n) = some (48 + n / 2 ^ 0 % 2)
      rw [Nat.pow_zero, Nat.div_one, Nat.mod_eq_of_lt h]
    · have h2 : 2 ≤ n := by omega
      obtain ⟨a, b⟩ := ih (n / 2) (by omega)
      rw [R_big h2]
      refine ⟨?_, fun i hi => ?_⟩
      · show n < 2 ^ ((R (n / 2)).length + 1)
        rw [Nat.pow_succ]
        omega
      · cases i with
        | zero =>
          show some (48 + n % 2) = some (48 + n / 2 ^ 0 % 2)
          rw [Nat.pow_zero, Nat.div_one]
        | succ i =>
          show (R (n / 2))[i]? = _
          rw [b i (by have hi : i + 1 < (R (n / 2)).length + 1 := hi; omega), Nat.div_div_eq_div_mul, Nat.pow_succ, Nat.mul_comm 2]
theorem R_len {n k : Nat} (hk : 0 < k) (h : n < 2 ^ k) : (R n).length ≤ k := by
  induction k generalizing n with
  | zero => exact absurd hk (by decide)
  | succ k ih =>
    by_cases c : n < 2
    · rw [R_small c]
      exact Nat.succ_le_succ (Nat.zero_le _)
    · rw [R_big (by omega)]
      rw [Nat.pow_succ] at h
      have hk2 : 0 < k := by
        cases k with
        | zero =>
          rw [Nat.pow_zero] at h
          omega
        | succ k => exact Nat.succ_pos k
      exact Nat.succ_le_succ (ih hk2 (by omega))
theorem R_count (n : Nat) : (R n).countP (fun c => decide (c = 49)) = pc n := by
  induction n using Nat.strongRecOn with
  | ind n ih =>
    by_cases h : n < 2
    · rw [R_small h]
      have e : n = 0 ∨ n = 1 := by omega
      rcases e with rfl | rfl <;> rfl
    · rw [R_big (by omega), List.countP_cons, ih (n / 2) (by omega), pc_half n]
      have e : n % 2 = 0 ∨ n % 2 = 1 := by omega
      rcases e with z | z <;> rw [z] <;> simp <;> omega
theorem cnt_le (n k : Nat) : cnt n k ≤ k := by
  induction k with
  | zero => exact Nat.le_refl _
  | succ k ih =>
    show cnt n k + n / 2 ^ k % 2 ≤ k + 1
    omega
theorem pc_le {n k : Nat} (h : n < 2 ^ k) : pc n ≤ k := by
  rw [← cnt_pc h]
  exact cnt_le n k
theorem E_le {n k : Nat} (h : n ≤ 2 ^ k) : E n ≤ n * k := by
  induction n with
  | zero => exact Nat.zero_le _
  | succ n ih =>
    have a := ih (Nat.le_of_succ_le h)
    have b := pc_le (n := n) (k := k) (Nat.lt_of_succ_le h)
    show E n + pc n ≤ (n + 1) * k
    rw [Nat.add_mul, Nat.one_mul]
    omega
theorem E_lt {n : Nat} (h : n < 2 ^ 402) : E n < 2 ^ 500 := by
  refine Nat.lt_of_le_of_lt (E_le (Nat.le_of_lt h)) ?_
  have a : n * 402 ≤ 2 ^ 402 * 402 := Nat.mul_le_mul_right _ (Nat.le_of_lt h)
  exact Nat.lt_of_le_of_lt a (by decide)
end M04
set_option maxHeartbeats 1000000
namespace M07
def gray (n : Nat) : Nat := n ^^^ (n >>> 1)
theorem gray_bit (n i : Nat) : (gray n).testBit i = (n.testBit i ^^ n.testBit (i + 1)) := by
  unfold gray
  rw [Nat.testBit_xor, Nat.testBit_shiftRight, Nat.add_comm 1 i]
theorem tele (p s : Nat) : (p ^^^ (p >>> s)) ^^^ ((p ^^^ (p >>> s)) >>> s) = p ^^^ (p >>> (2 * s)) := by
  apply Nat.eq_of_testBit_eq
  intro i
  simp only [Nat.testBit_xor, Nat.testBit_shiftRight]
  rw [show 2 * s + i = s + (s + i) by omega]
  cases p.testBit i <;> cases p.testBit (s + i) <;> cases p.testBit (s + (s + i)) <;> rfl
theorem xor_zero_eq {a b : Nat} (h : a ^^^ b = 0) : a = b := by
  apply Nat.eq_of_testBit_eq
  intro i
  have z : (a ^^^ b).testBit i = (0 : Nat).testBit i := by rw [h]
  rw [Nat.testBit_xor, Nat.zero_testBit] at z
  cases e1 : a.testBit i <;> cases e2 : b.testBit i <;> rw [e1, e2] at z <;> first | rfl | cases z
theorem half_zero {q : Nat} (h : q = q >>> 1) : q = 0 := by
  rw [Nat.shiftRight_eq_div_pow] at h
  omega
theorem gray_end {p s : Nat} (h : gray p < 2 ^ s) : p ^^^ (p >>> s) = p := by
  have e : (p >>> s) ^^^ ((p >>> s) >>> 1) = 0 := by
    have z : gray p >>> s = 0 := by
      rw [Nat.shiftRight_eq_div_pow]
      exact Nat.div_eq_of_lt h
    rw [← z]
    unfold gray
    apply Nat.eq_of_testBit_eq
    intro i
    simp only [Nat.testBit_xor, Nat.testBit_shiftRight]
    rw [show s + (1 + i) = 1 + (s + i) by omega]
  have e3 : p >>> s = 0 := half_zero (xor_zero_eq e)
  rw [e3, Nat.xor_zero]
theorem one_bit (x i : Nat) : decide (x / 2 ^ i % 2 = 1) = x.testBit i := (Nat.testBit_eq_decide_div_mod_eq).symm
theorem next_mod (x i : Nat) : x % 2 ^ (i + 1) = x % 2 ^ i + (if x.testBit i = true then 2 ^ i else 0) := by
  rw [Nat.pow_succ, Nat.mod_mul, ← one_bit]
  have h := Nat.mod_two_eq_zero_or_one (x / 2 ^ i)
  rcases h with h | h <;> simp [h]
/-- the lowest bit that is 0 -/
def Low (p low : Nat) : Prop := (∀ j, j < low → p.testBit j = true) ∧ p.testBit low = false
theorem low_mod {p low : Nat} (h : Low p low) : p % 2 ^ (low + 1) = 2 ^ low - 1 := by
  apply Nat.eq_of_testBit_eq
  intro i
  rw [Nat.testBit_mod_two_pow, Nat.testBit_two_pow_sub_one]
  by_cases h1 : i < low
  · rw [h.1 i h1, decide_eq_true h1, decide_eq_true (show i < low + 1 by omega)]
    rfl
  · by_cases h2 : i = low
    · subst h2
      rw [h.2]
      simp
    · rw [decide_eq_false (show ¬ i < low + 1 by omega), decide_eq_false h1]
      rfl
theorem two_pos (k : Nat) : 0 < 2 ^ k := Nat.two_pow_pos k
theorem low_p {p low : Nat} (h : Low p low) (i : Nat) : p.testBit i = if i < low + 1 then decide (i < low) else (p / 2 ^ (low + 1)).testBit (i - (low + 1)) := by
  have e := Nat.div_add_mod p (2 ^ (low + 1))
  rw [low_mod h] at e
  have l : 2 ^ low - 1 < 2 ^ (low + 1) := by
    have a := two_pos low
    rw [Nat.pow_succ]
    omega
  conv => lhs; rw [← e]
  rw [Nat.testBit_two_pow_mul_add _ l, Nat.testBit_two_pow_sub_one]
theorem low_s {p low : Nat} (h : Low p low) (i : Nat) : (p + 1).testBit i = if i < low + 1 then decide (low = i) else (p / 2 ^ (low + 1)).testBit (i - (low + 1)) := by
  have e := Nat.div_add_mod p (2 ^ (low + 1))
  rw [low_mod h] at e
  have a := two_pos low
  have l : 2 ^ low < 2 ^ (low + 1) := by
    rw [Nat.pow_succ]
    omega
  have e2 : p + 1 = 2 ^ (low + 1) * (p / 2 ^ (low + 1)) + 2 ^ low := by omega
  conv => lhs; rw [e2]
  rw [Nat.testBit_two_pow_mul_add _ l, Nat.testBit_two_pow]
theorem gray_next {p low : Nat} (h : Low p low) : gray (p + 1) = gray p ^^^ 2 ^ low := by
  apply Nat.eq_of_testBit_eq
  intro i
  rw [Nat.testBit_xor, gray_bit, gray_bit, low_p h, low_p h, low_s h, low_s h, Nat.testBit_two_pow]
  by_cases h1 : i < low
  · simp only [show i < low + 1 by omega, show i + 1 < low + 1 by omega, if_true]
    by_cases h2 : i + 1 < low
    · simp [h1, h2, show ¬ low = i by omega, show ¬ low = i + 1 by omega]
    · have h3 : low = i + 1 := by omega
      simp [h3]
  · by_cases h2 : i = low
    · subst h2
      simp
    · simp [show ¬ i < low + 1 by omega, show ¬ i + 1 < low + 1 by omega, show ¬ low = i by omega]
theorem xor_pow {x k : Nat} : x ^^^ 2 ^ k = if x.testBit k = true then x - 2 ^ k else x + 2 ^ k := by
  have split : x = 2 ^ (k + 1) * (x / 2 ^ (k + 1)) + ((if x.testBit k = true then 2 ^ k else 0) + x % 2 ^ k) := by
    have e := Nat.div_add_mod x (2 ^ (k + 1))
    rw [next_mod] at e
    omega
  have m := Nat.mod_lt x (two_pos k)
  have l1 : 2 ^ k + x % 2 ^ k < 2 ^ (k + 1) := by
    rw [Nat.pow_succ]
    omega
  have bits : ∀ (q r : Nat) (i : Nat), r < 2 ^ k → (2 ^ (k + 1) * q + (2 ^ k + r)).testBit i = ((2 ^ (k + 1) * q + r) ^^^ 2 ^ k).testBit i := by
    intro q r i hr
    have l2 : 2 ^ k + r < 2 ^ (k + 1) := by
      rw [Nat.pow_succ]
      omega
    have l3 : r < 2 ^ (k + 1) := by
      rw [Nat.pow_succ]
      omega
    rw [Nat.testBit_xor, Nat.testBit_two_pow_mul_add _ l2, Nat.testBit_two_pow_mul_add _ l3, Nat.testBit_two_pow]
    have er : 2 ^ k + r = 2 ^ k * 1 + r := by omega
    rw [er, Nat.testBit_two_pow_mul_add _ hr]
    by_cases h1 : i < k + 1
    · simp only [h1, if_true]
      by_cases h2 : i < k
      · simp [h2, show ¬ k = i by omega]
      · have h3 : i = k := by omega
        subst h3
        simp [Nat.testBit_lt_two_pow hr]
    · simp [h1, show ¬ k = i by omega]
  cases hb : x.testBit k with
  | true =>
    rw [hb] at split
    simp only [if_true] at split
    have e : 2 ^ (k + 1) * (x / 2 ^ (k + 1)) + x % 2 ^ k = x - 2 ^ k := by omega
    simp only [if_true]
    rw [← e]
    apply Nat.eq_of_testBit_eq
    intro i
    have b := bits (x / 2 ^ (k + 1)) (x % 2 ^ k) i m
    rw [← split] at b
    rw [Nat.testBit_xor, b, Nat.testBit_xor]
    cases (2 ^ (k + 1) * (x / 2 ^ (k + 1)) + x % 2 ^ k).testBit i <;> cases (2 ^ k).testBit i <;> rfl
  | false =>
    rw [hb] at split
    simp only [Bool.false_eq_true, if_false, Nat.zero_add] at split
    simp only [Bool.false_eq_true, if_false]
    have e : 2 ^ (k + 1) * (x / 2 ^ (k + 1)) + (2 ^ k + x % 2 ^ k) = x + 2 ^ k := by omega
    rw [← e]
    apply Nat.eq_of_testBit_eq
    intro i
    rw [bits (x / 2 ^ (k + 1)) (x % 2 ^ k) i m, ← split]
theorem gray_lt {n k : Nat} (h : n < 2 ^ k) : gray n < 2 ^ k := by
  unfold gray
  refine Nat.xor_lt_two_pow h ?_
  rw [Nat.shiftRight_eq_div_pow]
  exact Nat.lt_of_le_of_lt (Nat.div_le_self _ _) h
theorem gray_mod {n k : Nat} (h : n < 2 ^ k) : gray n % 2 ^ k = gray n := Nat.mod_eq_of_lt (gray_lt h)
end M07
set_option Elab.async false
set_option maxRecDepth 100000
set_option maxHeartbeats 2000000
/-! Errors that are caught and kept: an exception object behind its suite. -/
namespace OB
open PySem PySem.Spec PyProof.Rows L2

section kit
open PySem.W PySem.Calls
variable {prog : Program} {w : World} {A : Around} {E : Value → Shared → Prop} {s : Shared} {K : Frag} {x D : Addr} {ox : Obj} {od : Option Obj}
theorem cls_data (hc : (clsIn K D).isSome = true) {nm : Str} {a g : Value} (ha : findIn K (.ref D) nm = some (some a)) (hg : specialIn K a "__get__" = some (some g)) (ht : takesIn K a = some true) :
    findObj K D od nm = some (.bind g a) := by
  cases e : clsIn K D with
  | none => rw [e] at hc; cases hc
  | some cd =>
    unfold findObj
    simp [e, ha, hg, ht]
/-- the class of an exception with or without a dict of its own -/
theorem exc_class {Q : Option Value → Shared → Prop} (C : ExcC K D) (X : K.In s.heap) (I : InstAt s.heap x ox D od) (k : Q (some (.ref D)) { s with toks := s.toks + 1 }) :
    wpAny (model prog w) A (getAttr? (.ref x) "__class__") Q E s := by
  have found : findObj K D od "__class__" = some (.bind (.builtin "getset_descriptor.__get__") (.builtin "object.__class__")) :=
    cls_data (by obtain ⟨cd, e, _⟩ := any_some C.hd; simp [e]) C.ha C.hn C.ht
  obtain ⟨h0, g0, d0, t0, o0⟩ := s
  have ty0 := I.type (M := model prog w)
  have own := looks_findIn (M := model prog w) X C.hg
  have gat := looks_findIn (M := model prog w) X C.hk
  have fnd := looks_find (M := model prog w) X I found
  have isE : Looks (model prog w) h0 (isInstance (.ref x) (.type "BaseException")) true := ty0.andThen (looks_subIn X C.hs)
  have q2 : (Value.builtin "BaseException.__getattribute__" == Value.builtin "object.__getattribute__") = false := by decide +kernel
  have q1 : (onTheHeap (Value.ref D) && Value.builtin "BaseException.__getattribute__" == Value.builtin "object.__getattribute__") = false := by
    rw [q2, Bool.and_false]
  unfold getAttr? getAttrBy? getAttrBy
  refine wpAny_bind (wpAny_mkText (wpAny_bind (wpAny_attempt (wpAny_holding (wpAny_bind (ty0.at (wpAny_bind (own.at ?_))))))))
  dsimp only
  rw [q1]
  unfold getAttrByItsOwn hookBefore
  simp only [Bool.false_eq_true, if_false]
  refine wpAny_bind ?_
  rw [if_pos (show onTheHeap (Value.ref D) = true from rfl)]
  refine gat.at ?_
  refine wpAny_bind (wpAny_attempt (wpAny_holding ?_))
  unfold callGetattribute
  rw [if_neg (by decide)]
  unfold boundAndCalled
  rw [PySem.F.excAttr_ValueError.ga.bind (.ref x)]
  refine wpAny_bind (wpAny_pure ?_)
  refine wpAny_call (codeAny_call_builtin PySem.F.excAttr_ValueError.ga.plain PySem.F.entry_bexc_ga ?_)
  refine @check_slot (model prog w) _ _ ⟨h0, g0, d0, t0 + 1, o0⟩ "BaseException.__getattribute__" "BaseException" "__getattribute__" (.ref x) [.str "__class__" t0] [] _ (by decide +kernel) (by decide +kernel) isE
    (PySem.F.args_bexc_ga (.ref x) (.str "__class__" t0)) ?_
  unfold Builtin.«object.__getattribute__»
  refine wpAny_bind (wpAny_of_eq (a := ((Value.ref x : Value), [Value.str "__class__" t0])) (by first | rfl | (simp only [slotArgs]; rfl)) ?_)
  refine wpAny_bind (wpAny_pure (wpAny_bind (ty0.at (wpAny_bind (fnd.at ?_)))))
  dsimp only
  refine wpAny_bind (wpAny_holding (wpAny_call (class_get (s := ⟨h0, g0, d0, t0 + 1, o0⟩) (ox := ox) (od := od) X I C.hm ?_)))
  refine wpAny_pure ?_
  show wpAny _ _ (handedOut (.ref D)) _ _ _
  rw [handedOut_of (v := .ref D) rfl]
  first
    | exact wpAny_pure (wpAny_pure k)
    | exact wpAny_pure k
    | exact wpAny_pure (wpAny_bind (wpAny_pure (wpAny_pure k)))
theorem exc_kit (C : ExcC K D) : KitX K (.ref x) (.ref D) (fun h => InstAt h x ox D od) := by
  obtain ⟨cd, hcd, _⟩ := any_some C.hd
  unfold clsIn at hcd
  split at hcd
  · rename_i c1 d1 cd1 sl1 look
    refine ⟨fun _ _ _ I => I.type, fun M h X _ A' Q' E' s' keep q => ?_, fun h tp dd its n sl X htp => ?_, fun X I k => exc_class C X I k⟩
    · unfold isType loadHead
      exact wpAny_bind (wpAny_loadPart (keep _ _ (X _ _ look)) (wpAny_pure q))
    · cases e : (Value.ref D == Value.ref tp) with
      | false => rfl
      | true =>
        have e2 : D = tp := Value.ref.inj (beq_iff_eq.mp e)
        rw [← e2] at htp
        have z := (X _ _ look).symm.trans htp
        cases z
  · cases hcd
end kit

/-- an exception object that is kept: its class, its own dict -/
def ExA (cls : Value) (d : Option Addr) (a : Addr) : HO := .ext fun h => ∃ (oe : Obj) (vs : Array Value), h.get? a = some oe ∧ Zc cls d oe ∧ oe.data = .fields vs
theorem exA_ok {P : Program} {w : World} {H : Hp} {h : Heap} {a : Addr} {cls : Value} {d : Option Addr} {oe : Obj} {vs : Array Value} (e : h.get? a = some oe) (z : Zc cls d oe) (f : oe.data = .fields vs) : ObjOk P w H h a (ExA cls d a) :=
  ⟨⟨oe, vs, e, z, f⟩, ⟨oe, e⟩, fun _ _ ⟨o, v, q, r⟩ k => ⟨o, v, k o q, r⟩⟩
theorem exA_at {P : Program} {w : World} {H : Hp} {h : Heap} {a : Addr} {cls : Value} {d : Option Addr} (ok : HOk P w H h) (e : H a = some (ExA cls d a)) : ∃ (oe : Obj) (vs : Array Value), h.get? a = some oe ∧ Zc cls d oe ∧ oe.data = .fields vs := by
  have z : ObjOk P w H h a (ExA cls d a) := ok a _ e
  exact z.1

section
variable {X : Cx} {pins : List (Addr × Obj)} {σ : L2.St} {H : Hp} {s : Shared}
/-- an object that came behind the entry is tracked from now on -/
theorem track {a : Addr} {o : HO} (I : Inv X pins σ H s) (hn : H a = none) (h0 : X.s_0.heap.get? a = none) (nL : a ≠ X.env.locals) (nC : ∀ x c, X.env.cells.lookup x = some c → c ≠ a)
    (nP : ∀ p ∈ X.pn ++ pins, p.1 ≠ a) (new : ObjOk X.prog X.w (upd H a o) s.heap a o) : Inv X pins σ (upd H a o) s := by
  have ne : ∀ {b u}, X.s_0.heap.get? b = some u → b ≠ a := fun {b u} e z => by
    rw [z, h0] at e
    cases e
  refine ⟨I.ok, I.os, I.bare, ⟨I.base.keep, I.base.slot, fun b u e n hx => ?_, I.base.there, fun b xs e => ?_, fun b u v e => ?_, fun b ps e => ?_⟩, I.loc, I.cell, ?_, fun x c e => ?_, fun p hp => ?_, ?_, I.len⟩
  · rw [upd_ne (ne e)]
    exact I.base.free b u e n hx
  · have q := I.base.tups b xs e
    rw [upd_ne (ne_of_none q hn)]
    exact q
  · have q := I.base.frzs b u v e
    rw [upd_ne (ne_of_none q hn)]
    exact q
  · obtain ⟨m, q⟩ := I.base.tbls b ps e
    exact ⟨m, by rw [upd_ne (ne_of_none q hn)]; exact q⟩
  · rw [upd_ne (Ne.symm nL)]
    exact I.free
  · rw [upd_ne (nC x c e)]
    exact I.freeC x c e
  · obtain ⟨e, n, r1, r2, r3⟩ := I.pin p hp
    exact ⟨e, by rw [upd_ne (nP p hp)]; exact n, r1, r2, r3⟩
  · exact I.hok.laidN (fun _ _ e => e) hn new
end

/-- what 'except x as n: kept = n' wishes: behind it slot j holds the exception, which is tracked -/
def wKeep (K : PySem.W.Frag) (c : Value) (i j : Nat) (Wout : WX) (D : Ends) : WX := fun cls d σ H =>
  ∃ b, PySem.W.exmOne K cls c = some b ∧
    (b = true → ∀ a, H a = none → D.nx (((σ.set i (some (.ref a))).set j (some (.ref a))).set i none) (upd H a (ExA cls d a))) ∧ (b = false → Wout cls d σ H)

section
variable {X : Cx} {x n m : Str} {c : Value} {i j : Nat} {body : List Stmt} {np pos pos' p1 p2 p3 : Pos} {tb : WX → TS} {Wout : WX}
theorem ps_try_keep (hs : X.stack = X.env :: X.outer) (hf : X.env.frame = some X.env.locals) (hx : X.ex = []) (hN : X.N.Nodup) (hi : X.N[i]? = some n) (hln : X.env.kindOf n = some .local)
    (hj : X.N[j]? = some m) (hlm : X.env.scope.names.lookup m = some .local) (hc : Names X x c) (tk : Takes X Wout)
    (hb : ∀ (W : WX) (pn : List (Addr × Obj)) (xe : Value → Shared → Prop), Takes (X.tr pn xe) W → PassesOwn (model X.prog X.w) X.A X.env xe → PSs (X.tr pn xe) body (tb W))
    (hdn : (n == ("__debug__" : Str)) = false := by decide) (hcn : (n == ("__classdict__" : Str)) = false := by decide)
    (hsw : ∀ env : Env, swapsWith (.Name n p2) (some (.Name m p1)) p3.line env = pure false := by intro _; rfl) :
    PS X (.Try body [.ExceptHandler (some (.Name x np)) (some n) [.Assign [.Name m p1] (.Name n p2) p3] pos'] [] [] pos) (fun D σ H => tb (wKeep X.K c i j Wout D) D σ H) := by
  refine ⟨fun pins s σ H D I h => ?_⟩
  have okX := I.ok
  have frames : X.A.frames = some (X.env :: X.outer) := by rw [okX.frames, hs]
  have lj : Loc X.env.scope m := .inl hlm
  refine wpAny_Try_except ?_
  have run := (hb (wKeep X.K c i j Wout D) (X.pn ++ pins) (fun e s₁ => wpAny (model X.prog X.w) X.A (noteFrame e X.env)
    (fun _ s₂ => wpAny (model X.prog X.w) X.A (setFlight e none)
      (fun _ s₃ => wpAny (model X.prog X.w) X.A (handleBy e X.env [.ExceptHandler (some (.Name x np)) (some n) [.Assign [.Name m p1] (.Name n p2) p3] pos']) (SP X pins D) X.xe s₃) X.xe s₂) X.xe s₁)
    (fun u s' air => ?_) PassesOwn.looking).run [] s σ H D (I.toTry _) h
  · refine wpAny_mono run (fun f s1 end1 => ?_) (fun _ _ z => z)
    cases f with
    | next =>
      obtain ⟨σ1, H1, J1, q⟩ := end1
      exact wpAny_execs_nil ⟨σ1, H1, J1.ofTry okX, q⟩
    | ret u =>
      obtain ⟨v, σ1, H1, J1, r, q⟩ := end1
      exact ⟨v, σ1, H1, J1.ofTry okX, r, q⟩
    | brk =>
      obtain ⟨σ1, H1, J1, q⟩ := end1
      exact ⟨σ1, H1, J1.ofTry okX, q⟩
    | cont =>
      obtain ⟨σ1, H1, J1, q⟩ := end1
      exact ⟨σ1, H1, J1.ofTry okX, q⟩
  · obtain ⟨a, B, sI, pins1, σ1, H1, cls, d, rfl, J0, ground, up0, sky, na, os1, bare1, b, hb1, yes, no⟩ := air
    have J : Inv X pins σ1 H1 sI := J0.ofTry okX
    have skyX : Sky B (X.env :: X.outer) a (Zc cls d) X.env.locals s'.heap := by
      rw [← hs]
      exact sky
    have Ba : B.get? a = none := by
      rcases skyX with ⟨_, z, _⟩ | ⟨_, z, _⟩ | ⟨_, z, _⟩ <;> exact z
    show wpAny (model X.prog X.w) X.A (noteFrame (.ref a) X.env) _ _ _
    refine Sky.land Zc.steady frames hf skyX fun h3 fl3 up3 => ?_
    have J3 : Inv X pins σ1 H1 { s' with heap := h3 } := J.landed ground fl3.1 (up0.trans up3) os1 bare1
    obtain ⟨oe3, vs3, he3, hz3, hd3⟩ := fl3.there
    have off : a ∉ frs (X.env :: X.outer) := fun hm => by
      obtain ⟨_, o', e', hnf⟩ := fl3.2.2.1.mem hm
      rw [he3] at e'
      cases e'
      exact hnf _ hd3
    have sIa : sI.heap.get? a = none := by
      cases e : sI.heap.get? a with
      | none => rfl
      | some o =>
        have z := ground a o e (by rw [hs]; exact off)
        rw [Ba] at z
        cases z
    have s0a : X.s_0.heap.get? a = none := by
      cases e : X.s_0.heap.get? a with
      | none => rfl
      | some o =>
        obtain ⟨o', z⟩ := J.base.there a o e (by rw [hx]; exact fun z => nomatch z)
        rw [sIa] at z
        cases z
    have nL : a ≠ X.env.locals := fun z => off (List.mem_filterMap.mpr ⟨X.env, List.mem_cons_self, by rw [hf, z]⟩)
    have nF : a ∉ X.fs := fun hm => by
      obtain ⟨e, he, q⟩ := List.mem_filterMap.mp hm
      exact off (List.mem_filterMap.mpr ⟨e, List.mem_cons_of_mem _ he, q⟩)
    have nC : ∀ y k, X.env.cells.lookup y = some k → k ≠ a := fun y k e z => by
      obtain ⟨v, o, ho, _⟩ := J.cell y k e
      rw [z, sIa] at ho
      cases ho
    have nP : ∀ p ∈ X.pn ++ pins, p.1 ≠ a := fun p hp z => by
      have q := (J.pin p hp).1
      rw [z, sIa] at q
      cases q
    have S3 := J3.suite he3 hd3 na nL nF
    refine wpAny_handleBy_cons (codeAny_handlers_test ?_) (by intro q; cases q)
    have LT : PySem.W.Looks (model X.prog X.w) h3 (typeOf (.ref a)) cls := fun A Q E s k q => wpAny_typeOf_ref (k _ _ he3) (by rw [hz3.1]; exact q)
    have LM := PySem.W.exm_one (M := model X.prog X.w) (J3.kIn) LT hb1
    have named : ∀ {Q : Value → Shared → Prop} {E : Value → Shared → Prop}, Q c { s' with heap := h3 } →
        wpAny (model X.prog X.w) (X.A.mark (some (.ref a))) (eval (.Name x np) X.env) Q E { s' with heap := h3 } := fun {Q E} q => by
      obtain ⟨hg, hdbg, hm | ⟨hm, hv, hnn⟩⟩ := hc
      · exact ld_glob (X := X.suite a ((a, oe3) :: (X.pn ++ pins))) S3 hg hm q hdbg
      · exact ld_blt (X := X.suite a ((a, oe3) :: (X.pn ++ pins))) S3 hg hm hv q hnn hdbg
    refine named (LM.here ?_)
    cases b with
    | true =>
      refine codeAny_handlers_suite_as ?_
      refine HandSPX.lands_againZ fl3 fun h4 fl4 up4 => ?_
      have J4 : Inv X pins σ1 H1 { s' with heap := h4 } := J.landed ground fl4.1 ((up0.trans up3).trans up4) os1 bare1
      obtain ⟨oe4, vs4, he4, hz4, hd4⟩ := fl4.there
      have S4 := J4.suite he4 hd4 na nL nF
      refine store_ok (X := X.suite a ((a, oe4) :: (X.pn ++ pins))) (v := .ref a) S4 hN hi (.inl hln) rfl (fun s5 S5 => ?_) (.inr hln)
      have hiσ : i < σ1.length := by
        rw [J.len]
        exact (List.getElem?_eq_some_iff.mp hi).1
      have kept := pss_one (ps_set (X := X.suite a ((a, oe4) :: (X.pn ++ pins))) (pos := p3) (pos' := p1) hN hj lj (pe_var (X := X.suite a ((a, oe4) :: (X.pn ++ pins))) (pos := p2) hi (.inl hln) hdn hcn) (hsw _) (.inr hlm))
      refine wpAny_mono (kept.run [] s5 _ H1 { nx := fun σ' H' => H' = H1 ∧ σ' = (σ1.set i (some (.ref a))).set j (some (.ref a)), rt := fun _ _ => False, bk := fun _ _ => False, ct := fun _ _ => False } S5
        ⟨.ref a, by rw [List.getElem?_set_self hiσ], rfl, rfl⟩) (fun f s6 end6 => ?_) (fun _ _ z => False.elim z)
      cases f with
      | next =>
        obtain ⟨σ6, H6, S6, e6, e7⟩ := end6
        subst e6 e7
        have at6 := (S6.pin (a, oe4) (List.mem_append_left _ List.mem_cons_self)).1
        have J6 : Inv X pins _ H6 s6 := S6.unsuite okX
        have J7 := track (o := ExA cls d a) J6 na s0a nL nC nP (exA_ok at6 hz4 hd4)
        exact gone_ok J7 hN hi hln fun s8 J8 => ⟨_, _, J8, yes rfl a na⟩
      | ret u =>
        obtain ⟨_, _, _, _, _, z⟩ := end6
        exact z.elim
      | brk =>
        obtain ⟨_, _, _, z⟩ := end6
        exact z.elim
      | cont =>
        obtain ⟨_, _, _, z⟩ := end6
        exact z.elim
    | false =>
      show wpAny _ X.A (handleBy (.ref a) X.env []) _ _ _
      refine wpAny_handleBy_nil ?_
      obtain ⟨k1, k2, k3, oe, vs, T, oT, ts', he, hz, hd, h1, hr⟩ := id fl3
      unfold PySem.passOn
      refine wpAny_bind (wpAny_field he hd h1 ?_)
      rw [if_neg (by simp)]
      have out : wpAny (model X.prog X.w) X.A (setFlight (.ref a) X.env.frame) (fun _ s4 => wpAny (model X.prog X.w) X.A (throw (.ref a) : Sem Flow) (SP X pins D) X.xe s4) X.xe { s' with heap := h3 } := by
        rw [hf]
        refine HandSPX.setFlight_upZ fl3 fun h4 hh4 up4 => wpAny_throw (tk _ _ ?_)
        exact ⟨a, B, sI, pins, σ1, H1, cls, d, rfl, J, ground, (up0.trans up3).trans up4, .inr (.inr (by rw [hs]; exact hh4)), na, os1, bare1, no rfl⟩
      first
        | exact wpAny_bind (wpAny_pure (wpAny_bind out))
        | exact wpAny_bind out
end

/-- isinstance(e, c), e an exception that is kept -/
def rIsX (K : PySem.W.Frag) : List V → Hp → VK → Prop := fun xs H Q => ∃ (a D : Addr) (d : Option Addr) (c : V) (u : Value) (b : Bool), xs = [.ref a, c] ∧ ExcC K D ∧ H a = some (ExA (.ref D) d a) ∧ (∀ dd, d = some dd → ∃ fs, H dd = some (.xd fs)) ∧ ClsV c u ∧ PySem.W.kitOne K (.ref D) u = some b ∧ Q (.bl b) H
theorem inst_at {X : Cx} {pins : List (Addr × Obj)} {σ : L2.St} {H : Hp} {s : Shared} {a D : Addr} {d : Option Addr} (I : Inv X pins σ H s) (ha : H a = some (ExA (.ref D) d a)) (hd : ∀ dd, d = some dd → ∃ fs, H dd = some (.xd fs)) :
    ∃ oe od, PySem.W.InstAt s.heap a oe D od := by
  obtain ⟨oe, vs, e, ⟨z1, z2⟩, f⟩ := exA_at I.hok ha
  obtain ⟨oc, odd, oda, osl⟩ := oe
  dsimp only at z1 z2 f
  subst z1 z2 f
  cases odd with
  | none => exact ⟨_, none, e, rfl, rfl, trivial⟩
  | some dd =>
    obtain ⟨fs, hfs⟩ := hd dd rfl
    obtain ⟨mA, hns, _⟩ := (show ObjOk X.prog X.w H s.heap dd (.xd fs) from I.hok dd _ hfs)
    obtain ⟨od, ho, _⟩ := lookIn_ns hns
    exact ⟨_, some od, e, rfl, rfl, ho⟩
theorem call_isX {X : Cx} : CallR X (.builtin "isinstance") (rIsX X.K) := by
  intro pins s σ H xs us Q I r h
  obtain ⟨a, D, d, c, u, b, rfl, C, ha, hd, hc, e, q⟩ := h
  obtain ⟨u1, u2, rfl, r1, r2⟩ := vals2 r
  have e2 := hc.eq r2
  subst e2
  obtain rfl : u1 = Value.ref a := r1
  obtain ⟨oe, od, J⟩ := inst_at I ha hd
  exact PySem.W.kia_one (exc_kit C) I.kIn J e (fun z => nomatch z) fun tk => ⟨.bl b, H, I.tok tk, rfl, q⟩
theorem call_or {X : Cx} {f : Value} {r1 r2 : List V → Hp → VK → Prop} (h1 : CallR X f r1) (h2 : CallR X f r2) : CallR X f (fun xs H Q => r1 xs H Q ∨ r2 xs H Q) := by
  intro pins s σ H xs us Q I r h
  rcases h with h | h
  · exact h1 pins s σ H xs us Q I r h
  · exact h2 pins s σ H xs us Q I r h
/-- e.f of an exception that is kept -/
def tXa (K : PySem.W.Frag) (f : Str) (te : TE) : TE := fun σ H Q => te σ H fun x H1 => ∃ (a D dd : Addr) (fs : List (Str × V)) (v : V), x = .ref a ∧ XfC K D ∧ PySem.W.findIn K (.ref D) f = some none ∧ H1 a = some (ExA (.ref D) (some dd) a) ∧ H1 dd = some (.xd fs) ∧ fs.lookup f = some v ∧ Q v H1
theorem pe_xa {X : Cx} {e : Expr} {te : TE} {pos : Pos} {n : Str} (he : PE X e te) (hb : attributeBase e n X.env (eval e X.env) = eval e X.env := by rfl) : PE X (.Attribute e n pos) (tXa X.K n te) := by
  refine ⟨fun pins s σ H Q I h => ?_⟩
  refine attr_of hb (thn (he.run pins s σ H _ I h) fun u s1 got => ?_)
  obtain ⟨y, H1, I1, ry, a, D, dd, fs, v, rfl, T, hno, ha, hdd, hl, q⟩ := got
  obtain rfl : u = Value.ref a := ry
  obtain ⟨oe, vs, eo, ⟨z1, z2⟩, hd⟩ := exA_at I1.hok ha
  obtain ⟨mA, hns, hr⟩ := (show ObjOk X.prog X.w H1 s1.heap dd (.xd fs) from I1.hok dd _ hdd)
  obtain ⟨od, ho, lk⟩ := lookIn_ns hns
  obtain ⟨u, hu, ru⟩ := RelO.some_of (v := v) (o := mA n) (by rw [← hl]; exact hr n)
  have J : PySem.W.InstAt s1.heap a oe D (some od) := ⟨eo, z1, by unfold PySem.W.notCls; rw [hd] <;> rfl, by rw [z2]; exact ho⟩
  exact HandSPX.exc_get I1.kIn J T.ga T.gg T.exC (PySem.W.findObj_own T.hdC hno rfl (by rw [lk, hu])) (handed_of ru) ⟨v, H1, I1.tok _, ru, q⟩
end OB
/-! Lambdas handed to a def: with no parameter, or with one that has a written int as its default. -/
namespace OB
open PySem PySem.Spec PyProof.Rows L2 LamX

section kit
open PySem.W PySem.Calls
abbrev lFn (qual : Str) (params : Arguments) (body : Expr) (scope : Scope) (cl : List (Str × Addr)) (dV pm cdv ct : Value) : FuncData :=
  { name := "<lambda>", qualname := qual, params := params, body := .expr body, scope := scope, globals := mainGlobals, closure := cl, defaults := dV, kwdefaults := .none, doc := .none, pyModule := pm, annotations := none, code := cdv, closureTuple := ct, builtins := builtinsNs }
abbrev lObj (qual : Str) (params : Arguments) (body : Expr) (scope : Scope) (cl : List (Str × Addr)) (dV pm cdv ct : Value) : Obj :=
  { cls := .type "function", data := .func (lFn qual params body scope cl dV pm cdv ct) }
variable {M : Model} {A : Around} {E : Value → Shared → Prop} {s : Shared} {qual : Str} {params : Arguments} {body : Expr} {scope : Scope} {env : Env} {c P : Addr} {ps : Array Value} {pos : Pos} {firstLine : Nat} {mg : Str → Option Value}
  {clos : List (Str × Addr)} {Q : Value → Shared → Prop} {dV : Value}
/-- a lambda's object is made: the code object comes by hcode1 -/
theorem tail_by (hcl : closureFor scope env = pure clos) (hge0 : env.globals = mainGlobals) (hg : s.heap.Ns mainGlobals mg) (hgP : mainGlobals ≠ P) (hb : s.heap.BuiltinsAt mg P)
    {G : Value → Heap → Heap → Prop}
    (hG : ∀ cv h1 h2, G cv h1 h2 → Heap.ExtBut P h1 h2 ∧ h1.objs.size ≤ h2.objs.size)
    (code : ∀ (h1 : Heap) (tk1 : Tok) (Q1 : Value → Shared → Prop), (∀ b o, s.heap.get? b = some o → h1.get? b = some o) → s.heap.objs.size ≤ h1.objs.size →
      (∀ cv h2 tk, G cv h1 h2 → Q1 cv { s with heap := h2, toks := tk }) → wpAny M A (functionCode env pos firstLine "<lambda>" qual params scope (.expr body)) Q1 E { s with heap := h1, toks := tk1 })
    (h : ∀ cv ctv h1 h2 tk, (∀ b o, s.heap.get? b = some o → h1.get? b = some o) → s.heap.objs.size ≤ h1.objs.size → G cv h1 h2 →
      Q (.ref h2.objs.size) { s with heap := h2.push (lObj qual params body scope clos dV ((mg "__name__").getD .none) cv ctv), toks := tk }) :
    wpAny M A (makeTail "<lambda>" qual params (.expr body) scope env dV .none none pos firstLine) Q E s := by
  obtain ⟨bm, ob, hbm, hne0, _, hneP, hbo, hcls, hdict, hdata⟩ := hb
  have go : ∀ (ctv : Value) (h1 : Heap) (tk1 : Tok), (∀ b o, s.heap.get? b = some o → h1.get? b = some o) → s.heap.objs.size ≤ h1.objs.size →
      wpAny M A (functionCode env pos firstLine "<lambda>" qual params scope (.expr body) >>= fun cv => builtinsFor mainGlobals env.builtins >>= fun bi => nsGet mainGlobals "__name__" >>= fun nm => pure Value.none >>= fun doc =>
        newObj (.type "function") (.func { name := "<lambda>", qualname := qual, params := params, body := .expr body, scope := scope, globals := mainGlobals, closure := clos, closureTuple := ctv, code := cv, builtins := bi, defaults := dV, kwdefaults := .none, annotations := none, pyModule := nm.getD .none, doc := doc })) Q E { s with heap := h1, toks := tk1 } := by
    intro ctv h1 tk1 k1 z1
    refine wpAny_bind (code h1 tk1 _ k1 z1 fun cv h2 tk g => ?_)
    obtain ⟨x2, z2⟩ := hG cv h1 h2 g
    have hg2 := (hg.keeps k1).extBut x2 hgP
    refine wpAny_bind (wpAny_builtinsFor hg2 hbm hne0 (x2 _ _ hneP (k1 _ _ hbo)) hcls hdict hdata ?_)
    refine wpAny_bind (wpAny_nsGet hg2 ?_)
    exact wpAny_bind (wpAny_pure (wpAny_newObj_type (h cv ctv h1 h2 tk k1 z1 g) (by size_fits)))
  unfold makeTail
  rw [hcl, hge0]
  refine wpAny_bind (wpAny_pure ?_)
  cases clos with
  | nil => exact wpAny_bind (wpAny_pure (go .none s.heap s.toks (fun _ _ e => e) (Nat.le_refl _)))
  | cons q r =>
    refine wpAny_bind (wpAny_newTextTuple ?_)
    exact go _ _ s.toks (fun b o e => Heap.get?_push_of_some _ e) (by rw [Heap.size_push]; omega)
end kit

section
variable {X : Cx} {pins : List (Addr × Obj)} {σ : L2.St} {H : Hp} {s : Shared}
/-- what stands of a lambda's defaults: none, or a tuple of ints that nobody tracks -/
def DflAt (h : Heap) (H : Hp) (fs : List Addr) (dV : Value) : List Value → Prop
  | [] => dV = .none
  | ds => ∃ (T : Addr) (o : Obj) (n : Nat), dV = .ref T ∧ h.get? T = some o ∧ o.data = .seq ds.toArray n ∧ H T = none ∧ T ∉ fs
/-- a lambda is made from makeTail on -/
theorem lam_tail {T : List (Addr × Str)} {c P : Addr} {params : Arguments} {body : Expr} {scope : Scope} {pos : Pos} {dV : Value} {ds : List Value} {E : Value → Shared → Prop} {Q : Value → Shared → Prop} (I : Inv X pins σ H s) (TB : TabB X.base X.mg c P) (hcode : X.env.code = .ref c)
    (hm : (P, X.env.qual ++ "<lambda>") ∈ T) (hu : ∀ p ∈ T, p.1 = P → p.2 = X.env.qual ++ "<lambda>") (hT : Tabs T H) (hfree : ∀ y ∈ scope.names, y.2 = .free → ∃ c, X.env.cells.lookup y.1 = some c)
    (hd : DflAt s.heap H (X.env.locals :: X.fs) dV ds)
    (h : ∀ (f c' : Addr) (pm ctv : Value) (H1 : Hp) (s' : Shared), Inv X pins σ H1 s' → ExtN H H1 → Tabs T H1 → DflAt s'.heap H1 (X.env.locals :: X.fs) dV ds →
      s'.heap.get? f = some (lObj (X.env.qual ++ "<lambda>") params body scope (cloFrom X.env.cells scope.names []) dV pm (.ref c') ctv) → H1 f = none → f ≠ X.env.locals → f ∉ X.fs → H1 c' = some (CodeO c' (X.env.qual ++ "<lambda>")) → Q (.ref f) s') :
    wpAny (model X.prog X.w) X.A (makeTail "<lambda>" (X.env.qual ++ "<lambda>") params (.expr body) scope X.env dV .none none pos pos.line) Q E s := by
  obtain ⟨ps, hP, ht, ha⟩ := hT _ hm
  have bP : s.heap.BuiltinsAt X.mg P := TB.bm.keeps I.bk
  have hP' : s.heap.get? P = some { cls := .none, data := .fields ps } := I.hok P _ hP
  have nLoc : ∀ f, s.heap.objs.size ≤ f → f ≠ X.env.locals := fun f hf z => by
    have h1 := I.lt
    rw [← z] at h1
    exact Nat.lt_irrefl _ (Nat.lt_of_lt_of_le h1 hf)
  have CH := TB.code.keeps I.bk
  have later : ∀ {h1 : Heap} {H1 : Hp}, (∀ b o, s.heap.get? b = some o → H b = none → b ≠ P → h1.get? b = some o) → (∀ b o, s.heap.get? b = some o → H b = none → H1 b = none) → DflAt h1 H1 (X.env.locals :: X.fs) dV ds := fun {h1 H1} k1 k2 => by
    cases ds with
    | nil => exact hd
    | cons d r =>
      obtain ⟨Td, o, n, e1, e2, e3, e4, e5⟩ := hd
      refine ⟨Td, o, n, e1, k1 _ _ e2 e4 (fun z => ?_), e3, k2 _ _ e2 e4, e5⟩
      rw [z, hP] at e4
      cases e4
  cases hc : codeAmong pos ps.toList with
  | none =>
    refine tail_by (mg := X.mg) (P := P) (closure_ok hfree) I.ok.glob (I.mod.glob.keeps I.bk) TB.gP bP
      (G := fun cv h1 h2 => ∃ c', cv = .ref c' ∧ Heap.ExtBut P h1 h2 ∧ h1.objs.size ≤ c' ∧ c' < h2.objs.size ∧ h2.CodeRec (.ref c') (X.env.qual ++ "<lambda>") ∧ h2.get? P = some (PySem.W.tabObj (ps ++ #[rawInt pos.line, rawInt pos.col, .ref c'])))
      (fun cv h1 h2 ⟨c', _, x, l1, l2, _⟩ => ⟨x, Nat.le_trans l1 (Nat.le_of_lt l2)⟩) (fun h1 tk1 Q1 k1 z1 q1 => ?_) (fun cv ctv h1 h2 tk k1 z1 g => ?_)
    · exact wpAny_functionCodeX hcode ((CH.keeps k1).code (k1 _ _ hP') ht) ((CH.keeps k1).tab (k1 _ _ hP')) hc fun c' h2 tk hx hge hlt _ hrec htb _ => q1 (.ref c') h2 tk ⟨c', rfl, hx, hge, hlt, hrec, htb.2⟩
    · obtain ⟨c', rfl, hx, hge, hlt, hrec, htb⟩ := g
      obtain ⟨c2, oc, vs, t, e2, hoc, hdc, hv⟩ := hrec
      cases e2
      have hge' : s.heap.objs.size ≤ c' := Nat.le_trans z1 hge
      have hsz : s.heap.objs.size ≤ h2.objs.size := Nat.le_trans hge' (Nat.le_of_lt hlt)
      have nC : H c' = none := I.hok.fresh hge'
      have I1 := inv_table (t' := tk) (more := #[rawInt pos.line, rawInt pos.col, .ref c']) (h' := h2.push (lObj (X.env.qual ++ "<lambda>") params body scope (cloFrom X.env.cells scope.names []) dV ((X.mg "__name__").getD .none) (.ref c') ctv)) I hP
        (fun b o hb e => Heap.get?_push_of_some _ (hx b o hb (k1 _ _ e))) (Heap.get?_push_of_some _ htb) hge' ⟨oc, vs, t, Heap.get?_push_of_some _ hoc, hdc, hv⟩
      have hE : ExtN H (upd (upd H P (.tbl (ps ++ #[rawInt pos.line, rawInt pos.col, .ref c']))) c' (CodeO c' (X.env.qual ++ "<lambda>"))) := fun b o e n => by
        rw [upd_ne (ne_of_none e nC), upd_ne (fun z => n ps (Option.some.inj (e.symm.trans (by rw [z]; exact hP))))]
        exact e
      have eL : (ps ++ #[rawInt pos.line, rawInt pos.col, .ref c']).toList = ps.toList ++ [rawInt pos.line, rawInt pos.col, .ref c'] := by simp
      refine h h2.objs.size c' _ ctv _ _ I1 hE (fun p hp => ?_) (later (fun b o e n hb => Heap.get?_push_of_some _ (hx b o hb (k1 _ _ e))) fun b o e n => ?_) (Heap.get?_push_size _ rfl) ?_ (nLoc _ hsz) (I.nofs hsz) upd_same
      · by_cases hb : p.1 = P
        · rw [hu p hp hb, hb]
          refine ⟨_, by rw [upd_ne (ne_of_none hP nC), upd_same], by rw [eL]; exact PySem.TriplesOk_snoc _ _ _ _ ht, fun p' cv hcv => ?_⟩
          rw [eL] at hcv
          rcases among_app _ ht hcv with z | z
          · obtain ⟨c0, e1, e2⟩ := ha p' cv z
            exact ⟨c0, e1, hE _ _ e2 codeO_ne⟩
          · exact ⟨c', z, upd_same⟩
        · obtain ⟨ps', a1, a2, a3⟩ := hT p hp
          refine ⟨ps', by rw [upd_ne (ne_of_none a1 nC), upd_ne hb]; exact a1, a2, fun p' cv hcv => ?_⟩
          obtain ⟨c0, e1, e2⟩ := a3 p' cv hcv
          exact ⟨c0, e1, hE _ _ e2 codeO_ne⟩
      · rw [upd_ne (Nat.ne_of_lt (Nat.lt_of_lt_of_le (Heap.lt_size e) hge')), upd_ne (fun z => by rw [z, hP] at n; cases n)]
        exact n
      · rw [upd_ne (Nat.ne_of_gt hlt), upd_ne (Nat.ne_of_gt (Nat.lt_of_lt_of_le (Heap.lt_size hP') hsz))]
        exact I.hok.fresh hsz
  | some cv0 =>
    obtain ⟨c', e, hco⟩ := ha pos cv0 hc
    subst e
    refine tail_by (mg := X.mg) (P := P) (closure_ok hfree) I.ok.glob (I.mod.glob.keeps I.bk) TB.gP bP
      (G := fun cv h1 h2 => cv = .ref c' ∧ h2 = h1) (fun cv h1 h2 ⟨_, e⟩ => by rw [e]; exact ⟨fun _ _ _ e => e, Nat.le_refl _⟩) (fun h1 tk1 Q1 k1 z1 q1 => ?_) (fun cv ctv h1 h2 tk k1 z1 g => ?_)
    · exact wpAny_functionCode_hit hcode ((CH.keeps k1).code (k1 _ _ hP') ht) hc (q1 (.ref c') h1 tk1 ⟨rfl, rfl⟩)
    · obtain ⟨rfl, rfl⟩ := g
      have kk : ∀ b o, s.heap.get? b = some o → (h2.push (lObj (X.env.qual ++ "<lambda>") params body scope (cloFrom X.env.cells scope.names []) dV ((X.mg "__name__").getD .none) (.ref c') ctv)).get? b = some o := fun b o e => Heap.get?_push_of_some _ (k1 _ _ e)
      exact h h2.objs.size c' _ ctv H _ (I.kept (t' := tk) kk) (ExtN.refl H) hT (later (fun b o e _ _ => kk b o e) fun _ _ _ n => n) (Heap.get?_push_size _ rfl) (I.hok.fresh z1) (nLoc _ z1) (I.nofs z1) hco
end
end OB
namespace OB
open PySem PySem.Spec PyProof.Rows L2 LamX

/-- a lambda's names: captured ones, globals, and its parameters nm, which are no names of the def around -/
structure LamN (sc scope : Scope) (N nm : List Str) : Prop where
  kind : scope.kind = .function
  co : scope.isCoroutine = false
  gen : scope.isGenerator = false
  own : ∀ y ∈ scope.names, y.2 ≠ .cell ∧ (y.2 = .local → y.1 ∉ N)
  par : ∀ x ∈ nm, scope.names.lookup x = some .local
  free : ∀ y ∈ scope.names, y.2 = .free → sc.names.lookup y.1 = some .cell ∨ sc.names.lookup y.1 = some .free
def lamNB (sc scope : Scope) (N nm : List Str) : Bool :=
  decide (scope.kind = .function) && !scope.isCoroutine && !scope.isGenerator &&
    (scope.names.all fun y => !decide (y.2 = .cell) && (!decide (y.2 = .local) || decide (y.1 ∉ N)) && (!decide (y.2 = .free) || decide (sc.names.lookup y.1 = some .cell) || decide (sc.names.lookup y.1 = some .free))) &&
    nm.all fun x => decide (scope.names.lookup x = some .local)
theorem lamN_by {sc scope : Scope} {N nm : List Str} (h : lamNB sc scope N nm = true) : LamN sc scope N nm := by
  unfold lamNB at h
  simp only [Bool.and_eq_true, Bool.or_eq_true, Bool.not_eq_true', decide_eq_true_eq, decide_eq_false_iff_not, List.all_eq_true] at h
  obtain ⟨⟨⟨⟨h1, h2⟩, h3⟩, h4⟩, h5⟩ := h
  refine ⟨h1, h2, h3, fun y hy => ⟨(h4 y hy).1.1, fun e => ?_⟩, fun x hx => h5 x hx, fun y hy e => ?_⟩
  · rcases (h4 y hy).1.2 with z | z
    · exact absurd e z
    · exact z
  · rcases (h4 y hy).2 with (z | z) | z
    · exact absurd e z
    · exact .inl z
    · exact .inr z
theorem LamN.has {X : Cx} {scope : Scope} {N nm : List Str} (L : LamN X.env.scope scope N nm) (ok : X.Ok) : ∀ y ∈ scope.names, y.2 = .free → ∃ c, X.env.cells.lookup y.1 = some c := fun y hy e => by
  rcases L.free y hy e with k | k
  · exact ok.has _ (.inl k)
  · exact ok.has _ (.inr k)
section
variable {X : Cx} {pins : List (Addr × Obj)} {σ : L2.St} {H HZ : Hp} {s s1 : Shared}
theorem lam_start {A : Around} {outer : List Env} {E : XK} {scope : Scope} {f c' : Addr} {h₁ : Heap} {tk : Nat} {nm : List Str} {m1 : Str → Option Value} (I : Inv X pins σ H s) (L : LamN X.env.scope scope X.N nm) (e0 : Env0 X.prog X.w X.K X.mg X.base A outer s1 HZ) (hd : A.handled = none)
    (un : Un (frs X.stack) [] H HZ s.heap s1.heap) (hns : h₁.Ns s1.heap.objs.size m1) (kp : ∀ b o, s1.heap.get? b = some o → h₁.get? b = some o) :
    Inv (lamCx X A outer s1 HZ E scope f c') [] σ HZ { s1 with heap := h₁, toks := tk } := by
  have hfree := L.has I.ok
  have up : ∀ {y c}, (cloFrom X.env.cells scope.names []).lookup y = some c → X.env.cells.lookup y = some c := fun {y c} e => by
    rcases cloFrom_mem (PySem.mem_of_lookup e) with hm | ⟨h1, h2⟩
    · cases hm
    · obtain ⟨c1, hc⟩ := hfree _ h1 rfl
      have hc : X.env.cells.lookup y = some c1 := hc
      rw [hc] at h2
      have h3 : c = c1 := h2
      rw [h3]
      exact hc
  have down : ∀ {y}, scope.names.lookup y = some .free → ∃ c, (cloFrom X.env.cells scope.names []).lookup y = some c := fun {y} hl =>
    mem_lookup (cloFrom_has (cells := X.env.cells) (acc := []) (PySem.mem_of_lookup hl))
  have cellK : ∀ {c : Addr} {v : Option Value}, H c = none → s.heap.IsCell c v → h₁.IsCell c v := fun {c v} n ⟨o, ho, hd⟩ => by
    obtain ⟨sl, q⟩ := un.any ho n (by simp)
    exact ⟨_, kp _ _ q, hd⟩
  have noX : ∀ b : Addr, b ∉ (lamCx X A outer s1 HZ E scope f c').ex := fun b z => absurd (show b ∈ ([] : List Addr) from z) (by simp)
  refine ⟨⟨e0.mod, L.kind, rfl, rfl, Nat.le_refl _, fun y z c e1 e2 => I.ok.inj y z c (up e1) (up e2), fun y hy => ?_, fun y c z _ => ?_, fun _ => hd, Around.frames_deeper e0.frames, .inr ⟨rfl, rfl⟩, fun b z => absurd z (noX b), e0.bs, e0.bsz, fun b _ _ => noX b,
      fun b z => absurd z (noX b), e0.funs, e0.frf⟩,
    rfl, e0.bare, Un.kept kp, ⟨_, hns, fun i y v e1 e2 e3 => ?_⟩, fun y c e => ?_, e0.hok.fresh (Nat.le_refl _), fun y c e => ?_, fun q hq => absurd (show q ∈ ([] : List (Addr × Obj)) ++ [] from hq) (by simp), e0.hok.kept kp, I.len⟩
  · have hy : scope.names.lookup y = some .cell ∨ scope.names.lookup y = some .free := hy
    rcases hy with hy | hy
    · exact absurd rfl (L.own _ (PySem.mem_of_lookup hy)).1
    · exact down hy
  · have z : false = true := z
    cases z
  · have e3 : Vis scope y := e3
    have e1 : X.N[i]? = some y := e1
    rcases e3 with k | k | k
    · exact absurd (List.mem_of_getElem? e1) ((L.own _ (PySem.mem_of_lookup k)).2 rfl)
    · exact absurd rfl (L.own _ (PySem.mem_of_lookup k)).1
    · obtain ⟨m, hn, hl⟩ := I.loc
      have vis : Vis X.env.scope y := (L.free _ (PySem.mem_of_lookup k) rfl).elim (fun k => .inr (.inl k)) (fun k => .inr (.inr k))
      obtain ⟨w', r, q⟩ := hl i y v e1 e2 vis
      obtain ⟨c2, h2⟩ := down k
      refine ⟨w', r, .inr ⟨.inr k, c2, h2, ?_⟩⟩
      have c1 := up h2
      rcases q with ⟨k', _⟩ | ⟨_, c3, e', z⟩
      · have k' : X.env.scope.names.lookup y = some .local := k'
        rcases L.free _ (PySem.mem_of_lookup k) rfl with k2 | k2 <;> rw [show X.env.scope.names.lookup y = _ from k2] at k' <;> cases k'
      · rw [c1] at e'
        cases e'
        exact cellK (I.freeC y _ c1) z
  · obtain ⟨w', z⟩ := I.cell y c (up e)
    exact ⟨w', cellK (I.freeC y c (up e)) z⟩
  · obtain ⟨v, o, ho, hd⟩ := I.cell y c (up e)
    exact un.free c o ho (I.freeC y c (up e)) (by simp)
/-- how a lambda called with nothing binds its parameters nm to their defaults ds -/
def LamB (params : Arguments) (nm : List Str) (ds : List Value) : Prop :=
  ∀ (q : Str) (body : Expr) (scope : Scope) (cl : List (Str × Addr)) (dV pm cv ctv : Value) (M : Model) (A : Around) (E : Value → Shared → Prop) (s : Shared) (H : Hp) (fs : List Addr) (Q : List (Str × Value) → Shared → Prop),
    DflAt s.heap H fs dV ds → Q (nm.zip ds) s → wpAny M A (bindArgs (lFn q params body scope cl dV pm cv ctv) ⟨[], []⟩) Q E s
theorem lamB0 {params : Arguments} (h : ∀ (q : Str) (body : Expr) (scope : Scope) (cl : List (Str × Addr)) (pm cv ctv : Value), bindArgs (lFn q params body scope cl .none pm cv ctv) ⟨[], []⟩ = pure []) : LamB params [] [] :=
  fun q body scope cl dV pm cv ctv M A E s H fs Q hd hq => by
    have hd : dV = .none := hd
    rw [hd, h]
    exact wpAny_pure hq
theorem lamB1 {params : Arguments} {a : Str} {d : Value} (h : ∀ (q : Str) (body : Expr) (scope : Scope) (cl : List (Str × Addr)) (T : Addr) (pm cv ctv : Value), ∃ k, bindArgs (lFn q params body scope cl (.ref T) pm cv ctv) ⟨[], []⟩ = seqItems? (.ref T) >>= k ∧ k (some #[d]) = pure [(a, d)]) : LamB params [a] [d] :=
  fun q body scope cl dV pm cv ctv M A E s H fs Q hd hq => by
    obtain ⟨T, o, n, rfl, e2, e3, _⟩ := hd
    obtain ⟨k, e, ek⟩ := h q body scope cl T pm cv ctv
    rw [e]
    refine wpAny_bind (wpAny_seqItems e2 e3 ?_)
    rw [show (some [d].toArray : Option (Array Value)) = some #[d] from rfl, ek]
    exact wpAny_pure hq
/-- x(), in the def that got the lambda: Z is that def's context, entered at s -/
theorem pe_act {CXg : CXT} {Eg : XK} {Ng : List Str} {qg : Str} {sg : Scope} {g f c' : Addr} {cdg pm ctv dV : Value} {ds : List Value} {nm : List Str} {params : Arguments} {body : Expr} {scope : Scope} {k i : Nat} {a : Str} {pn : List (Addr × Obj)} {xe : Value → Shared → Prop} {W : WX} {tb : XK → TE} {p1 p2 : Pos}
    (I : Inv X pins σ H s) (L : LamN X.env.scope scope X.N nm) (hf : s.heap.get? f = some (lObj (X.env.qual ++ "<lambda>") params body scope (cloFrom X.env.cells scope.names []) dV pm (.ref c') ctv)) (hfn : H f = none) (hfr : f ∉ X.env.locals :: X.fs)
    (hbind : LamB params nm ds) (hds : DflAt s.heap H (X.env.locals :: X.fs) dV ds)
    (tk : Takes ((cxOf CXg X.prog X.w X.K X.mg X.base Ng qg sg g cdg X.A X.stack s H Eg).tr pn xe) W) (hr : Room (k + 1) (X.A.deeper (envOfC qg sg s.heap.objs.size g cdg)))
    (hbody : ∀ (A : Around) (outer : List Env) (s : Shared) (H : Hp) (E : XK), Room k (A.deeper (lamEnv X scope s.heap.objs.size f c')) → PE (lamCx X A outer s H E scope f c') body (tb E))
    (hN : Ng[i]? = some a) (hv : Vis sg a) (hd : (a == ("__debug__" : Str)) = false := by decide) (hcd : (a == ("__classdict__" : Str)) = false := by decide) :
    PE ((cxOf CXg X.prog X.w X.K X.mg X.base Ng qg sg g cdg X.A X.stack s H Eg).tr pn xe) (.Call (.Name a p1) [] [] p2)
      (fun σZ HZ Q => σZ[i]? = some (some (.ref f)) ∧ HZ c' = some (CodeO c' (X.env.qual ++ "<lambda>")) ∧ tb (fun cls d H' => W cls d σZ H') σ HZ Q) := by
  have nst : ∀ {b : Addr}, b ∉ X.env.locals :: X.fs → b ∉ frs X.stack := fun {b} h z => h (I.stkSub b z)
  refine ⟨fun pinsZ sZ σZ HZ Q IZ h => ?_⟩
  obtain ⟨hs, hc, ht⟩ := h
  refine wpAny_Call_Name_kw (thn ((pe_var (pos := p1) (i := i) hN hv hd hcd).run pinsZ sZ σZ HZ (fun v H1 => v = .ref f ∧ H1 = HZ) IZ ⟨.ref f, hs, rfl, rfl⟩) fun u s1 ⟨v, H1, I1, r1, q1⟩ => ?_)
  obtain ⟨ev, eH⟩ := q1
  subst ev
  rw [eH] at I1
  obtain rfl : u = Value.ref f := r1
  have keep1 : ∀ {b : Addr} {o : Obj}, s.heap.get? b = some o → H b = none → b ∉ X.env.locals :: X.fs → s1.heap.get? b = some o ∧ HZ b = none := fun {b o} e n nf =>
    ⟨I1.base.keep b _ e n (nst nf) (fun z => nomatch (show b ∈ ([] : List Addr) from z)), I1.base.free b _ e n (fun z => nomatch (show b ∈ ([] : List Addr) from z))⟩
  have of1 := (keep1 hf hfn hfr).1
  have ds1 : DflAt s1.heap HZ (X.env.locals :: X.fs) dV ds := by
    cases ds with
    | nil => exact hds
    | cons d r =>
      obtain ⟨T, o, n, e1, e2, e3, e4, e5⟩ := hds
      exact ⟨T, o, n, e1, (keep1 e2 e4 e5).1, e3, (keep1 e2 e4 e5).2, e5⟩
  refine PySem.W.callWith_F0 ⟨_, _, _, _, of1⟩ ?_
  have un : Un (frs X.stack) [] H HZ s.heap s1.heap := I1.base
  obtain ⟨⟨oc, vs, t, hoc, hdc, hvc⟩, _, _⟩ := I1.hok c' _ hc
  have rc : codeAny (model X.prog X.w) (X.A.deeper (envOfC qg sg s.heap.objs.size g cdg)) (.call (.ref f) ⟨[], []⟩) (CR (L2.CX X.prog X.w) (envOfC qg sg s.heap.objs.size g cdg :: X.stack) X.prog X.w HZ s1 Q fun cls d H' => W cls d σZ H') s1 := by
    refine PySem.W.kla_callFunE hr.depth of1 rfl L.co L.gen rfl ⟨c', oc, vs, t, rfl, hoc, hdc, hvc⟩ ?_
    refine hbind _ _ _ _ _ _ _ _ _ _ _ s1 HZ _ _ ds1 ?_
    refine wpAny_newFunctionEnv (fun y hy => (L.own y hy).1) (fun y hy => L.par _ (List.of_mem_zip (by simpa using hy)).1) (fun h₁ hns hsb => ⟨I1.nolimit.fresh _ hsb, ?_⟩) L.kind
    show codeAny _ _ (.expr body (lamEnv X scope s1.heap.objs.size f c')) _ _
    have kp : ∀ b o, s1.heap.get? b = some o → h₁.get? b = some o := fun b o e => hsb.extBut b o (Nat.ne_of_lt (Heap.lt_size e)) (Heap.get?_push_of_some _ e)
    have J : Inv (lamCx X (X.A.deeper (envOfC qg sg s.heap.objs.size g cdg)) (envOfC qg sg s.heap.objs.size g cdg :: X.stack) s1 HZ (fun cls d H' => W cls d σZ H') scope f c') [] σ HZ { s1 with heap := h₁, toks := s1.toks + (nm.zip ds).length } :=
      lam_start I L I1.env0 hr.hd un hns kp
    refine PySem.W.kla_codeExpr (wpAny_mono ((hbody _ _ s1 HZ _ (hr.deeper _)).run [] _ _ HZ Q J ht) (fun v s' hq => ?_) fun e s' hq => hq)
    obtain ⟨w', H', J', rv, q⟩ := hq
    exact ⟨w', H', J'.os, J'.bare, J'.base, J'.hok, rv, q⟩
  refine wpAny_call (codeAny_mono rc fun r s' hq => ?_)
  cases r with
  | error e => exact tk e s' (XE.of_call I1 (fun _ _ _ h => h) hq)
  | ok fl =>
    cases fl with
    | ret u => exact I1.after hq
    | next => exact False.elim hq
    | brk => exact False.elim hq
    | cont => exact False.elim hq
end
/-- a reading that grows with what is wanted -/
def MonoL (tl : XK → Hp → VK → Prop) : Prop := ∀ (E1 E2 : XK) (H : Hp) (Q1 Q2 : VK), (∀ c d H', E1 c d H' → E2 c d H') → (∀ v H', Q1 v H' → Q2 v H') → tl E1 H Q1 → tl E2 H Q2
/-- the def that calls what it got, beside other values vs; TT: what it makes of the lambda's reading -/
def Gives (X : Cx) (Ng : List Str) (x : Str) (sg : Scope) (g : Addr) (cdg : Value) (bg : List Stmt) (a : Str) (q : Str) (k : Nat) (TT : List V → (XK → Hp → VK → Prop) → Hp → VK → Prop) : Prop :=
  ∀ (f c' : Addr) (vs : List V) (s : Shared) (H : Hp) (Q : VK) (tl : XK → Hp → VK → Prop), Room k (X.A.deeper (envOfC x sg s.heap.objs.size g cdg)) →
    (∀ (W : WX) (pn : List (Addr × Obj)) (xe : Value → Shared → Prop) (p1 p2 : Pos), Takes ((cxOf L2.CX0 X.prog X.w X.K X.mg X.base Ng x sg g cdg X.A X.stack s H fun _ _ _ => False).tr pn xe) W →
      PE ((cxOf L2.CX0 X.prog X.w X.K X.mg X.base Ng x sg g cdg X.A X.stack s H fun _ _ _ => False).tr pn xe) (.Call (.Name a p1) [] [] p2) (fun σZ HZ Q => σZ[0]? = some (some (.ref f)) ∧ HZ c' = some (CodeO c' q) ∧ tl (fun cls d H' => W cls d σZ H') HZ Q)) →
    H c' = some (CodeO c' q) → MonoL tl → TT vs tl H Q →
    ∃ t, PSs (cxOf L2.CX0 X.prog X.w X.K X.mg X.base Ng x sg g cdg X.A X.stack s H fun _ _ _ => False).nox bg t ∧ t { nx := fun _ H' => Q .non H', rt := Q } (L2.start Ng (.ref f :: vs)) H
def tLam2 (T : List (Addr × Str)) (vs : List V) (TT : List V → (XK → Hp → VK → Prop) → Hp → VK → Prop) (t : XK → TE) : TE := fun σ H Q => Tabs T H ∧ ∀ H1, ExtN H H1 → Tabs T H1 → TT vs (fun E H' Q' => t E σ H' Q') H1 Q
section
variable {X : Cx}
/-- x(lambda: body, rest ..), rest written constants -/
theorem pe_lam {T : List (Addr × Str)} {vs : List V} {TT : List V → (XK → Hp → VK → Prop) → Hp → VK → Prop} {x a : Str} {g c P : Addr} {k : Nat} {pg : Arguments} {bg : List Stmt} {sg : Scope} {dV kV doc pm cdv ct oc : Value} {an od : Option Addr} {osl : Array (Option Value)} {Ng ps nm : List Str}
    {params : Arguments} {body : Expr} {rest : List Expr} {tr : TA} {dts : List Int} {scope : Scope} {t : XK → TE} {p lpos pos : Pos} (hg : Gl X x) (hm : X.mg x = some (.ref g)) (hk : PySem.W.keepIn X.K (.ref g) = true)
    (lk : X.K.lookup g = some ⟨oc, od, .func (PySem.W.fnOf x x pg bg sg dV kV doc pm an cdv ct), osl⟩) (hcg : PySem.W.codeIn X.K cdv x = true) (hb : L2.Binds X.K (PySem.W.fnOf x x pg bg sg dV kV doc pm an cdv ct) (a :: ps) []) (Sg : FnScope Ng (a :: ps) sg) (hNg : Ng[0]? = some a) (hva : Vis sg a)
    (hG : Gives X Ng x sg g cdv bg a (X.env.qual ++ "<lambda>") (k + 1) TT)
    (TB : TabB X.base X.mg c P) (hcode : X.env.code = .ref c) (hmT : (P, X.env.qual ++ "<lambda>") ∈ T) (hu : ∀ p ∈ T, p.1 = P → p.2 = X.env.qual ++ "<lambda>") (hr : Room (k + 2) X.A) (L : LamN X.env.scope scope X.N nm)
    (hdef : (dts = [] ∧ defaultsOf params X.env = ([], [])) ∨ ∃ n j dp, dts = [n] ∧ defaultsOf params X.env = ([eval (.Constant (.int n) j dp) X.env], []))
    (hbind : ∀ ds : List Value, Vals (dts.map V.int) ds → LamB params nm ds)
    (hmono : ∀ σ : L2.St, MonoL fun E H' Q' => t E σ H' Q') (hrest : PA X rest tr) (htr : ∀ σ H Q, tr σ H Q = Q vs H) (hvl : vs.length = ps.length)
    (hbody : ∀ (A : Around) (outer : List Env) (s : Shared) (H : Hp) (E : XK) (f c' : Addr), Room k (A.deeper (lamEnv X scope s.heap.objs.size f c')) → PE (lamCx X A outer s H E scope f c') body (t E))
    (he : starEach (.Lambda params body scope lpos :: rest) X.env = (false, eval (.Lambda params body scope lpos) X.env) :: starEach rest X.env := by rfl) (hpl : (backTo pos (starEach rest X.env)).any (·.1) = false := by rfl)
    (hdb : (x == ("__debug__" : Str)) = false := by decide) (hd : (a == ("__debug__" : Str)) = false := by decide) (hcd : (a == ("__classdict__" : Str)) = false := by decide) :
    PE X (.Call (.Name x p) (.Lambda params body scope lpos :: rest) [] pos) (tLam2 T vs TT t) := by
  refine ⟨fun pins s σ H Q I h => ?_⟩
  obtain ⟨hT, h⟩ := h
  refine wpAny_Call_Name_kw (ld_glob I hg hm ?_ hdb)
  refine PySem.W.callWith_K (h₀ := X.base) I.ok.mod.kin hk ?_ he hpl
  rw [he]
  show wpAny _ _ (spliced ((false, eval (.Lambda params body scope lpos) X.env) :: backTo pos (starEach rest X.env))) _ _ s
  -- from the making of the object on
  have go : ∀ (s0 : Shared) (dV : Value) (ds : List Value), Inv X pins σ H s0 → Vals (dts.map V.int) ds → DflAt s0.heap H (X.env.locals :: X.fs) dV ds →
      wpAny (model X.prog X.w) X.A (PySem.makeTail "<lambda>" (X.env.qual ++ "<lambda>") params (.expr body) scope X.env dV .none none lpos lpos.line)
        (fun u s1 => wpAny (model X.prog X.w) X.A (spliced (backTo pos (starEach rest X.env))) (fun us s2 => X.K.In s2.heap ∧ wpAny (model X.prog X.w) X.A (call (.ref g) ([] ++ u :: us)) (EP X pins σ Q) X.xe s2) X.xe s1) X.xe s0 := by
    intro s0 dV ds I0 rd hd0
    refine lam_tail I0 TB hcode hmT hu hT (L.has I0.ok) hd0 fun f c' pm' ctv H1 s' I1 eN T1 hd1 hf hfn hfL hfF hco => ?_
    obtain ⟨pl, hpl1, hpl2⟩ : ∃ pl : List (Addr × Obj), (∀ p ∈ pl, s'.heap.get? p.1 = some p.2 ∧ H1 p.1 = none ∧ p.1 ≠ X.env.locals ∧ p.1 ∉ X.fs ∧ ∀ v, p.2.data ≠ .cell v) ∧ (∀ h2 : Heap, (∀ p ∈ pl, h2.get? p.1 = some p.2) → DflAt h2 H1 (X.env.locals :: X.fs) dV ds) := by
      cases ds with
      | nil => exact ⟨[], (fun p hp => nomatch hp), fun _ _ => hd1⟩
      | cons d r =>
        obtain ⟨Td, o, n, e1, e2, e3, e4, e5⟩ := hd1
        refine ⟨[(Td, o)], fun p hp => ?_, fun h2 k => ⟨Td, o, n, e1, k _ List.mem_cons_self, e3, e4, e5⟩⟩
        obtain rfl : p = (Td, o) := by simpa using hp
        exact ⟨e2, e4, fun z => e5 (by rw [show Td = X.env.locals from z]; exact List.mem_cons_self), fun z => e5 (List.mem_cons_of_mem _ z), fun v z => by
          have z' : o.data = .cell v := z
          rw [e3] at z'
          cases z'⟩
    have J : Inv X (pins ++ ((f, _) :: pl)) σ H1 s' := I1.pins_of (pins' := pins ++ ((f, lObj (X.env.qual ++ "<lambda>") params body scope (cloFrom X.env.cells scope.names []) dV pm' (.ref c') ctv) :: pl)) fun p hp => by
      rcases List.mem_append.mp hp with hp | hp
      · exact I1.pin p (List.mem_append_right _ hp)
      · rcases List.mem_cons.mp hp with e | hp
        · rw [e]
          exact ⟨hf, hfn, hfL, hfF, fun v z => nomatch z⟩
        · exact hpl1 p hp
    refine thn (hrest.run pos _ s' σ H1 (fun vs' H' => vs' = vs ∧ H' = H1) J (by rw [htr]; exact ⟨rfl, rfl⟩)) fun us s2 ⟨vs', H2, I2, r2, e1, e2⟩ => ?_
    subst e1
    rw [e2] at I2
    have hf2 := (I2.pin (f, _) (List.mem_append_right _ (List.mem_append_right _ List.mem_cons_self))).1
    have hd2 : DflAt s2.heap H1 (X.env.locals :: X.fs) dV ds := hpl2 _ fun p hp => (I2.pin p (List.mem_append_right _ (List.mem_append_right _ (List.mem_cons_of_mem _ hp)))).1
    have I3 : Inv X pins σ H1 s2 := I2.unpinned
    refine ⟨I3.kIn, ?_⟩
    have rv : Vals (V.ref f :: vs') (Value.ref f :: us) := .cons rfl r2
    have hlen : (Value.ref f :: us).length = (a :: ps).length := by
      rw [← rv.length, List.length_cons, List.length_cons, hvl]
    have rc : codeAny (model X.prog X.w) X.A (.call (.ref g) ⟨.ref f :: us, []⟩) (CR L2.CX0 X.stack X.prog X.w H1 s2 Q fun _ _ _ => False) s2 := by
      refine run_ofS (N := Ng) (ps := a :: ps) (us := .ref f :: us) (vs := .ref f :: vs') lk hcg Sg hr I3.env0 (by have z := hb s2 (Value.ref f :: us) I3.kIn (by rw [List.append_nil]; exact hlen); rw [List.append_nil] at z; exact z) rv (by rw [List.length_cons, List.length_cons, hvl]) fun hr' => ?_
      obtain ⟨t', ht', hq'⟩ := hG f c' vs' s2 H1 Q (fun E H' Q' => t E σ H' Q') hr' (fun W pn xe p1 p2 tk => pe_act (i := 0) I3 L hf2 hfn (fun z => (List.mem_cons.mp z).elim hfL hfF) (hbind ds rd) hd2 tk hr' (fun A outer s H E hr2 => hbody A outer s H E f c' hr2) hNg hva hd hcd) hco (hmono σ) (h H1 eN T1)
      exact ⟨t', ht'.nox, hq'⟩
    refine wpAny_call (codeAny_mono rc fun r s3 hq => ?_)
    cases r with
    | error e => exact (show False from hq).elim
    | ok fl =>
      cases fl with
      | ret u => exact I3.after hq
      | next => exact False.elim hq
      | brk => exact False.elim hq
      | cont => exact False.elim hq
  refine Calls.spliced_cons ?_
  rw [PySem.arm_eval_Lambda]
  rcases hdef with ⟨rfl, hdef⟩ | ⟨n, j, dp, rfl, hdef⟩
  · rw [hdef]
    refine wpAny_bind (wpAny_pure (wpAny_bind (wpAny_holding (wpAny_pure ?_))))
    rw [PySem.makeFunction_eq]
    simp only [List.zip_nil_right, List.filterMap_nil, List.isEmpty_nil, if_true, pure_bind]
    exact go s .none [] I .nil rfl
  · rw [hdef]
    refine wpAny_bind (m := evalAll [eval (.Constant (.int n) j dp) X.env]) ?_
    unfold evalAll evalAll
    refine wpAny_bind (thn ((pe_int (X := X) (i := n) (j := j) (pos := dp)).run pins s σ H (fun v H' => v = .int n ∧ H' = H) I ⟨rfl, rfl⟩) fun u s1 ⟨v, H1, I1, r1, e1, e2⟩ => ?_)
    subst e1
    rw [e2] at I1
    refine wpAny_bind (wpAny_holding (wpAny_pure (wpAny_pure ?_)))
    refine wpAny_bind (wpAny_holding (wpAny_pure ?_))
    rw [PySem.makeFunction_eq]
    simp only [List.zip_nil_right, List.filterMap_nil, List.isEmpty_nil, List.isEmpty_cons, Bool.false_eq_true, if_true, if_false, pure_bind]
    refine wpAny_bind (wpAny_newTextTuple ?_)
    have sz : s1.heap.objs.size ≤ s1.heap.objs.size := Nat.le_refl _
    refine go _ (.ref s1.heap.objs.size) [u] (I1.kept (t' := s1.toks) fun b o e => Heap.get?_push_of_some _ e) (.cons r1 .nil) ⟨_, _, _, rfl, Heap.get?_push_size _ rfl, rfl, I1.hok.fresh sz, fun z => ?_⟩
    rcases List.mem_cons.mp z with z | z
    · exact Nat.lt_irrefl _ (show s1.heap.objs.size < s1.heap.objs.size by
        have q := I1.lt
        rw [← z] at q
        exact q)
    · exact I1.nofs sz z
end
end OB
/-! What a law draws from: a list of a list of ints, how many draws were made, what is left of a great one. -/
namespace OB
open PySem PySem.Spec PyProof.Rows L2
/-- the lot stands at p, its ints at b; at most n draws were made -/
def Orch (H : Hp) (p b : Addr) (n : Nat) : Prop := ∃ (ns : List Int) (t l : Int), H p = some (.lst [.ref b, .int t, .int l]) ∧ H b = some (.lst (ns.map V.int)) ∧ 0 ≤ t ∧ t ≤ n
theorem Orch.ne {H : Hp} {p b : Addr} {n : Nat} (o : Orch H p b n) : p ≠ b := by
  obtain ⟨ns, t, l, h1, h2, _⟩ := o
  refine ne_of h1 h2 fun z => ?_
  injection z with z
  cases ns with
  | nil => cases z
  | cons a r =>
    injection z with z _
    cases z
theorem Orch.keep {H H' : Hp} {p b : Addr} {n : Nat} (o : Orch H p b n) (hp : ∀ u, H p = some u → H' p = some u) (hb : ∀ u, H b = some u → H' b = some u) : Orch H' p b n := by
  obtain ⟨ns, t, l, h1, h2, h3⟩ := o
  exact ⟨ns, t, l, hp _ h1, hb _ h2, h3⟩
theorem Orch.same {H H' : Hp} {p b : Addr} {n : Nat} (o : Orch H p b n) (s : Same H H') : Orch H' p b n := o.keep (fun u => s p u) fun u => s b u
theorem Orch.mono {H : Hp} {p b : Addr} {n m : Nat} (o : Orch H p b n) (h : n ≤ m) : Orch H p b m := by
  obtain ⟨ns, t, l, h1, h2, h3, h4⟩ := o
  exact ⟨ns, t, l, h1, h2, h3, by omega⟩
theorem Orch.pn {H : Hp} {p b : Addr} {n : Nat} (o : Orch H p b n) : ∃ u, H p = some u := by
  obtain ⟨ns, t, l, h1, h2, h3, h4⟩ := o
  exact ⟨_, h1⟩
theorem Orch.bn {H : Hp} {p b : Addr} {n : Nat} (o : Orch H p b n) : ∃ u, H b = some u := by
  obtain ⟨ns, t, l, h1, h2, h3, h4⟩ := o
  exact ⟨_, h2⟩
/-- all that was tracked is as it was, but what stands at p -/
def But (p : Addr) (H H' : Hp) : Prop := ∀ q o, H q = some o → q ≠ p → H' q = some o
theorem But.refl {p : Addr} {H : Hp} : But p H H := fun _ _ h _ => h
theorem But.of {p : Addr} {H H' : Hp} (s : Same H H') : But p H H' := fun q o h _ => s q o h
theorem But.trans {p : Addr} {H H1 H2 : Hp} (a : But p H H1) (b : But p H1 H2) : But p H H2 := fun q o h n => b q o (a q o h n) n
theorem same_new {H : Hp} {l : Addr} {o : HO} (h : H l = none) : Same H (upd H l o) := fun b u e => by
  rw [upd_ne (ne_of_none e h)]
  exact e
theorem but_at {H : Hp} {p : Addr} {o : HO} : But p H (upd H p o) := fun q u e n => by
  rw [upd_ne n]
  exact e
/-- a draw from many: some number below many; the lot goes on -/
def spDraw : Sp := fun vs H Q _ => ∃ (p b : Addr) (n : Nat) (many : Int), vs = [.ref p, .int many] ∧ Orch H p b n ∧ n < 1000000 ∧ 0 < many ∧ many.natAbs < 2 ^ 9000 ∧
  ∀ (r : Int) (H' : Hp), 0 ≤ r → r < many → Orch H' p b (n + 1) → But p H H' → Q (.int r) H'
/-- the lot is made of a list of ints -/
def spLot (K : PySem.W.Frag) : Sp := fun vs H Q _ => ∃ (a : Addr) (ns : List Int), vs = [.ref a] ∧ SqL K H a (ns.map V.int) ∧ ns.length ≤ 63 ∧
  ∀ (p b : Addr) (H' : Hp), H p = none → H b = none → Orch H' p b 0 → Same H H' → Q (.ref p) H'
theorem mix1 {x t A B m : Int} (hm : 0 < m) (hm2 : m < 2 ^ 31) (ht : 0 ≤ t) (ht2 : t ≤ 1000000) (hA : 0 ≤ A) (hA2 : A ≤ 1000000) (hB : 0 ≤ B) (hB2 : B ≤ 1000000) : (x % m + A * t + B).natAbs < 2 ^ 64 := by
  have h1 := Int.emod_nonneg x (by omega : m ≠ 0)
  have h2 := Int.emod_lt_of_pos x hm
  have h3 : A * t ≤ 1000000 * 1000000 := Int.mul_le_mul hA2 ht2 ht (by decide)
  have h4 : 0 ≤ A * t := Int.mul_nonneg hA ht
  omega
theorem mix2 {x t A B C m : Int} (hm : 0 < m) (hm2 : m < 2 ^ 31) (ht : 0 ≤ t) (ht2 : t ≤ 1000000) (hA : 0 ≤ A) (hA2 : A ≤ 1000000) (hB : 0 ≤ B) (hB2 : B ≤ 1000000) (hC : 0 ≤ C) (hC2 : C ≤ 1000000) : (x % m * (2 * t + C) + A * t * t + B).natAbs < 2 ^ 64 := by
  have h1 := Int.emod_nonneg x (by omega : m ≠ 0)
  have h2 := Int.emod_lt_of_pos x hm
  have h3 : A * t ≤ 1000000 * 1000000 := Int.mul_le_mul hA2 ht2 ht (by decide)
  have h4 : 0 ≤ A * t := Int.mul_nonneg hA ht
  have h5 : A * t * t ≤ 1000000 * 1000000 * 1000000 := Int.mul_le_mul h3 ht2 ht (by decide)
  have h6 : 0 ≤ A * t * t := Int.mul_nonneg h4 ht
  have h7 : x % m * (2 * t + C) ≤ 2 ^ 31 * 3000000 := Int.mul_le_mul (by omega) (by omega) (by omega) (by decide)
  have h8 : 0 ≤ x % m * (2 * t + C) := Int.mul_nonneg h1 (by omega)
  omega
theorem mod_lim {x m : Int} (hm : 0 < m) (hm2 : m < 2 ^ 31) : -(2 ^ 64) < x % m ∧ x % m < 2 ^ 64 := by
  have h1 := Int.emod_nonneg x (by omega : m ≠ 0)
  have h2 := Int.emod_lt_of_pos x hm
  omega
theorem dp_ints {K : PySem.W.Frag} {H : Hp} : ∀ ns : List Int, DpAll K H (ns.map V.int) (ns.map PyData.int)
  | [] => .nil
  | n :: r => .cons (.int n) (dp_ints r)
theorem lay_ints : ∀ ns : List Int, PyData.canLayAll0 (ns.map PyData.int) = true
  | [] => by simp [PyData.canLayAll0]
  | n :: r => by simp [PyData.canLayAll0, PyData.canLay0, lay_ints r]
theorem deep_ints : ∀ ns : List Int, PyData.depthAll (ns.map PyData.int) ≤ 1
  | [] => by simp [PyData.depthAll]
  | n :: r => by
    have h := deep_ints r
    simp [PyData.depthAll, PyData.depth]
    omega
theorem shaped_ints (ns : List Int) : SeqAt.shaped (.list (ns.map PyData.int)) = true := by
  have h := deep_ints ns
  unfold SeqAt.shaped
  rw [Bool.and_eq_true]
  refine ⟨by simp [PyData.canLay0, lay_ints], decide_eq_true ?_⟩
  simp [PyData.depth]
  omega
theorem eqv_nil (ns : List Int) : PyData.eqv (.list (ns.map PyData.int)) (.list []) = decide (ns = []) := by
  cases ns with
  | nil => simp [PyData.eqv, PyData.eqvAll]
  | cons n r => simp [PyData.eqv, PyData.eqvAll]

/-! ### kinds of values: is it an integer -/
/-- x is of a kind of which isinstance(x, int) and not isinstance(x, bool) is b -/
def IsI (K : PySem.W.Frag) (H : Hp) (x : V) (b : Bool) : Prop := ∃ (n : String) (b1 b2 : Bool), TyX K H x (.type n) ∧ kitB n "int" = some b1 ∧ kitB n "bool" = some b2 ∧ b = (b1 && !b2)
section
variable {K : PySem.W.Frag} {H : Hp}
theorem isI_int (i : Int) : IsI K H (.int i) true := ⟨"int", true, false, .base (.int i), by decide +kernel, by decide +kernel, rfl⟩
theorem isI_non : IsI K H .non false := ⟨"NoneType", false, false, .base .non, by decide +kernel, by decide +kernel, rfl⟩
theorem isI_bl (b : Bool) : IsI K H (.bl b) false := ⟨"bool", true, true, .base (.bl b), by decide +kernel, by decide +kernel, rfl⟩
theorem isI_str (x : Str) : IsI K H (.str x) false := ⟨"str", false, false, .base (.str x), by decide +kernel, by decide +kernel, rfl⟩
theorem isI_lst {a : Addr} {xs : List V} (e : H a = some (.lst xs)) : IsI K H (.ref a) false := ⟨"list", false, false, .base (.lst e), by decide +kernel, by decide +kernel, rfl⟩
theorem isI_tup {a : Addr} {xs : List V} (e : H a = some (.tup xs)) : IsI K H (.ref a) false := ⟨"tuple", false, false, .base (.tup e), by decide +kernel, by decide +kernel, rfl⟩
theorem isI_dK {a : Addr} {kvs : List (Key × V)} (e : H a = some (.dK kvs)) : IsI K H (.ref a) false := ⟨"dict", false, false, .base (.dK e), by decide +kernel, by decide +kernel, rfl⟩
theorem isI_true {x : V} (h : IsI K H x true) : ∃ i, x = .int i := by
  obtain ⟨n, b1, b2, ty, e1, e2, e3⟩ := h
  have c1 : b1 = true := by
    cases b1
    · simp at e3
    · rfl
  have c2 : b2 = false := by
    cases b2
    · rfl
    · simp [c1] at e3
  subst c1 c2
  have no : ∀ {m : String}, kitB m "int" ≠ some true ∨ kitB m "bool" ≠ some false → n = m → False := fun h e => by
    subst e
    exact h.elim (fun z => z e1) fun z => z e2
  cases ty with
  | base h =>
    cases h with
    | int i => exact ⟨i, rfl⟩
    | non => exact (no (m := "NoneType") (.inl (by decide +kernel)) rfl).elim
    | bl b => exact (no (m := "bool") (.inr (by decide +kernel)) rfl).elim
    | str b => exact (no (m := "str") (.inl (by decide +kernel)) rfl).elim
    | flt b => exact (no (m := "float") (.inl (by decide +kernel)) rfl).elim
    | lst e => exact (no (m := "list") (.inl (by decide +kernel)) rfl).elim
    | frz e => exact (no (m := "list") (.inl (by decide +kernel)) rfl).elim
    | tup e => exact (no (m := "tuple") (.inl (by decide +kernel)) rfl).elim
    | dK e => exact (no (m := "dict") (.inl (by decide +kernel)) rfl).elim
    | dT e => exact (no (m := "dict") (.inl (by decide +kernel)) rfl).elim
  | byt b => exact (no (m := "bytes") (.inl (by decide +kernel)) rfl).elim
  | set e => exact (no (m := "set") (.inl (by decide +kernel)) rfl).elim
  | kList e c => exact (no (m := "list") (.inl (by decide +kernel)) rfl).elim
  | kTuple e c => exact (no (m := "tuple") (.inl (by decide +kernel)) rfl).elim
  | kDict e c => exact (no (m := "dict") (.inl (by decide +kernel)) rfl).elim
  | fTuple e => exact (no (m := "tuple") (.inl (by decide +kernel)) rfl).elim
  | fDict e => exact (no (m := "dict") (.inl (by decide +kernel)) rfl).elim
end
/-- a bound: an int or none -/
def oV : Option Int → V
  | none => .non
  | some i => .int i
def loOk (lo : Option Int) (i : Int) : Bool := match lo with
  | none => true
  | some l => decide (l ≤ i)
def hiOk (hi : Option Int) (i : Int) : Bool := match hi with
  | none => true
  | some h => decide (i ≤ h)
/-- an int within bounds -/
def inB (lo hi : Option Int) : V → Bool
  | .int i => loOk lo i && hiOk hi i
  | _ => false
def spIsInt (K : PySem.W.Frag) : Sp := fun vs H Q _ => ∃ (x : V) (b : Bool), vs = [x] ∧ IsI K H x b ∧ Q (.bl b) H
def spWithin (K : PySem.W.Frag) : Sp := fun vs H Q _ => ∃ (x : V) (lo hi : Option Int) (b : Bool), vs = [x, oV lo, oV hi] ∧ IsI K H x b ∧ Q (.bl (b && inB lo hi x)) H
/-- what raises the error at C, with its part, else returns None -/
def RaisesP (C : Addr) (part : Str) (E : XK) (H : Hp) : Prop := ∀ d, H d = none → E (.ref C) (some d) (upd H d (.xd [(("part" : Str), .str part)]))
def spNeedNumber (K : PySem.W.Frag) (C : Addr) : Sp := fun vs H Q E => ∃ (x : V) (part : Str) (lo hi : Option Int) (b : Bool), vs = [x, .str part, oV lo, oV hi] ∧ IsI K H x b ∧
  ((b && inB lo hi x) = true → Q .non H) ∧ ((b && inB lo hi x) = false → RaisesP C part E H)
def spNeedWord (K : PySem.W.Frag) (C : Addr) : Sp := fun vs H Q E => ∃ (x : V) (part : Str) (b : Bool), vs = [x, .str part] ∧ IsI K H x b ∧
  ((b && inB (some 0) none x) = true → Q .non H) ∧ ((b && inB (some 0) none x) = false → RaisesP C part E H)
/-- where nothing is raised the promise holds among calm ones -/
theorem calm_of {P : Program} {w : World} {K : PySem.W.Frag} {mg : Str → Option Value} {base : Heap} {k : Nat} {f : Addr} {fd : FuncData} {ps : List Str} {sp : Sp} (F : FnOk P w K mg base (L2.CX P w) k f fd ps sp) :
    FnOk P w K mg base CX0 k f fd ps (fun vs H Q _ => sp vs H Q fun _ _ _ => False) :=
  ⟨fun vs H Q E h => F.len vs H Q _ h, fun A outer s H args us vs Q E hr he hb hv hs => codeAny_mono (F.run A outer s H args us vs Q _ hr he hb hv hs) fun r s' hq => by
    cases r with
    | error e =>
      obtain ⟨_, _, _, _, _, _, _, _, _, _, _, _, z⟩ := hq
      exact z.elim
    | ok fl => cases fl <;> exact hq⟩
theorem iteB {b : Bool} {A B : Prop} (h1 : b = true → A) (h2 : b = false → B) : if b = true then A else B := by
  cases b with
  | true => exact iteT (h1 rfl)
  | false => exact iteF (h2 rfl)
end OB
/-! Own errors with one field, raised. -/
namespace OB
open PySem PySem.Spec PyProof.Rows L2
/-- a def of the text, as it stands behind the top -/
structure Df (K : PySem.W.Frag) (mg : Str → Option Value) (x : Str) (st : Stmt) (ps : List Str) (f : Addr) (fd : FuncData) : Prop where
  F : Fun K x x st f fd
  g : mg x = some (.ref f)
  b : Binds K fd ps []
/-- __init__(self, f): self.f = f of an own error -/
def spInit1 (K : PySem.W.Frag) (f : Str) : Sp := fun vs H Q _ => ∃ (a C : Addr) (v : V), vs = [.ref a, v] ∧ OexC K C ∧ PySem.W.findIn K (.ref C) f = some none ∧ H a = some (exo a C none) ∧
  ∀ dx, H dx = none → dx ≠ a → Q .non (upd (upd H dx (exd dx [(f, v)])) a (exo a C (some dx)))
section
variable {P : Program} {w : World} {K : PySem.W.Frag} {mg : Str → Option Value} {base : Heap}
theorem ok_init1 {qual : Str} {st : Stmt} {fI : Addr} {fd : FuncData} {f : Str} {p1 p2 p3 p4 : Pos} (F : Fun K "__init__" qual st fI fd) (S : FnScope ["self", f] ["self", f] (defScope st))
    (hb : defBody st = [.Assign [.Attribute (.Name "self" p1) f p2] (.Name f p3) p4])
    (hv : Vis (defScope st) f) (hs : Vis (defScope st) "self") (hd : (f == ("__debug__" : Str)) = false := by decide) (hcd : (f == ("__classdict__" : Str)) = false := by decide)
    (hsw : ∀ env : Env, swapsWith (.Name f p3) (some (.Attribute (.Name "self" p1) f p2)) p4.line env = pure false := by intro _; rfl) :
    FnOk P w K mg base CX0 1 fI fd ["self", f] (spInit1 K f) := by
  refine F.ok S (fun vs H Q E h => ?_) (fun cdv A outer s H vs Q E hr h => ?_)
  · obtain ⟨a, C, v, rfl, _⟩ := h
    rfl
  · obtain ⟨a, C, v, rfl, T, no, ha, k⟩ := h
    rw [hb]
    refine ⟨_, pss_one (ps_ost (pe_var (i := 0) rfl hs) (pe_var (i := 1) rfl hv hd hcd) (hsw _)), ?_⟩
    exact ⟨v, rfl, .ref a, rfl, a, C, rfl, T, no, .inl ⟨ha, fun dx n ne => k dx n ne⟩⟩
/-- an own error class with one field, as the top leaves it -/
structure Err (P : Program) (w : World) (K : PySem.W.Frag) (mg : Str → Option Value) (base : Heap) (x f : Str) (C fI : Addr) (fd : FuncData) : Prop where
  T : OexC K C
  iC : PySem.W.findIn K (.ref C) "__init__" = some (some (.ref fI))
  tI : PySem.W.typeIn K (.ref fI) = some (.type "function")
  F : FnOk P w K mg base CX0 1 fI fd ["self", f] (spInit1 K f)
  b : Binds K fd ["self", f] []
  g : mg x = some (.ref C)
  no : PySem.W.findIn K (.ref C) f = some none
theorem del_back {H : Hp} {a d : Addr} {o1 o2 o3 o4 : HO} (ha : H a = none) (n : d ≠ a) : upd (del (upd (upd (upd H a o1) d o2) a o3) a) d o4 = upd H d o4 := by
  funext b
  by_cases e : b = d
  · rw [e, upd_same, upd_same]
  · rw [upd_ne e, upd_ne e]
    by_cases e2 : b = a
    · rw [e2, del_same, ha]
    · rw [del_ne e2, upd_ne e2, upd_ne e, upd_ne e2]
end
/-- raise X(e) -/
def tRaise1 (K : PySem.W.Frag) (C : Addr) (f : Str) (W : WX) (te : TE) : TS := fun _ σ H => tMkO C (spInit1 K f) [] (tCons te tNil) σ H fun cls d H' => W cls d σ H'
theorem raise1_of {K : PySem.W.Frag} {C : Addr} {f : Str} {W : WX} {σ : L2.St} {H1 : Hp} {v : V} (T : OexC K C) (no : PySem.W.findIn K (.ref C) f = some none) (h : ∀ d, H1 d = none → W (.ref C) (some d) σ (upd H1 d (.xd [(f, v)]))) :
    tNil σ H1 fun xs H2 => (v :: xs).length ≤ 1000 ∧ ∀ a, H2 a = none → spInit1 K f (.ref a :: ((v :: xs) ++ [])) (upd H2 a (exo a C none))
      (fun u H3 => u = .non ∧ ∃ (d : Addr) (fs : List (Str × V)), H3 a = some (exo a C (some d)) ∧ H3 d = some (exd d fs) ∧ H2 d = none ∧ W (.ref C) (some d) σ (upd (del H3 a) d (.xd fs))) (fun _ _ _ => False) := by
  refine ⟨by show 1 ≤ 1000; decide, fun a ha => ⟨a, C, v, rfl, T, no, upd_same, fun dx nd ne => ?_⟩⟩
  rw [upd_ne ne] at nd
  refine ⟨rfl, dx, [(f, v)], upd_same, ?_, nd, ?_⟩
  · rw [upd_ne ne, upd_same]
  · rw [del_back ha ne]
    exact h dx nd
theorem ps_raise1 {X : Cx} {W : WX} {x f : Str} {C fI : Addr} {fd : FuncData} {e : Expr} {te : TE} {p p2 pos : Pos} (hc : X.calm = true) (tk : Takes X W) (R : Err X.prog X.w X.K X.mg X.base x f C fI fd) (hr : Room 2 X.A) (hg : Gl X x) (he : PE X e te)
    (hx : Passes CX0 X (fun _ _ _ => False) := by exact pass0) (hs : starEach [e] X.env = [(false, eval e X.env)] := by rfl) (hdb : (x == ("__debug__" : Str)) = false := by decide) :
    PS X (.Raise (some (.Call (.Name x p) [e] [] p2)) none pos) (tRaise1 X.K C f W te) :=
  ps_raise (pos := pos) hc tk (pmk_oex (p := p) (pos := p2) R.T R.iC R.tI R.F hr R.b .nil hx hg R.g (pa_cons he pa_nil hs) hdb hs)
section
variable {X : Cx}
/-- 1 << k -/
theorem op_oneN : OpR X (binaryOp .LShift) (fun x y H Q => ∃ k : Nat, x = .int 1 ∧ y = .int (k : Int) ∧ k ≤ 1000000 ∧ Q (.int ((2 ^ k : Nat) : Int)) H) := by
  intro pins s σ H x y v u Q I rx ry h
  obtain ⟨k, rfl, rfl, c, q⟩ := h
  refine op_shl pins s σ H _ _ v u Q I rx ry ⟨_, _, rfl, rfl, ⟨Int.natCast_nonneg _, by omega, by decide⟩, ?_⟩
  have e : (1 : Int) * 2 ^ ((k : Int)).toNat = ((2 ^ k : Nat) : Int) := by
    rw [Int.one_mul, Int.toNat_natCast, Int.natCast_pow]
    rfl
  show Q (.int ((1 : Int) * 2 ^ ((k : Int)).toNat)) H
  rw [e]
  exact q
end
theorem pow_lt9 {i : Nat} (h : i ≤ 8000) : ((2 ^ i : Nat) : Int).natAbs < 2 ^ 9000 := by
  rw [Int.natAbs_natCast]
  exact Nat.pow_lt_pow_right (by decide) (by omega)
section
variable {X : Cx} {CX : CXT} {k : Nat} {f : Addr} {fd : FuncData} {ps ks : List Str} {sp : Sp} {E : XK} {x : Str} {p pos : Pos} {kws : List Keyword} {tk : TA} {g : List Value → List Value → List Value} {gV : List V → List V → List V}
/-- f(k = v, ..): keywords alone -/
theorem pe_callKo (F : FnOk X.prog X.w X.K X.mg X.base CX k f fd ps sp) (hr : Room k X.A) (hg : Gl X x) (hm : X.mg x = some (.ref f)) (hk : PySem.W.keepIn X.K (.ref f) = true) (hb : KBinds X.K fd ps ks g gV) (hx : Passes CX X E)
    (hkw : PK X kws tk) (hall : (backToKw pos (keywordEach kws X.env)).all (·.1.isSome) = true := by rfl) (hks : (backToKw pos (keywordEach kws X.env)).filterMap (·.1) = ks := by rfl)
    (hdb : (x == ("__debug__" : Str)) = false := by decide)
    (hpl : ((backTo pos (starEach [] X.env)).any (·.1) || (backToKw pos (keywordEach kws X.env)).any (·.1.isNone)) = false := by rfl) :
    PE X (.Call (.Name x p) [] kws pos) (tCallK sp gV E tNil tk) := by
  refine ⟨fun pins s σ H Q I h => ?_⟩
  refine wpAny_Call_Name_kw (ld_glob I hg hm ?_ hdb)
  refine PySem.W.callWith_KW0 (h₀ := X.base) I.ok.mod.kin hk hall ?_ hpl
  refine thn (hkw.run pos pins s σ H _ I h) fun ws s2 ⟨zs, H2, I2, rz, q2⟩ => ⟨I2.kIn, ?_⟩
  rw [hks]
  exact run_fnk (us := []) F hr hb hx I2 .nil rz q2
end
/-- how the keywords of a def without defaults bind -/
theorem kbinds {K : PySem.W.Frag} {x qual : Str} {st : Stmt} {f : Addr} {fd : FuncData} {ps ks : List Str} {g : List Value → List Value → List Value} {gV : List V → List V → List V} (F : Fun K x qual st f fd)
    (h : ∀ (kV doc pm : Value) (an : Option Addr) (cdv ct : Value) (us ws : List Value), (g us ws).length = ps.length → bindArgs (PySem.W.fnOf x qual (defArgs st) (defBody st) (defScope st) .none kV doc pm an cdv ct) ⟨us, ks.zip ws⟩ = pure (ps.zip (g us ws)))
    (r : ∀ {vs : List V} {us : List Value} {zs : List V} {ws : List Value}, Vals vs us → Vals zs ws → Vals (gV vs zs) (g us ws)) : KBinds K fd ps ks g gV := by
  obtain ⟨oc, od, kV, doc, pm, an, cdv, ct, osl, rfl, lk, hcd⟩ := F.ex
  exact ⟨fun s us ws _ hl => .of_eq (h kV doc pm an cdv ct us ws hl), r⟩
theorem inB_nat (m : Nat) : inB (some 0) none (.int (m : Int)) = true := by
  show (decide ((0 : Int) ≤ (m : Int)) && true) = true
  rw [decide_eq_true (Int.natCast_nonneg m)]
  rfl
/-- isinstance asks by the table of classes -/
theorem kit_sub {K : PySem.W.Frag} {t : Value} {C : Addr} {b : Bool} (h1 : PySem.W.isClsIn K C = true) (h2 : PySem.W.typeIn K (.ref C) = some (.type "type")) (self : PySem.W.subIn K (.ref C) (.ref C) = some true) (h : PySem.W.subIn K t (.ref C) = some b) :
    PySem.W.kitOne K t (.ref C) = some b := by
  unfold PySem.W.kitOne
  by_cases e : (t == Value.ref C) = true
  · rw [if_pos e]
    have e2 : t = Value.ref C := beq_iff_eq.mp e
    subst e2
    rw [self] at h
    exact h
  · rw [if_neg e]
    have h1' : (PySem.W.clsIn K C).isSome = true := h1
    show (if ((PySem.W.clsIn K C).isSome && PySem.W.typeIn K (.ref C) == some (.type "type")) = true then PySem.W.subIn K t (.ref C) else none) = some b
    rw [h1', h2]
    exact h
end OB
/-! len(set(x)) of a list or a tuple of ints, doubles among them. -/
namespace OB
open PySem PySem.Spec PyProof.Rows L2
theorem sub_len {α : Type} [DecidableEq α] : ∀ {l1 l2 : List α}, l1.Nodup → (∀ x ∈ l1, x ∈ l2) → l1.length ≤ l2.length
  | [], l2, _, _ => Nat.zero_le _
  | a :: r, l2, h, s => by
    have h2 := List.nodup_cons.mp h
    have ha : a ∈ l2 := s a List.mem_cons_self
    have ih := sub_len (l1 := r) (l2 := l2.erase a) h2.2 fun x hx => by
      have ne : x ≠ a := fun z => h2.1 (z ▸ hx)
      exact (List.mem_erase_of_ne ne).mpr (s x (List.mem_cons_of_mem _ hx))
    rw [List.length_erase_of_mem ha] at ih
    have pos : 0 < l2.length := List.length_pos_of_mem ha
    rw [List.length_cons]
    omega
theorem nodup_of_sub {α : Type} [DecidableEq α] : ∀ {l1 l2 : List α}, l1.Nodup → (∀ x ∈ l1, x ∈ l2) → l2.length ≤ l1.length → l2.Nodup
  | [], l2, _, _, hl => by
    have e : l2 = [] := List.length_eq_zero_iff.mp (Nat.le_zero.mp hl)
    rw [e]
    exact List.nodup_nil
  | a :: r, l2, h, s, hl => by
    have h2 := List.nodup_cons.mp h
    have ha : a ∈ l2 := s a List.mem_cons_self
    have hs : ∀ x ∈ r, x ∈ l2.erase a := fun x hx => by
      have ne : x ≠ a := fun z => h2.1 (z ▸ hx)
      exact (List.mem_erase_of_ne ne).mpr (s x (List.mem_cons_of_mem _ hx))
    have le := List.length_erase_of_mem ha
    have pos : 0 < l2.length := List.length_pos_of_mem ha
    rw [List.length_cons] at hl
    have ih := nodup_of_sub (l1 := r) (l2 := l2.erase a) h2.2 hs (by omega)
    have na : a ∉ l2.erase a := fun z => by
      have q := sub_len (l1 := a :: r) (l2 := l2.erase a) h fun x hx => by
        rcases List.mem_cons.mp hx with e | e
        · rw [e]
          exact z
        · exact hs x e
      rw [List.length_cons] at q
      omega
    exact ((List.perm_cons_erase ha).nodup_iff).mpr (List.nodup_cons.mpr ⟨na, ih⟩)
theorem same_len {α : Type} [DecidableEq α] {l1 l2 : List α} (h : l1.Nodup) (s : ∀ x, x ∈ l1 ↔ x ∈ l2) : l1.length ≤ l2.length ∧ (l1.length = l2.length ↔ l2.Nodup) := by
  have a := sub_len h fun x hx => (s x).mp hx
  refine ⟨a, fun e => nodup_of_sub h (fun x hx => (s x).mp hx) (by omega), fun e => ?_⟩
  have b := sub_len e fun x hx => (s x).mpr hx
  omega
theorem fm_nodup (val : Nat → Int) : ∀ i, (PyProof.Rows.firstMet val i).Nodup
  | 0 => List.nodup_nil
  | i + 1 => by
    rw [PyProof.Rows.firstMet_succ]
    have ih := fm_nodup val i
    show (if (PyProof.Rows.firstMet val i).any (· == val i) then PyProof.Rows.firstMet val i else PyProof.Rows.firstMet val i ++ [val i]).Nodup
    split
    · exact ih
    · rename_i h
      refine List.nodup_append.mpr ⟨ih, List.nodup_cons.mpr ⟨List.not_mem_nil, List.nodup_nil⟩, fun x hx y hy e => h ?_⟩
      rw [List.mem_singleton] at hy
      subst hy
      exact List.any_eq_true.mpr ⟨x, hx, by rw [e]; exact beq_self_eq_true _⟩
theorem fm_mem (ns : List Int) (x : Int) : x ∈ PyProof.Rows.firstMet (fun i => ns.getD i 0) ns.length ↔ x ∈ ns := by
  have e := PyProof.Rows.firstMet_any (fun i => ns.getD i 0) ns.length x
  have e2 : (List.range ns.length).map (fun i => ns.getD i 0) = ns := by
    apply List.ext_getElem
    · simp
    · intro i h1 h2
      simp [List.getD_eq_getElem?_getD, h2]
  rw [e2] at e
  have m : ∀ l : List Int, (l.any (· == x)) = true ↔ x ∈ l := fun l => by
    rw [List.any_eq_true]
    exact ⟨fun ⟨y, hy, ey⟩ => (eq_of_beq ey) ▸ hy, fun h => ⟨x, h, beq_self_eq_true _⟩⟩
  rw [← m, ← m, e]
/-- how many unlike ints -/
def tLenSet (K : PySem.W.Frag) (ta : TE) : TE := fun σ H Q => ta σ H fun x H1 => ∃ (p : Addr) (ns : List Int), x = .ref p ∧ (SqL K H1 p (ns.map V.int) ∨ SqT K H1 p (ns.map V.int)) ∧ ns.length ≤ 1100 ∧
  ∀ c : Nat, c ≤ ns.length → (c = ns.length ↔ ns.Nodup) → Q (.int (c : Nat)) H1
theorem pe_lenSet2 {X : Cx} {a : Expr} {ta : TE} {p p2 q pos : Pos} (hg : Gl X "len") (hm : X.mg "len" = none) (hg2 : Gl X "set") (hm2 : X.mg "set" = none) (ha : PE X a ta) (hc : X.calm = true := by rfl)
    (na : starEach [a] X.env = (false, eval a X.env) :: starEach [] X.env := by rfl) : PE X (.Call (.Name "len" p) [.Call (.Name "set" p2) [a] [] q] [] pos) (tLenSet X.K ta) := by
  refine ⟨fun pins s σ H Q I h => ?_⟩
  refine Call_ (ld_blt I hg hm boot_len ?_)
  refine PyProof.Rows.callWith_builtin1 (PyProof.Rows.args_cons ?_ rfl) rfl rfl
  refine Call_ (ld_blt I hg2 hm2 boot_set ?_)
  refine PyProof.Rows.callWith_type1 (PyProof.Rows.args_cons (thn (ha.run pins s σ H _ I h) fun v s1 ⟨x, H1, I1, r1, q1⟩ => PyProof.Rows.args_nil ?_) na) na rfl
  obtain ⟨l, ns, rfl, hq, hl, q1⟩ := q1
  cases r1
  rcases hq with hq | hq
  · obtain ⟨its, r, pl, hz⟩ := I1.list hq
    have hlen : its.toArray.size = ns.length := by rw [List.size_toArray, ← r.length, List.length_map]
    refine PySem.call_set_list (I1.ok.hd hc) pl.isList (ns := ns) (by simpa using RZ.intsAre_vals r) (by rw [hlen]; unfold scanBound; omega) fun h' tk hS hk => ?_
    refine PyProof.Rows.args_nil ?_
    rw [hlen] at hS
    have sl := same_len (fm_nodup (fun i => ns.getD i 0) ns.length) (fm_mem ns)
    obtain ⟨o, es, ep, t, ho, hex, hd, _, _, _, hf, hn⟩ := hS
    have I2 : Inv X pins σ H1 { s1 with heap := h', toks := tk } := I1.kept fun b o e => hk b o (Heap.lt_size e) e
    have q2 := q1 es.size (by rw [hn]; exact sl.1) (by rw [hn]; exact sl.2)
    exact call_len_set ho hex hd hf (by have := sl.1; omega) ⟨.int es.size, H1, I2.tok _, ⟨_, rfl⟩, q2⟩
  · obtain ⟨its, r, pt, hz⟩ := I1.tuple hq
    have hi : IntsAre its.toArray.toList ns := ints_of_vals r
    refine call_set_tupI ns (I1.ok.hd hc) (show s1.heap.IsTuple l its.toArray from pt) hi (by unfold scanBound; omega) fun h' tk c R1 hcn k => ?_
    refine PyProof.Rows.args_nil ?_
    obtain ⟨o, es, ep, t, ho, hex, hd, hgood, hnd, hmem, _, hf, hn, _⟩ := R1
    have I2 : Inv X pins σ H1 { s1 with heap := h', toks := tk } := I1.kept fun b o e => k b o e
    have sl := same_len (l2 := ns) hnd fun x => (by
      have z := (hmem x).symm
      simpa using z)
    rw [List.length_map, Array.length_toList] at sl
    have q2 := q1 es.size sl.1 sl.2
    exact call_len_set ho hex hd hf (by have := sl.1; omega) ⟨.int es.size, H1, I2.tok _, ⟨_, rfl⟩, q2⟩
end OB
set_option maxHeartbeats 4000000
/-! sorted(x) of a list or a tuple of ints. -/
namespace OB
open PySem PySem.Spec PyProof.Rows L2 SrtO
section
variable {prog : Program} {w : World} {A : Around} {E : Value → Shared → Prop} {s : Shared}
theorem collect_tup {l : Addr} {vs : List Value} {Q : List Value → Shared → Prop} (ht : IsTup s.heap l vs.toArray)
    (h : Q vs { s with heap := (s.heap.push (seqObj "list" #[] 0)).update s.heap.objs.size (Obj.mapSeq (· ++ vs.toArray)) }) (hz : vs.length ≤ sizeLine) :
    wpAny (model prog w) A (collect (.ref l)) Q E s := by
  obtain ⟨o, ho, hc, n, hd⟩ := id ht
  unfold collect
  refine wpAny_bind (wpAny_runValue (codeAny_builtin entry_proto_collect' ?_))
  show wpAny _ _ (do again (.builtin "list.__iadd__" ⟨[← newList [], .ref l], []⟩)) _ _ s
  refine wpAny_bind (wpAny_newList (wpAny_pure ⟨Code.quiet_builtin _ (by decide +kernel), codeAny_builtin entry_list_iadd' ?_⟩))
  show wpAny _ _ (Builtin.List.listExtendWith (.ref s.heap.objs.size) (.ref l) (.ref s.heap.objs.size)) _ _ { s with heap := s.heap.push (seqObj "list" #[] 0) }
  unfold Builtin.List.listExtendWith
  have o1 : (s.heap.push (seqObj "list" #[] 0)).get? l = some o := Heap.get?_push_of_some _ ho
  refine wpAny_bind (wpAny_typeOf (T := "tuple") ⟨o, o1, hc⟩ ?_)
  rw [if_pos (show (Builtin.List.listSameRef (Value.ref s.heap.objs.size) (Value.ref l) || Value.type "tuple" == Value.type "list" || Value.type "tuple" == Value.type "tuple") = true by
    rw [show (Value.type "tuple" == Value.type "tuple") = true from rfl, Bool.or_true])]
  refine wpAny_bind (listItems_at o1 hd (wpAny_bind (listItems_at (xs := #[]) (n := 0) (Heap.get?_push_size _ rfl) rfl ?_)))
  have room : ((#[] : Array Value) ++ vs.toArray).size ≤ sizeLine + 1 := by
    rw [Array.size_append, List.size_toArray, List.size_toArray, List.length_nil]
    omega
  rw [if_neg (show ¬ (!(#[] : Array Value).isEmpty && Builtin.List.listTooLong ((#[] : Array Value).size + vs.toArray.size)) = true from fun z => by
    have z : (false && _) = true := z
    rw [Bool.false_and] at z
    cases z)]
  refine wpAny_bind (listUpdate_at (xs := #[]) (n := 0) (Heap.get?_push_size _ rfl) rfl (wpAny_pure ?_) (Nat.zero_le _) room)
  refine wpAny_bind (wpAny_load (get?_update_seq (Heap.get?_push_size _ rfl) _) (wpAny_pure ?_))
  have e : ((#[] : Array Value) ++ vs.toArray).toList = vs := by simp
  rw [e]
  exact h
theorem sorted_tup {l : Addr} {vs : List Value} {ltv : Value → Value → Bool} {Q : Value → Shared → Prop} (O : Swo ltv) (ht : IsTup s.heap l vs.toArray) (hz : vs.length ≤ sizeLine)
    (hS : 2 ≤ vs.length → ∀ (h₁ : Heap) (a : Addr), h₁.get? a = some (seqObj "list" vs.toArray 0) → (∀ b o, s.heap.get? b = some o → b ≠ a ∧ h₁.get? b = some o) → SortableO prog w A.in1.in1 { s with heap := h₁ } a vs ltv)
    (h : ∀ out : List Value, Srtd ltv out → Stb ltv out vs → Q (.ref (s.heap.objs.size + 1)) { s with heap := sortedAll s.heap vs out.toArray }) :
    wpAny (model prog w) A (call (.builtin "sorted") [.ref l]) Q E s := by
  generalize hg : (s.heap.push (seqObj "list" #[] 0)).update s.heap.objs.size (Obj.mapSeq (· ++ vs.toArray)) = g
  have size : g.objs.size = s.heap.objs.size + 1 := by
    rw [← hg, Heap.size_update, Heap.size_push]
  have old : ∀ b o, s.heap.get? b = some o → g.get? b = some o := fun b o q => by
    rw [← hg, Heap.get?_update_ne _ _ _ _ (Nat.ne_of_lt (Heap.lt_size q))]
    exact Heap.get?_push_of_some _ q
  have new : (g.push (seqObj "list" vs.toArray 0)).get? (s.heap.objs.size + 1) = some (seqObj "list" vs.toArray 0) := by
    rw [← size]
    exact Heap.get?_push_size _ rfl
  refine Calls.call_function_entry kind_sorted plain_sorted entry_sorted (args_sorted1 _) ?_
  unfold Builtin.«sorted»
  refine wpAny_bind (m := checkCount "sorted" 1 1 _) (wpAny_pure (wpAny_bind (collect_tup ht ?_ hz)))
  rw [hg]
  refine wpAny_bind (wpAny_newList ?_ hz)
  show wpAny _ _ _ _ _ { s with heap := g.push (seqObj "list" vs.toArray 0) }
  rw [size]
  refine wpAny_bind (wpAny_holding (wpAny_call_entry slot_list_sort ⟨_, new, rfl⟩ entry_list_sort (list_sort_ord O new hz (fun h2 => hS h2 _ _ new fun b o q => ?_) fun out hs hb => ⟨_, rfl, wpAny_pure ⟨_, rfl, ?_⟩⟩) (args_list_sort _)))
  · exact ⟨Nat.ne_of_lt (Nat.lt_succ_of_lt (Heap.lt_size q)), Heap.get?_push_of_some _ (old b o q)⟩
  · rw [← hg]
    exact h out hs hb
end
section
variable {X : Cx}
def rSortedA (K : PySem.W.Frag) : List V → Hp → VK → Prop := fun vs H Q => ∃ (a : Addr) (ns : List Int), vs = [V.ref a] ∧ (SqL K H a (ns.map V.int) ∨ SqT K H a (ns.map V.int)) ∧
  ∀ (ns' : List Int) (p : Addr), ns'.Perm ns → ns'.Pairwise (· ≤ ·) → H p = none → Q (.ref p) (upd H p (.lst (ns'.map V.int)))
theorem cr_sortedA : CallR X (.builtin "sorted") (rSortedA X.K) := by
  intro pins s σ H vs us Q I r h
  obtain ⟨a, ns, rfl, hs, q⟩ := h
  rcases hs with hs | ht
  · exact cr_sortedI pins s σ H _ us Q I r ⟨a, ns, rfl, hs, q⟩
  · obtain ⟨its, rv, hl, hz⟩ := I.tuple ht
    rw [Vals.ref1 r]
    have hi := rv.ints
    refine sorted_tup swo_int hl (by rw [← rv.length]; exact hz) (fun h2 h₁ a' _ _ => ints_sortable hi h2) fun out h1 h2 => ?_
    obtain ⟨k1, k2, k3⟩ := ints_out hi h1 h2
    obtain ⟨ep, at'⟩ := PyProof.Rows.sortedAll_at s.heap its out.toArray
    have hlen : ((out.map iv).map V.int).length ≤ sizeLine := by
      rw [List.length_map] at hz ⊢
      rw [k2.length_eq]
      exact hz
    exact ⟨.ref _, upd H (s.heap.objs.size + 1) (.lst ((out.map iv).map V.int)), I.laid (t' := s.toks) (fun _ _ => PyProof.Rows.sortedAll_old) (Nat.le_succ _) ⟨hlen, out, ep, vals_of_ints k1, at'⟩, rfl, q _ _ k2 k3 (I.hok.fresh (Nat.le_succ _))⟩
end
end OB
/-! A list or a tuple: gone through, asked for its kind. -/
namespace OB
open PySem PySem.Spec PyProof.Rows L2
theorem sqL_same {K : PySem.W.Frag} {H H' : Hp} {a : Addr} {xs : List V} (h : SqL K H a xs) (s : Same H H') : SqL K H' a xs := by
  rcases h with (h | ⟨o, h⟩) | h
  · exact .inl (.inl (s _ _ h))
  · exact .inl (.inr ⟨o, s _ _ h⟩)
  · exact .inr h
theorem sqT_same {K : PySem.W.Frag} {H H' : Hp} {a : Addr} {xs : List V} (h : SqT K H a xs) (s : Same H H') : SqT K H' a xs := by
  rcases h with (h | ⟨o, h⟩) | h
  · exact .inl (.inl (s _ _ h))
  · exact .inl (.inr ⟨o, s _ _ h⟩)
  · exact .inr h
def iSeqA (K : PySem.W.Frag) (te : TE) : TI := fun σ H R => te σ H fun x H1 => ∃ a, x = .ref a ∧ (((∃ xs, SqL K H1 a xs) ∧ R (Itl K a) H1) ∨ ((∃ xs, SqT K H1 a xs) ∧ R (Itt K a) H1))
theorem pi_seqA {X : Cx} {tg e : Expr} {te : TE} (he : PE X e te) : PI X tg e (iSeqA X.K te) := by
  refine ⟨fun pins s σ H R I h => thn (he.run pins s σ H _ I h) fun v s1 ⟨x, H1, I1, r1, a, ex, q⟩ => ?_⟩
  subst ex
  cases r1
  rcases q with ⟨⟨xs, hq⟩, q⟩ | ⟨⟨xs, hq⟩, q⟩
  · obtain ⟨its, rv, p, hz⟩ := I1.list hq
    exact wpAny_pyIter_list p.isList (pi_one (tk := s1.toks) I1 _ (turn_list a _) ⟨_, Heap.get?_push_size _ rfl, rfl, rfl⟩ q)
  · obtain ⟨its, rv, p, hz⟩ := I1.tuple hq
    exact wpAny_pyIter_tuple (show s1.heap.IsTuple a its.toArray from p) (pi_one (tk := s1.toks) I1 _ (turn_tuple a _) ⟨_, Heap.get?_push_size _ rfl, rfl, rfl⟩ q)
/-- a row over it, a list or a tuple: Pv by the new list, the turn and the heap -/
theorem lc_seqA {K : PySem.W.Frag} {a : Addr} {xs : List V} {g : TG} {tt : TT} {te : TE} {vs : List Nat} {σ : L2.St} {H1 : Hp} {Qd : Addr → Hp → Prop} (h : SqL K H1 a xs ∨ SqT K H1 a xs) (Pv : Addr → Nat → Hp → Prop)
    (h0 : ∀ D, H1 D = none → Pv D 0 (upd H1 D (.lst []))) (keep : ∀ D i H, H1 D = none → i ≤ xs.length → Pv D i H → Same H1 H)
    (hs : ∀ D i x H, H1 D = none → xs[i]? = some x → Pv D i H → g x (wipe σ vs) H fun σ2 H2 => wipe σ2 vs = wipe σ vs ∧ tt σ2 H2 fun b H3 =>
      if b = true then te σ2 H3 fun y H4 => ∃ acc, H4 D = some (.lst acc) ∧ acc.length < sizeLine ∧ Pv D (i + 1) (upd H4 D (.lst (acc ++ [y]))) else Pv D (i + 1) H3) (hd : ∀ D H, H1 D = none → Pv D xs.length H → Qd D H) :
    ((∃ ys, SqL K H1 a ys) ∧ ∀ D, H1 D = none → ∃ W : Nat → Nat → Hp → Prop, (∃ m, W 0 m (upd H1 D (.lst []))) ∧ ∀ i m H, W i m H →
      ((Itl K a).stop i H ∧ Qd D H) ∨ ((Itl K a).go i H ∧ ∃ Nx : Hp → Prop, (∀ H', Nx H' → ∃ m', m' < m ∧ W (i + 1) m' H') ∧ ∀ x H', (Itl K a).yld i H x H' → g x (wipe σ vs) H' fun σ2 H2 => wipe σ2 vs = wipe σ vs ∧ tt σ2 H2 fun b H3 =>
        if b = true then te σ2 H3 fun y H4 => ∃ acc, H4 D = some (.lst acc) ∧ acc.length < sizeLine ∧ Nx (upd H4 D (.lst (acc ++ [y]))) else Nx H3)) ∨
    ((∃ ys, SqT K H1 a ys) ∧ ∀ D, H1 D = none → ∃ W : Nat → Nat → Hp → Prop, (∃ m, W 0 m (upd H1 D (.lst []))) ∧ ∀ i m H, W i m H →
      ((Itt K a).stop i H ∧ Qd D H) ∨ ((Itt K a).go i H ∧ ∃ Nx : Hp → Prop, (∀ H', Nx H' → ∃ m', m' < m ∧ W (i + 1) m' H') ∧ ∀ x H', (Itt K a).yld i H x H' → g x (wipe σ vs) H' fun σ2 H2 => wipe σ2 vs = wipe σ vs ∧ tt σ2 H2 fun b H3 =>
        if b = true then te σ2 H3 fun y H4 => ∃ acc, H4 D = some (.lst acc) ∧ acc.length < sizeLine ∧ Nx (upd H4 D (.lst (acc ++ [y]))) else Nx H3)) := by
  rcases h with h | h
  · exact .inl ⟨⟨xs, h⟩, fun D hD => lc_list (Pv D) (h0 D hD) (fun i H hi p => sqL_same h (keep D i H hD hi p)) (fun i x H hx p => hs D i x H hD hx p) fun H p => hd D H hD p⟩
  · exact .inr ⟨⟨xs, h⟩, fun D hD => lc_tup (Pv D) (h0 D hD) (fun i H hi p => sqT_same h (keep D i H hD hi p)) (fun i x H hx p => hs D i x H hD hx p) fun H p => hd D H hD p⟩
/-- whether a value is a list or a tuple -/
def IsL (K : PySem.W.Frag) (H : Hp) (x : V) (b : Bool) : Prop := ∃ (n : String) (b1 b2 : Bool), TyX K H x (.type n) ∧ kitB n "list" = some b1 ∧ kitB n "tuple" = some b2 ∧ b = (b1 || b2)
theorem isL_any {K : PySem.W.Frag} {H : Hp} {x : V} {b : Bool} (h : IsL K H x b) : ∃ t, TyX K H x t ∧ PySem.W.kitAny K t [.type "list", .type "tuple"] = some b := by
  obtain ⟨n, b1, b2, ty, e1, e2, rfl⟩ := h
  refine ⟨_, ty, kitAny_cons (kit_ty e1) (fun z => kitAny_cons (kit_ty e2) (fun z2 => ?_) fun z2 => ?_) fun z => ?_⟩
  · rw [z, z2]
    exact kitAny_nil
  · rw [z, z2]
    rfl
  · rw [z]
    rfl
section
variable {K : PySem.W.Frag} {H : Hp}
theorem isL_int (i : Int) : IsL K H (.int i) false := ⟨"int", false, false, .base (.int i), by decide +kernel, by decide +kernel, rfl⟩
theorem isL_non : IsL K H .non false := ⟨"NoneType", false, false, .base .non, by decide +kernel, by decide +kernel, rfl⟩
theorem isL_bl (b : Bool) : IsL K H (.bl b) false := ⟨"bool", false, false, .base (.bl b), by decide +kernel, by decide +kernel, rfl⟩
theorem isL_str (x : Str) : IsL K H (.str x) false := ⟨"str", false, false, .base (.str x), by decide +kernel, by decide +kernel, rfl⟩
theorem isL_dK {a : Addr} {kvs : List (Key × V)} (e : H a = some (.dK kvs)) : IsL K H (.ref a) false := ⟨"dict", false, false, .base (.dK e), by decide +kernel, by decide +kernel, rfl⟩
theorem isL_lst {a : Addr} {xs : List V} (e : H a = some (.lst xs)) : IsL K H (.ref a) true := ⟨"list", true, false, .base (.lst e), by decide +kernel, by decide +kernel, rfl⟩
theorem isL_tup {a : Addr} {xs : List V} (e : H a = some (.tup xs)) : IsL K H (.ref a) true := ⟨"tuple", false, true, .base (.tup e), by decide +kernel, by decide +kernel, rfl⟩
end
end OB
/-! Promises of defs where it is known that no repr is under way: there repr of a list or a tuple is its text. -/
namespace OB
open PySem PySem.Spec PyProof.Rows L2 LamX
/-- what FnOk promises, asked only where no repr is under way -/
structure FnG (P : Program) (w : World) (K : PySem.W.Frag) (mg : Str → Option Value) (base : Heap) (CX : CXT) (k : Nat) (f : Addr) (fd : FuncData) (ps : List Str) (sp : Sp) : Prop where
  len : ∀ vs H Q E, sp vs H Q E → vs.length = ps.length
  run : ∀ (A : Around) (outer : List Env) (s : Shared) (H : Hp) (args : Args) (us : List Value) (vs : List V) (Q : VK) (E : XK), A.guards = some [] → Room k A → Env0 P w K mg base A outer s H → BindsTo s fd args (ps.zip us) → Vals vs us → sp vs H Q E →
    codeAny (model P w) A (.call (.ref f) args) (CR CX outer P w H s Q E) s
section
variable {P : Program} {w : World} {K : PySem.W.Frag} {mg : Str → Option Value} {base : Heap} {CX : CXT} {k : Nat} {f : Addr} {fd : FuncData} {ps : List Str} {sp : Sp}
theorem FnG.of (F : FnOk P w K mg base CX k f fd ps sp) : FnG P w K mg base CX k f fd ps sp := ⟨F.len, fun A outer s H args us vs Q E _ => F.run A outer s H args us vs Q E⟩
theorem fnG_of {name qual : Str} {params : Arguments} {body : List Stmt} {scope : Scope} {dV kV doc pm cdv ct oc : Value} {an od : Option Addr} {osl : Array (Option Value)} {N : List Str}
    (lk : K.lookup f = some ⟨oc, od, .func (PySem.W.fnOf name qual params body scope dV kV doc pm an cdv ct), osl⟩) (hcd : PySem.W.codeIn K cdv qual = true) (S : FnScope N ps scope) (len : ∀ vs H Q E, sp vs H Q E → vs.length = ps.length)
    (hbody : ∀ (A : Around) (outer : List Env) (s : Shared) (H : Hp) (vs : List V) (Q : VK) (E : XK), A.guards = some [] → Room k (A.deeper (envOfC qual scope s.heap.objs.size f cdv)) → sp vs H Q E →
      ∃ t, PSs (cxOf CX P w K mg base N qual scope f cdv A outer s H E) body t ∧ t { nx := fun _ H' => Q .non H', rt := Q } (L2.start N vs) H) :
    FnG P w K mg base CX (k + 1) f (PySem.W.fnOf name qual params body scope dV kV doc pm an cdv ct) ps sp :=
  ⟨len, fun A outer s H args us vs Q E hgd hr e0 hb r hsp => run_ofS lk hcd S hr e0 hb r (len _ _ _ _ hsp) fun hr' => hbody A outer s H vs Q E hgd hr' hsp⟩
theorem okG {x qual : Str} {st : Stmt} {N : List Str} (F : Fun K x qual st f fd) (S : FnScope N ps (defScope st)) (len : ∀ vs H Q E, sp vs H Q E → vs.length = ps.length)
    (hbody : ∀ (cdv : Value) (A : Around) (outer : List Env) (s : Shared) (H : Hp) (vs : List V) (Q : VK) (E : XK), A.guards = some [] → Room k (A.deeper (envOfC qual (defScope st) s.heap.objs.size f cdv)) → sp vs H Q E →
      ∃ t, PSs (cxOf CX0 P w K mg base N qual (defScope st) f cdv A outer s H E).nox (defBody st) t ∧ t { nx := fun _ H' => Q .non H', rt := Q } (L2.start N vs) H) : FnG P w K mg base CX0 (k + 1) f fd ps sp := by
  obtain ⟨oc, od, kV, doc, pm, an, cdv, ct, osl, rfl, lk, hcd⟩ := F.ex
  refine fnG_of lk hcd S len fun A outer s H vs Q E hgd hr hsp => ?_
  obtain ⟨t, h, q⟩ := hbody cdv A outer s H vs Q E hgd hr hsp
  exact ⟨t, h.nox, q⟩
end
section
variable {X : Cx} {CX : CXT} {k : Nat} {f : Addr} {fd : FuncData} {ps : List Str} {sp : Sp} {E : XK} {x : Str} {p pos : Pos} {e : Expr} {es : List Expr} {t : TA} {ds : List Value} {dvs : List V}
theorem run_fnG {pins : List (Addr × Obj)} {σ : L2.St} {H : Hp} {s : Shared} {Q : VK} {us : List Value} {vs : List V} (F : FnG X.prog X.w X.K X.mg X.base CX k f fd ps sp) (hgd : X.A.guards = some []) (hr : Room k X.A) (hb : L2.Binds X.K fd ps ds) (hd : Vals dvs ds) (hx : Passes CX X E)
    (I : Inv X pins σ H s) (r : Vals vs us) (h : sp (vs ++ dvs) H Q E) : wpAny (model X.prog X.w) X.A (call (.ref f) us) (EP X pins σ Q) X.xe s := by
  have r2 : Vals (vs ++ dvs) (us ++ ds) := r.append hd
  have hl : (us ++ ds).length = ps.length := r2.length ▸ F.len _ _ _ _ h
  refine wpAny_call (codeAny_mono (F.run X.A X.stack s H ⟨us, []⟩ (us ++ ds) (vs ++ dvs) Q E hgd hr I.env0 (hb s us I.kIn hl) r2 h) fun res s' hq => ?_)
  match res, hq with
  | .error _, hq => exact hx pins σ H s _ s' I hq
  | .ok (.ret _), hq => exact I.after hq
/-- f(e, ..), f promised where no repr is under way -/
theorem pe_callG (F : FnG X.prog X.w X.K X.mg X.base CX k f fd ps sp) (hgd : X.A.guards = some []) (hr : Room k X.A) (hg : Gl X x) (hm : X.mg x = some (.ref f)) (hk : PySem.W.keepIn X.K (.ref f) = true) (hb : L2.Binds X.K fd ps ds) (hd : Vals dvs ds) (hx : Passes CX X E)
    (ha : PA X (e :: es) t) (hdb : (x == ("__debug__" : Str)) = false := by decide) (he : starEach (e :: es) X.env = (false, eval e X.env) :: starEach es X.env := by rfl) (hpl : (backTo pos (starEach es X.env)).any (·.1) = false := by rfl) :
    PE X (.Call (.Name x p) (e :: es) [] pos) (tCall sp dvs E t) :=
  ⟨fun pins s σ H Q I h => wpAny_Call_Name_kw (ld_glob I hg hm (PySem.W.callWith_K (h₀ := X.base) I.ok.mod.kin hk (thn (ha.run pos pins s σ H _ I h) fun us s1 ⟨vs, H1, I1, r, q⟩ => ⟨I1.kIn, run_fnG F hgd hr hb hd hx I1 r q⟩) he hpl) hdb)⟩
/-- repr(x), x data of lists and tuples -/
def rReprD (K : PySem.W.Frag) : List V → Hp → VK → Prop := fun xs H Q => ∃ (a : Addr) (d : PyData), xs = [.ref a] ∧ Dp K H (.ref a) d ∧ d.showable = true ∧ d.canLay0 = true ∧ d.depth ≤ 60 ∧ d.shown.length ≤ sizeLine ∧ Q (.str d.shown) H
theorem call_reprD (hgd : X.A.guards = some []) (hu : X.A.units + 64 < cLine) : CallR X (.builtin "repr") (rReprD X.K) := by
  intro pins s σ H xs us Q I r h
  obtain ⟨a, d, rfl, hd, hs, hl, hdp, hz, q⟩ := h
  cases r with
  | cons r rr =>
    cases rr
    obtain ⟨as, rd⟩ := Dp.reads I d _ _ hd r
    cases r
    refine repr_of_reads' rd hs (PyData.noDict_hsm (PyData.hasDict_of_canLay d hl)) hgd (by omega) (fun _ _ e => e) (fun h' u tk hk => ?_) hz
    exact ⟨.str d.shown, H, I.kept hk, ⟨_, rfl⟩, q⟩
end
end OB
/-! repr of a list or a tuple of ints. -/
namespace OB
open PySem PySem.Spec PyProof.Rows L2
theorem shown_ints : ∀ ns : List Int, PyData.shownAll (ns.map PyData.int) = ns.map fun n => Str.ofString (toString n)
  | [] => by simp [PyData.shownAll]
  | n :: r => by simp [PyData.shownAll, PyData.shown, shown_ints r]
theorem show_ints : ∀ ns : List Int, (∀ n ∈ ns, n.natAbs.log2 < 1920) → PyData.showableAll (ns.map PyData.int) = true
  | [], _ => by simp [PyData.showableAll]
  | n :: r, h => by
    have h1 := h n List.mem_cons_self
    have h2 := show_ints r fun x hx => h x (List.mem_cons_of_mem _ hx)
    simp [PyData.showableAll, PyData.showable, h2, h1]
theorem piled_ints : ∀ ns : List Int, (∀ n ∈ ns, n.natAbs.log2 < 1920) → piled (ns.map fun n => Str.ofString (toString n)) ≤ 1923 * ns.length
  | [], _ => Nat.zero_le _
  | n :: r, h => by
    have h1 := int_text_len_1921 (h n List.mem_cons_self)
    have h2 := piled_ints r fun x hx => h x (List.mem_cons_of_mem _ hx)
    rw [List.map_cons, piled_cons, List.length_cons]
    omega
theorem list_len (ts : List Str) : (listText ts).length ≤ piled ts + 2 := by
  have one : (("[" : String) : Str).length = 1 := rfl
  have two : (("]" : String) : Str).length = 1 := rfl
  unfold listText
  rw [strLen_append, two]
  cases ts with
  | nil =>
    show (("[" : String) : Str).length + 1 ≤ _
    rw [one]
    exact Nat.le_add_left _ _
  | cons t r =>
    show (textFrom 1 ((("[" : String) : Str) ++ t) r).length + 1 ≤ _
    rw [textFrom_length_pos r 1 _ (by decide), strLen_append, one, piled_cons]
    omega
theorem depth_ints (ns : List Int) : PyData.depthAll (ns.map PyData.int) ≤ 1 := deep_ints ns
/-- the text of a list, of a tuple of ints -/
def tl (ns : List Int) : Str := PyData.shown (.list (ns.map PyData.int))
def tt (ns : List Int) : Str := PyData.shown (.tuple (ns.map PyData.int))
theorem tl_len {ns : List Int} (h : ∀ n ∈ ns, n.natAbs.log2 < 1920) (hl : ns.length ≤ 1000) : (tl ns).length ≤ sizeLine := by
  have a := piled_ints ns h
  have b := list_len (ns.map fun n => Str.ofString (toString n))
  show (listText (PyData.shownAll (ns.map PyData.int))).length ≤ sizeLine
  rw [shown_ints, sizeLine_eq]
  omega
theorem tt_len {ns : List Int} (h : ∀ n ∈ ns, n.natAbs.log2 < 1920) (hl : ns.length ≤ 1000) : (tt ns).length ≤ sizeLine := by
  have a := piled_ints ns h
  have b := fmt_text (ns.map fun n => Str.ofString (toString n))
  show (tupleText (PyData.shownAll (ns.map PyData.int))).length ≤ sizeLine
  rw [shown_ints, sizeLine_eq]
  omega
section
variable {X : Cx}
def rReprI (K : PySem.W.Frag) : List V → Hp → VK → Prop := fun xs H Q => ∃ (a : Addr) (ns : List Int), xs = [.ref a] ∧ (∀ n ∈ ns, n.natAbs.log2 < 1920) ∧ ns.length ≤ 1000 ∧ ((SqL K H a (ns.map V.int) ∧ Q (.str (tl ns)) H) ∨ (SqT K H a (ns.map V.int) ∧ Q (.str (tt ns)) H))
theorem call_reprI (hgd : X.A.guards = some []) (hu : X.A.units + 64 < cLine) : CallR X (.builtin "repr") (rReprI X.K) := by
  intro pins s σ H xs us Q I r h
  obtain ⟨a, ns, rfl, hs, hl, q⟩ := h
  have sh := show_ints ns hs
  have d := depth_ints ns
  rcases q with ⟨hq, q⟩ | ⟨hq, q⟩
  · refine call_reprD hgd hu pins s σ H _ us Q I r ⟨a, .list (ns.map PyData.int), rfl, Dp.lst hq (dp_ints ns), by simp [PyData.showable, sh], by simp [PyData.canLay0, lay_ints], ?_, tl_len hs hl, q⟩
    show PyData.depthAll (ns.map PyData.int) + 1 ≤ 60
    omega
  · refine call_reprD hgd hu pins s σ H _ us Q I r ⟨a, .tuple (ns.map PyData.int), rfl, Dp.tup hq (dp_ints ns), by simp [PyData.showable, sh], by simp [PyData.canLay0, lay_ints], ?_, tt_len hs hl, q⟩
    show PyData.depthAll (ns.map PyData.int) + 1 ≤ 60
    omega
end
end OB
/-! What a reader of errors told, call by call, in a list that grows; things that stay meanwhile. -/
namespace OB
open PySem PySem.Spec PyProof.Rows L2 LamX
/-- a list that begins with a reference, or a table: what may change -/
def refL : HO → Bool
  | .lst (.ref _ :: _) => true
  | .tbl _ => true
  | _ => false
def Keep (H H' : Hp) : Prop := ∀ q o, H q = some o → refL o = false → H' q = some o
section
variable {H H' H1 H2 : Hp}
theorem Keep.refl : Keep H H := fun _ _ h _ => h
theorem Keep.trans (a : Keep H H1) (b : Keep H1 H2) : Keep H H2 := fun q o h n => b q o (a q o h n) n
theorem Keep.ext (e : ExtN H H') : Keep H H' := fun q o h n => e q o h fun ps z => by
  subst z
  cases n
theorem Keep.same (s : Same H H') : Keep H H' := fun q o h _ => s q o h
theorem Keep.but {p : Addr} (b : But p H H') (hp : ∃ x r, H p = some (.lst (.ref x :: r))) : Keep H H' := fun q o h n => b q o h fun z => by
  obtain ⟨x, r, hp⟩ := hp
  rw [z, hp] at h
  cases h
  cases n
theorem orch_ref {p b : Addr} {n : Nat} (o : Orch H p b n) : ∃ x r, H p = some (.lst (.ref x :: r)) := by
  obtain ⟨ns, t, l, h1, _⟩ := o
  exact ⟨_, _, h1⟩
theorem orch_extN {p b : Addr} {n : Nat} (o : Orch H p b n) (e : ExtN H H') : Orch H' p b n := by
  obtain ⟨ns, t, l, h1, h2, h3⟩ := o
  exact ⟨ns, t, l, e _ _ h1 (fun _ z => nomatch z), e _ _ h2 (fun _ z => nomatch z), h3⟩
theorem tabs_butN {T : List (Addr × Str)} {p : Addr} {xs : List V} (t : Tabs T H) (b : But p H H') (hp : H p = some (.lst xs)) : Tabs T H' := fun x hx => by
  obtain ⟨ps, h1, h2, h3⟩ := t x hx
  have n1 : x.1 ≠ p := fun z => by
    rw [z, hp] at h1
    cases h1
  refine ⟨ps, b _ _ h1 n1, h2, fun pos cv hc => ?_⟩
  obtain ⟨c, e1, e2⟩ := h3 pos cv hc
  have n2 : c ≠ p := fun z => by
    rw [z, hp] at e2
    have e2 := Option.some.inj e2
    cases e2
  exact ⟨c, e1, b _ _ e2 n2⟩
theorem tabs_orchN {T : List (Addr × Str)} {p b : Addr} {n : Nat} (t : Tabs T H) (B : But p H H') (o : Orch H p b n) : Tabs T H' := by
  obtain ⟨ns, x, y, hp, _⟩ := o
  exact tabs_butN t B hp
/-- things that stay -/
def Fix (A : List (Addr × HO)) (H : Hp) : Prop := ∀ a ∈ A, H a.1 = some a.2 ∧ refL a.2 = false
theorem Fix.nil : Fix [] H := fun a h => absurd h List.not_mem_nil
theorem Fix.cons {A : List (Addr × HO)} {a : Addr} {o : HO} (h : H a = some o) (n : refL o = false) (f : Fix A H) : Fix ((a, o) :: A) H := fun x hx => by
  rcases List.mem_cons.mp hx with e | e
  · rw [e]
    exact ⟨h, n⟩
  · exact f x e
theorem Fix.keep {A : List (Addr × HO)} (f : Fix A H) (k : Keep H H') : Fix A H' := fun a ha => ⟨k _ _ (f a ha).1 (f a ha).2, (f a ha).2⟩
theorem Fix.get {A : List (Addr × HO)} (f : Fix A H) {a : Addr} {o : HO} (h : (a, o) ∈ A) : H a = some o := (f _ h).1
theorem Fix.app {A B : List (Addr × HO)} (f : Fix A H) (g : Fix B H) : Fix (A ++ B) H := fun a ha => by
  rcases List.mem_append.mp ha with e | e
  · exact f a e
  · exact g a e
/-- what the reader told: a kind and a part, or None -/
def Ent (H : Hp) (v : V) : Option (Str × Str) → Prop
  | none => v = .non
  | some k => ∃ t, v = .ref t ∧ H t = some (.tup [.str k.1, .str k.2])
def Res (H : Hp) : List V → List (Option (Str × Str)) → Prop
  | [], [] => True
  | v :: r, k :: ks => Ent H v k ∧ Res H r ks
  | _, _ => False
theorem Ent.keep {v : V} {k : Option (Str × Str)} (e : Ent H v k) (q : Keep H H') : Ent H' v k := by
  cases k with
  | none => exact e
  | some k =>
    obtain ⟨t, rfl, h⟩ := e
    exact ⟨t, rfl, q _ _ h rfl⟩
theorem Res.keep (q : Keep H H') : ∀ {vs : List V} {ks : List (Option (Str × Str))}, Res H vs ks → Res H' vs ks
  | [], [], _ => trivial
  | _ :: _, _ :: _, ⟨a, b⟩ => ⟨a.keep q, Res.keep q b⟩
theorem Res.snoc {v : V} {k : Option (Str × Str)} (e : Ent H v k) : ∀ {vs : List V} {ks : List (Option (Str × Str))}, Res H vs ks → Res H (vs ++ [v]) (ks ++ [k])
  | [], [], _ => ⟨e, trivial⟩
  | _ :: _, _ :: _, ⟨a, b⟩ => ⟨a, Res.snoc e b⟩
theorem Res.length : ∀ {vs : List V} {ks : List (Option (Str × Str))}, Res H vs ks → vs.length = ks.length
  | [], [], _ => rfl
  | _ :: _, _ :: _, ⟨_, b⟩ => congrArg (· + 1) (Res.length b)
def entD : Option (Str × Str) → PyData
  | none => .none
  | some k => .tuple [.str k.1, .str k.2]
theorem Ent.dp {K : PySem.W.Frag} {v : V} {k : Option (Str × Str)} (e : Ent H v k) : Dp K H v (entD k) := by
  cases k with
  | none =>
    have e : v = .non := e
    rw [e]
    exact .non
  | some k =>
    obtain ⟨t, rfl, h⟩ := e
    exact Dp.tup (SqT.of h) (.cons (.str _) (.cons (.str _) .nil))
theorem Res.dp {K : PySem.W.Frag} : ∀ {vs : List V} {ks : List (Option (Str × Str))}, Res H vs ks → DpAll K H vs (ks.map entD)
  | [], [], _ => .nil
  | _ :: _, _ :: _, ⟨a, b⟩ => .cons a.dp (Res.dp b)
/-- between two calls of the reader -/
structure St (T : List (Addr × Str)) (p b h : Addr) (A : List (Addr × HO)) (n : Nat) (H : Hp) (vs : List V) (ks : List (Option (Str × Str))) : Prop where
  tabs : Tabs T H
  orch : Orch H p b n
  at' : H h = some (.lst vs)
  hp : h ≠ p
  hb : h ≠ b
  fix : Fix A H
  res : Res H vs ks
  first : ∃ x r, vs = .ref x :: r
variable {T : List (Addr × Str)} {p b h : Addr} {A : List (Addr × HO)} {n m : Nat} {vs : List V} {ks : List (Option (Str × Str))}
theorem St.ext (s : St T p b h A n H vs ks) (e : ExtN H H') (t : Tabs T H') : St T p b h A n H' vs ks :=
  ⟨t, orch_extN s.orch e, e _ _ s.at' (fun _ z => nomatch z), s.hp, s.hb, s.fix.keep (.ext e), s.res.keep (.ext e), s.first⟩
theorem St.but (s : St T p b h A n H vs ks) (B : But p H H') (O : Orch H' p b m) : St T p b h A m H' vs ks :=
  ⟨tabs_orchN s.tabs B s.orch, O, B _ _ s.at' s.hp, s.hp, s.hb, s.fix.keep (.but B (orch_ref s.orch)), s.res.keep (.but B (orch_ref s.orch)), s.first⟩
theorem St.add {v : V} {k : Option (Str × Str)} (s : St T p b h A n H vs ks) (e : Ent H v k) : St T p b h A n (upd H h (.lst (vs ++ [v]))) (vs ++ [v]) (ks ++ [k]) := by
  obtain ⟨x, r, ev⟩ := s.first
  have B : But h H (upd H h (.lst (vs ++ [v]))) := but_at
  have kp : Keep H (upd H h (.lst (vs ++ [v]))) := .but B ⟨x, r, by rw [s.at', ev]⟩
  refine ⟨tabs_butN s.tabs B s.at', s.orch.keep (fun u hu => B _ _ hu (fun z => s.hp z.symm)) (fun u hu => B _ _ hu (fun z => s.hb z.symm)), upd_same, s.hp, s.hb, s.fix.keep kp, (s.res.keep kp).snoc (e.keep kp), x, r ++ [v], by rw [ev]; rfl⟩
theorem St.begin {t h : Addr} {k : Str × Str} (hT : Tabs T H) (O : Orch H p b n) (F : Fix A H) (e : Ent H (.ref t) (some k)) (hh : H h = none) : St T p b h A n (upd H h (.lst [.ref t])) [.ref t] [some k] := by
  have S := same_new (o := .lst [.ref t]) hh
  obtain ⟨u, hu⟩ := O.pn
  obtain ⟨u2, hu2⟩ := O.bn
  exact ⟨hT.ext S, O.same S, upd_same, (ne_of_none hu hh).symm, (ne_of_none hu2 hh).symm, F.keep (.same S), ⟨e.keep (.same S), trivial⟩, t, [], rfl⟩
end
end OB
/-! The law's own call, its promise asked only where no repr is under way. -/
namespace OB
open PySem PySem.Spec PyProof.Rows L2 LamX
section
variable {P : Program} {w : World} {K : PySem.W.Frag} {mg mb : Str → Option Value} {CX : CXT} {k : Nat} {fa a : Addr} {cs : List (Addr × Addr)} {fd : FuncData} {x : Str} {sp : Sp} {s₁ : Shared} {vs : List Value} {ns : List Int}
/-- what is tracked as the law begins: its script, where it is no part of the text's own objects, and the tables of its lambdas -/
def top (K : PySem.W.Frag) (a : Addr) (vs : List Value) (ns : List Int) (T : List Addr) : Hp := fun b =>
  if b = a then (if K.lookup a = none then some (.frz { cls := .type "list", data := .seq vs.toArray } (.lst (ns.map V.int))) else none) else if b ∈ T then some (.tbl #[]) else none
theorem top_some {T : List Addr} {b : Addr} {u : HO} (h : top K a vs ns T b = some u) :
    (b = a ∧ K.lookup a = none ∧ u = .frz { cls := .type "list", data := .seq vs.toArray } (.lst (ns.map V.int))) ∨ (b ≠ a ∧ b ∈ T ∧ u = .tbl #[]) := by
  unfold top at h
  by_cases e : b = a
  · rw [if_pos e] at h
    by_cases n : K.lookup a = none
    · rw [if_pos n] at h
      exact .inl ⟨e, n, (Option.some.inj h).symm⟩
    · rw [if_neg n] at h
      cases h
  · rw [if_neg e] at h
    by_cases m : b ∈ T
    · rw [if_pos m] at h
      exact .inr ⟨e, m, (Option.some.inj h).symm⟩
    · rw [if_neg m] at h
      cases h
theorem top_none {T : List Addr} {b : Addr} (h1 : b = a → K.lookup a ≠ none) (h2 : b ∉ T) : top K a vs ns T b = none := by
  cases e : top K a vs ns T b with
  | none => rfl
  | some u =>
    rcases top_some e with ⟨q, n, _⟩ | ⟨_, m, _⟩
    · exact absurd n (h1 q)
    · exact absurd m h2
theorem law_callG (KX : K.In s₁.heap) (hns : s₁.heap.Ns mainGlobals mg) (hb : s₁.heap.Ns builtinsNs mb) (hbb : ∀ x : Str, x ≠ "__name__" → mb x = bootBuiltins x) (hlim : s₁.heap.NoLimit) (hg : s₁.gens = #[])
    (hT : ∀ p ∈ cs, s₁.heap.get? p.2 = some { cls := .none, data := .fields #[] }) (nT : ∀ p ∈ cs, K.lookup p.2 = none) (C : ∀ p ∈ cs, PySem.W.CodeHd s₁.heap p.1 p.2)
    (hbm : ∃ (bm : Addr) (ob : Obj), mg "__builtins__" = some (.ref bm) ∧ bm ≠ builtinsNs ∧ s₁.heap.get? bm = some ob ∧ ob.cls = .type "module" ∧ ob.dict = some builtinsNs ∧ ob.data = .plain)
    (ha : s₁.heap.get? a = some { cls := .type "list", data := .seq vs.toArray }) (hi : IntsAre vs ns) (hl : ns.length ≤ sizeLine) (hr : Room k callerA)
    (F : ∀ base : Heap, K.In base → base.Ns mainGlobals mg → (∀ p ∈ cs, TabB base mg p.1 p.2) → FnG P w K mg base CX k fa fd [x] sp) (hbind : ∀ (s : Shared) (u : Value), BindsTo s fd ⟨[u], []⟩ [(x, u)])
    (hsp : ∀ H : Hp, (∀ p ∈ cs, H p.2 = some (.tbl #[])) → SqL K H a (ns.map V.int) → sp [.ref a] H (fun v _ => v = .bl true) fun _ _ _ => False)
    (hCX : ∀ H e s', CX [] H s₁ (fun _ _ _ => False) e s' → False) :
    codeAny (model P w) callerA (.call (.ref fa) ⟨[.ref a], []⟩) (fun r s' => r = .ok (.ret (.bool true)) ∧ OldK s₁.heap s'.heap ∧ s'.os = s₁.os ∧ AllBare s'.gens) s₁ := by
  have rv := vals_ints hi
  obtain ⟨T, eT⟩ : ∃ T, T = cs.map (·.2) := ⟨_, rfl⟩
  have inT : ∀ p ∈ cs, p.2 ∈ T := fun p hp => eT ▸ List.mem_map.mpr ⟨p, hp, rfl⟩
  have ofT : ∀ b ∈ T, ∃ p ∈ cs, p.2 = b := fun b h => List.mem_map.mp (eT ▸ h)
  have tab : ∀ b ∈ T, s₁.heap.get? b = some { cls := .none, data := .fields #[] } := fun b h => by
    obtain ⟨p, hp, rfl⟩ := ofT b h
    exact hT p hp
  have aT : a ∉ T := fun z => by
    have q := (tab a z).symm.trans ha
    have q := congrArg Obj.data (Option.some.inj q)
    cases q
  obtain ⟨H, eH⟩ : ∃ H, H = top K a vs ns T := ⟨_, rfl⟩
  have some_ : ∀ {b u}, H b = some u → (b = a ∧ K.lookup a = none ∧ u = .frz { cls := .type "list", data := .seq vs.toArray } (.lst (ns.map V.int))) ∨ (b ≠ a ∧ b ∈ T ∧ u = .tbl #[]) := fun h => top_some (by rw [eH] at h; exact h)
  have hH : ∀ p ∈ cs, H p.2 = some (.tbl #[]) := fun p hp => by
    have ne : p.2 ≠ a := fun z => aT (z ▸ inT p hp)
    rw [eH]
    unfold top
    rw [if_neg ne, if_pos (inT p hp)]
  have hok : HOk P w H s₁.heap := fun b u z => by
    rcases some_ z with ⟨rfl, _, rfl⟩ | ⟨_, m, rfl⟩
    · exact ⟨ha, by rw [List.length_map]; exact hl, vs, _, rv, ha⟩
    · exact tab b m
  have hS : SqL K H a (ns.map V.int) := by
    cases hk : K.lookup a with
    | none =>
      refine .inl (.inr ⟨{ cls := .type "list", data := .seq vs.toArray }, ?_⟩)
      rw [eH]
      unfold top
      rw [if_pos rfl, if_pos hk]
    | some o =>
      have e := (KX a o hk).symm.trans ha
      cases e
      exact .inr ⟨_, vs.toArray, _, hk, rfl, rfl, rfl, by rw [List.size_toArray, hi.length]; exact hl, by simpa using rv⟩
  -- what is no list and no empty table is not tracked
  have bare : ∀ {b : Addr} {o : Obj}, s₁.heap.get? b = some o → (∀ vs n, o.data ≠ .seq vs n) → o.data ≠ .fields #[] → H b = none := fun {b o} e h1 h2 => by
    cases q : H b with
    | none => rfl
    | some u =>
      rcases some_ q with ⟨rfl, _, _⟩ | ⟨_, m, _⟩
      · cases e.symm.trans ha
        exact (h1 _ _ rfl).elim
      · cases e.symm.trans (tab b m)
        exact (h2 rfl).elim
  have under : ∀ {b : Addr} {o : Obj}, s₁.heap.get? b = some o → H b = none → (hidT s₁.heap H).get? b = some o := fun e n => hidT_get e n
  have names : ∀ {b : Addr} {m : Str → Option Value}, s₁.heap.Ns b m → (hidT s₁.heap H).Ns b m := fun {b m} ⟨o, es, ep, e, d, r⟩ =>
    ⟨o, es, ep, under e (bare e (fun vs n z => by rw [d] at z; cases z) fun z => by rw [d] at z; cases z), d, r⟩
  have hKb : K.In (hidT s₁.heap H) := fun b o e => under (KX b o e) (by
    cases q : H b with
    | none => rfl
    | some u =>
      rcases some_ q with ⟨rfl, n, _⟩ | ⟨_, m, _⟩
      · rw [n] at e
        cases e
      · obtain ⟨p, hp, rfl⟩ := ofT b m
        rw [nT p hp] at e
        cases e)
  have hM : L2.Mod K mg (hidT s₁.heap H) := ⟨hKb, names hns, ⟨mb, names hb, hbb⟩, let ⟨mc, h1, h2⟩ := hlim; ⟨mc, names h1, h2⟩⟩
  have TB : ∀ p ∈ cs, TabB (hidT s₁.heap H) mg p.1 p.2 := fun p hp => by
    have hTp := hT p hp
    refine ⟨?_, ?_, fun z => ?_⟩
    · obtain ⟨o, us, file, tf, flags, tg, inF, text, tt, e1, r1, r2, r3, rest⟩ := C p hp
      exact ⟨o, us, file, tf, flags, tg, inF, text, tt, under e1 (bare e1 (fun vs n z => by rw [r2] at z; cases z) fun z => by
        rw [r2] at z
        cases z
        simp at r3), r1, r2, r3, rest⟩
    · obtain ⟨bm, ob, b1, b2, b3, b4, b5, b6⟩ := hbm
      refine ⟨bm, ob, b1, b2, fun q => ?_, fun q => ?_, under b3 (bare b3 (fun vs n z => by rw [b6] at z; cases z) fun z => by rw [b6] at z; cases z), b4, b5, b6⟩
      · obtain ⟨o, es, ep, e, hd, _⟩ := hns
        rw [q, e] at b3
        cases b3
        rw [hd] at b6
        cases b6
      · rw [q, hTp] at b3
        cases b3
        cases b6
    · obtain ⟨o, es, ep, e, hd, _⟩ := hns
      rw [z, hTp] at e
      cases e
      cases hd
  have e0 : Env0 P w K mg (hidT s₁.heap H) callerA [] s₁ H := ⟨rfl, hM, fun b o e => of_hidT e, Nat.le_of_eq (hidT_size _ _), trivial, fun b hb => absurd (show b ∈ ([] : List Addr) from hb) (by simp), hok, .of_eq hg⟩
  refine codeAny_mono ((F _ hKb (names hns) TB).run callerA [] s₁ H ⟨[.ref a], []⟩ [.ref a] [.ref a] _ _ rfl hr e0 (hbind s₁ (.ref a)) (.cons rfl .nil) (hsp H hH hS)) fun r s' h => ?_
  match r, h with
  | .error e, h => exact (hCX H e s' h).elim
  | .ok (.ret u), h =>
    obtain ⟨v, H', os, bs, un, hok', r', q⟩ := h
    have q : v = .bl true := q
    subst q
    obtain rfl : u = Value.bool true := r'
    have key : ∀ b o, b ∉ T → s₁.heap.get? b = some o → s'.heap.get? b = some o := fun b o nb e => by
      cases q : H b with
      | none => exact un.keep b o e q (by intro z; exact absurd (show b ∈ ([] : List Addr) from z) (by simp)) (by simp)
      | some u =>
        rcases some_ q with ⟨rfl, _, rfl⟩ | ⟨_, m, _⟩
        · obtain ⟨e1, _⟩ := hok b _ q
          obtain ⟨e2, _⟩ := hok' b _ (un.frzs b _ _ q)
          rw [e] at e1
          cases e1
          exact e2
        · exact absurd m nb
    have grown : ∀ p ∈ cs, ∃ more : Array Value, s'.heap.get? p.2 = some { cls := .none, data := .fields more } := fun p hp => by
      obtain ⟨more, z⟩ := un.tbls p.2 #[] (hH p hp)
      exact ⟨_, hok' p.2 _ z⟩
    refine ⟨rfl, ⟨fun b o e => ?_, fun b o e => ?_⟩, os, bs⟩
    · by_cases m : b ∈ T
      · obtain ⟨p, hp, rfl⟩ := ofT b m
        obtain ⟨more, hm⟩ := grown p hp
        rw [hT p hp] at e
        cases e
        exact .inr (.inl ⟨((C p hp).tab (hT p hp)).isCodeTable, rfl, #[], more, rfl, by rw [Array.empty_append]; exact hm⟩)
      · exact .inl (key b o m e)
    · by_cases m : b ∈ T
      · obtain ⟨p, hp, rfl⟩ := ofT b m
        obtain ⟨more, hm⟩ := grown p hp
        exact ⟨_, hm⟩
      · exact ⟨o, key b o m e⟩
/-- what is known of the law's promise at the head's heap -/
def LawG (l : PySem.W.OpenLaw) (w : World) (K : PySem.W.Frag) (CX : CXT) (k n : Nat) (x : Str) (mg : Str → Option Value) (fa : Addr) (h : Heap) : Prop :=
  ∃ (fd : FuncData) (cs : List (Addr × Addr)) (sp : Sp), ((∀ p ∈ cs, h.get? p.2 = some { cls := .none, data := .fields #[] }) ∧ (∀ p ∈ cs, K.lookup p.2 = none) ∧ (∀ p ∈ cs, PySem.W.CodeHd h p.1 p.2)) ∧ (∀ (s : Shared) (u : Value), BindsTo s fd ⟨[u], []⟩ [(x, u)]) ∧
    (∀ (H : Hp) (a : Addr) (ns : List Int), ns.length ≤ n → (∀ z ∈ ns, Builtin.Int.intBits z ≤ 1048576) → (∀ p ∈ cs, H p.2 = some (.tbl #[])) → SqL K H a (ns.map V.int) → sp [.ref a] H (fun v _ => v = .bl true) fun _ _ _ => False) ∧
    ∀ base : Heap, K.In base → base.Ns mainGlobals mg → (∀ p ∈ cs, TabB base mg p.1 p.2) → FnG l.prog w K mg base CX k fa fd [x] sp
end
theorem walk_G {l : PySem.W.OpenLaw} {n k : Nat} {q : Program} {loose : List Str} {XP : (Str → Option Value) → Heap → Prop} {YP : World → Heap → Prop} {d : DefRec} {K : Params → PySem.W.Frag} {CX : World → CXT} {x : Str}
    (hn : l.most = some n) (hn2 : n ≤ sizeLine) (hdf : d.params.defaults = []) (hr : Room k callerA) (hY : ∀ (w : World) (h : Heap), YP w h → (K w.params).In h)
    (F : ∀ (w : World) (mg : Str → Option Value) (fa : Addr) (h : Heap), YP w h → (K w.params).In h → h.Ns mainGlobals mg → mg d.name = some (.ref fa) → LawG l w (K w.params) (CX w) k n x mg fa h)
    (hCX : ∀ (w : World) (H : Hp) (s : Shared) (e : Value) (s' : Shared), CX w [] H s (fun _ _ _ => False) e s' → False) :
    PySem.W.WalkO q loose XP YP l.row.toRowW d [] (fun f vs => PySem.call f vs) := by
  refine Att.attach_callB hn hdf fun w s₀ s₁ mg mb fa o pm cd doc a vs ns G Y ho hd hcd hmg hobj hints hlen hbits hg => ?_
  have KX := hY w _ Y
  obtain ⟨fd, cs, sp, ⟨hT, nT, C⟩, hb, hsp, hF⟩ := F w mg fa _ Y KX G.T.g hmg
  exact law_callG KX G.T.g G.T.b G.T.builtins G.T.nolimit hg hT nT C G.T.bmain hobj hints (Nat.le_trans hlen hn2) hr hF hb (fun H hH hS => hsp H a ns hlen hbits hH hS) fun H e s' => hCX w H s₁ e s'
end OB
/-! Own errors with two fields, raised. -/
namespace OB
open PySem PySem.Spec PyProof.Rows L2
/-- __init__(self, f, g): self.f = f; self.g = g of an own error -/
def spInit2 (K : PySem.W.Frag) (f g : Str) : Sp := fun vs H Q _ => ∃ (a C : Addr) (v u : V), vs = [.ref a, v, u] ∧ OexC K C ∧ PySem.W.findIn K (.ref C) f = some none ∧ PySem.W.findIn K (.ref C) g = some none ∧ H a = some (exo a C none) ∧
  ∀ dx, H dx = none → dx ≠ a → Q .non (upd (upd H dx (exd dx [(g, u), (f, v)])) a (exo a C (some dx)))
section
variable {P : Program} {w : World} {K : PySem.W.Frag} {mg : Str → Option Value} {base : Heap}
theorem ok_init2 {qual : Str} {st : Stmt} {fI : Addr} {fd : FuncData} {f g : Str} {p1 p2 p3 p4 r1 r2 r3 r4 : Pos} (F : Fun K "__init__" qual st fI fd) (S : FnScope ["self", f, g] ["self", f, g] (defScope st)) (hfg : ¬ f = g)
    (hb : defBody st = [.Assign [.Attribute (.Name "self" p1) f p2] (.Name f p3) p4, .Assign [.Attribute (.Name "self" r1) g r2] (.Name g r3) r4])
    (hv : Vis (defScope st) f) (hw : Vis (defScope st) g) (hs : Vis (defScope st) "self") (hd : (f == ("__debug__" : Str)) = false := by decide) (hcd : (f == ("__classdict__" : Str)) = false := by decide)
    (hd2 : (g == ("__debug__" : Str)) = false := by decide) (hcd2 : (g == ("__classdict__" : Str)) = false := by decide)
    (hsw : ∀ env : Env, swapsWith (.Name f p3) (some (.Attribute (.Name "self" p1) f p2)) p4.line env = pure false := by intro _; rfl)
    (hsw2 : ∀ env : Env, swapsWith (.Name g r3) (some (.Attribute (.Name "self" r1) g r2)) r4.line env = pure false := by intro _; rfl) :
    FnOk P w K mg base CX0 1 fI fd ["self", f, g] (spInit2 K f g) := by
  refine F.ok S (fun vs H Q E h => ?_) (fun cdv A outer s H vs Q E hr h => ?_)
  · obtain ⟨a, C, v, u, rfl, _⟩ := h
    rfl
  · obtain ⟨a, C, v, u, rfl, T, no, no2, ha, k⟩ := h
    rw [hb]
    refine ⟨_, pss_cons (ps_ost (pe_var (i := 0) rfl hs) (pe_var (i := 1) rfl hv hd hcd) (hsw _)) (pss_one (ps_ost (pe_var (i := 0) rfl hs) (pe_var (i := 2) rfl hw hd2 hcd2) (hsw2 _))), ?_⟩
    refine ⟨v, rfl, .ref a, rfl, a, C, rfl, T, no, .inl ⟨ha, fun dx n ne => ?_⟩⟩
    refine ⟨u, rfl, .ref a, rfl, a, C, rfl, T, no2, ?_⟩
    refine .inr ⟨dx, [(f, v)], upd_same, by rw [upd_ne ne, upd_same], (by show 1 ≤ 900; decide), ?_⟩
    have e : upd (upd (upd H dx (exd dx [(f, v)])) a (exo a C (some dx))) dx (exd dx ((g, u) :: [(f, v)])) = upd (upd H dx (exd dx [(g, u), (f, v)])) a (exo a C (some dx)) := by
      funext b
      by_cases h1 : b = a
      · rw [h1, upd_ne ne.symm, upd_same, upd_same]
      · by_cases h2 : b = dx
        · rw [h2, upd_same, upd_ne ne, upd_same]
        · rw [upd_ne h2, upd_ne h1, upd_ne h2, upd_ne h1, upd_ne h2]
    rw [e]
    exact k dx n ne
/-- an own error class with two fields, as the top leaves it -/
structure Err2 (P : Program) (w : World) (K : PySem.W.Frag) (mg : Str → Option Value) (base : Heap) (x f g : Str) (C fI : Addr) (fd : FuncData) : Prop where
  T : OexC K C
  iC : PySem.W.findIn K (.ref C) "__init__" = some (some (.ref fI))
  tI : PySem.W.typeIn K (.ref fI) = some (.type "function")
  F : FnOk P w K mg base CX0 1 fI fd ["self", f, g] (spInit2 K f g)
  b : Binds K fd ["self", f, g] []
  gl : mg x = some (.ref C)
  no : PySem.W.findIn K (.ref C) f = some none
  no2 : PySem.W.findIn K (.ref C) g = some none
end
/-- raise X(e, e2) -/
def tRaise2 (K : PySem.W.Frag) (C : Addr) (f g : Str) (W : WX) (te te2 : TE) : TS := fun _ σ H => tMkO C (spInit2 K f g) [] (tCons te (tCons te2 tNil)) σ H fun cls d H' => W cls d σ H'
theorem raise2_of {K : PySem.W.Frag} {C : Addr} {f g : Str} {W : WX} {σ : L2.St} {H1 : Hp} {v u : V} (T : OexC K C) (no : PySem.W.findIn K (.ref C) f = some none) (no2 : PySem.W.findIn K (.ref C) g = some none) (h : ∀ d, H1 d = none → W (.ref C) (some d) σ (upd H1 d (.xd [(g, u), (f, v)]))) :
    tNil σ H1 fun xs H2 => (v :: u :: xs).length ≤ 1000 ∧ ∀ a, H2 a = none → spInit2 K f g (.ref a :: ((v :: u :: xs) ++ [])) (upd H2 a (exo a C none))
      (fun z H3 => z = .non ∧ ∃ (d : Addr) (fs : List (Str × V)), H3 a = some (exo a C (some d)) ∧ H3 d = some (exd d fs) ∧ H2 d = none ∧ W (.ref C) (some d) σ (upd (del H3 a) d (.xd fs))) (fun _ _ _ => False) := by
  refine ⟨by show 2 ≤ 1000; decide, fun a ha => ⟨a, C, v, u, rfl, T, no, no2, upd_same, fun dx nd ne => ?_⟩⟩
  rw [upd_ne ne] at nd
  refine ⟨rfl, dx, [(g, u), (f, v)], upd_same, ?_, nd, ?_⟩
  · rw [upd_ne ne, upd_same]
  · rw [del_back ha ne]
    exact h dx nd
theorem ps_raise2 {X : Cx} {W : WX} {x f g : Str} {C fI : Addr} {fd : FuncData} {e e2 : Expr} {te te2 : TE} {p p2 pos : Pos} (hc : X.calm = true) (tk : Takes X W) (R : Err2 X.prog X.w X.K X.mg X.base x f g C fI fd) (hr : Room 2 X.A) (hg : Gl X x) (he : PE X e te) (he2 : PE X e2 te2)
    (hx : Passes CX0 X (fun _ _ _ => False) := by exact pass0) (hs2 : starEach [e2] X.env = [(false, eval e2 X.env)] := by rfl) (hs : starEach [e, e2] X.env = (false, eval e X.env) :: starEach [e2] X.env := by rfl) (hdb : (x == ("__debug__" : Str)) = false := by decide)
    (hpl : (backTo p2 (starEach [e2] X.env)).any (·.1) = false := by rfl) :
    PS X (.Raise (some (.Call (.Name x p) [e, e2] [] p2)) none pos) (tRaise2 X.K C f g W te te2) :=
  ps_raise (pos := pos) hc tk (pmk_oex (p := p) (pos := p2) R.T R.iC R.tI R.F hr R.b .nil hx hg R.gl (pa_cons he (pa_cons he2 pa_nil hs2) hs) hdb hs hpl)
end OB
/-! == and != of an own object with any value, by the class's own __eq__, with both answers. -/
namespace OB
open PySem PySem.Spec PyProof.Rows L2
section
variable {X : Cx} {n : Nat} {A : Around} {pins : List (Addr × Obj)} {σ : L2.St} {H : Hp} {s : Shared}
theorem sub_run {CX : CXT} {f : Addr} {fd : FuncData} {ps : List Str} {sp : Sp} {E : XK} {Q : VK} {us : List Value} {vs : List V} (F : FnOk X.prog X.w X.K X.mg X.base CX n f fd ps sp) (hb : L2.Binds X.K fd ps []) (hx : Passes CX X E)
    (sb : Sub X n A) (I : Inv X pins σ H s) (r : Vals vs us) (h : sp vs H Q E) : wpAny (model X.prog X.w) A (call (.ref f) us) (EP X pins σ Q) X.xe s := by
  have e0 : Env0 X.prog X.w X.K X.mg X.base A X.stack s H := by
    have e := I.env0
    exact ⟨by rw [sb.fr]; exact e.frames, e.mod, e.bs, e.bsz, e.funs, e.frf, e.hok, e.bare⟩
  have hl := F.len _ _ _ _ h
  have hl2 : us.length = ps.length := by rw [← r.length]; exact hl
  refine wpAny_call (codeAny_mono (F.run A X.stack s H ⟨us, []⟩ us vs Q E sb.room e0 (by
    have := hb s us I.kIn (by simpa using hl2)
    simpa using this) r h) fun r s' hq => ?_)
  cases r with
  | error e => exact hx pins σ H s e s' I hq
  | ok fl =>
    cases fl with
    | ret w =>
      obtain ⟨z, H', I', rz, q⟩ := I.after hq
      exact ⟨z, H', I', rz, q⟩
    | next => exact False.elim hq
    | brk => exact False.elim hq
    | cont => exact False.elim hq
end
/-- of the two the left one is asked first -/
def NotFirst (K : PySem.W.Frag) (C : Addr) (y : V) (H : Hp) : Prop := (∃ b dy gs, y = .ref b ∧ H b = some (.ins C dy gs)) ∨ (∃ b xs, y = .ref b ∧ SqT K H b xs ∧ PySem.W.subIn K (.type "tuple") (.ref C) = some false)
section
variable {X : Cx} {pins : List (Addr × Obj)} {σ : L2.St} {H : Hp} {s : Shared}
theorem nf_looks {C : Addr} {y : V} {v : Value} (I : Inv X pins σ H s) (ry : RelV y v) (h : NotFirst X.K C y H) : ∃ tb, PySem.W.Looks (model X.prog X.w) s.heap (typeOf v) tb ∧ PySem.W.notFirst X.K C tb = true := by
  rcases h with ⟨b, dy, gs, rfl, hb⟩ | ⟨b, xs, rfl, hb, hs⟩
  · cases (show v = Value.ref b from ry)
    obtain ⟨mB, J, _⟩ := ins_get I.hok hb
    obtain ⟨od, J, _⟩ := J.look
    exact ⟨.ref C, J.type, by simp [PySem.W.notFirst]⟩
  · cases (show v = Value.ref b from ry)
    obtain ⟨its, r, ⟨o, ho, hc, _⟩, z⟩ := I.tuple hb
    refine ⟨.type "tuple", hc ▸ (PySem.W.Looks.ld (part := none) ho).andThen .now, ?_⟩
    unfold PySem.W.notFirst
    rw [hs]
    simp
end
section
variable {prog : Program} {w : World} {A : Around} {E : Value → Shared → Prop} {s : Shared} {K : PySem.W.Frag} {x C L f : Addr} {h₀ : Heap} {m : Str → Option Value} {ox : Obj} {od : Option Obj} {name : Str} {b tb : Value}
open PySem.W PySem.Builtin in
theorem ifBound_bi {M : Model} {id : String} {args : List Value} {Q : Option Value → Shared → Prop} (X : K.In s.heap) (I : InstAt s.heap x ox C od) (hs : findIn K (.ref C) name = some (some (.builtin id)))
    (hb : ∀ self, bindSpecial (.builtin id) self = pure (.builtin id, [self])) (h : wpAny M A (call (.builtin id) (.ref x :: args)) (fun v => Q (some v)) E s) : wpAny M A (callSpecialIfBound? (.ref x) name args) Q E s := by
  simp only [callSpecialIfBound?, bindSpecialIfBound?]
  refine wpAny_holding (wpAny_bind (wpAny_bind (wpAny_bind (I.type.here ((looks_findIn X hs).here ?_)))))
  refine wpAny_bind (wpAny_askSetting (wpAny_ite ?_))
  have fin : wpAny M A (call (.builtin id) ([.ref x] ++ args) >>= fun v => pure (some v)) Q E s := wpAny_bind (wpAny_mono h (fun v s' h' => wpAny_pure h') fun _ _ h' => h')
  split
  · exact wpAny_bind ((Looks.of_pure (hb _)).here (wpAny_pure (by exact fin)))
  · exact wpAny_tryCatch (wpAny_bind ((Looks.of_pure (hb _)).here (wpAny_pure (by exact fin))))
open PySem.W PySem.Builtin in
theorem cmp_ne {Q : Value → Shared → Prop} (hu : A.units + 1 < cLine) (hu1 : A.in1.units < cLine) (F : Fr h₀ L s.heap m) (X₀ : K.In h₀) (I : InstAt s.heap x ox C od) (hb : Looks (model prog w) s.heap (typeOf b) tb) (hn : notFirst K C tb = true)
    (hne : findIn K (.ref C) "__ne__" = some (some (.builtin "object.__ne__"))) (hm : mroIn K C (.type "object") = some true)
    (hs : findIn K (.ref C) "__eq__" = some (some (.ref f))) (hf : isFn K (.ref f) = true)
    (h : wpAny (model prog w) A.in1 (call (.ref f) [.ref x, b]) (fun v s' => ∃ k, v = .bool k ∧ Q (.bool (!k)) s') E s) : wpAny (model prog w) A (richCompare .NotEq (.ref x) b) Q E s := by
  have X := X₀.keeps F.keep
  have body : wpAny (model prog w) A (call (.builtin "object.__ne__") [.ref x, b]) (fun v s' => ∃ k, v = .bool k ∧ Q v s') E s := by
    refine wpAny_call (codeAny_call_builtin PySem.F.slot_object_ne.plain PySem.F.entry_object_ne (check_slot (i := "object.__ne__") (owner := "object") (n := "__ne__") (by decide +kernel) (by decide +kernel) (I.type.andThen (looks_mroIn X hm)) (PySem.F.args_object_ne_2 _ _) ?_))
    unfold Builtin.«object.__ne__»
    refine wpAny_bind (m := slotArgs "__ne__" 1 _) (wpAny_pure ?_)
    refine wpAny_bind (m := cRoomFor _ _) (wpAny_cRoomFor hu1 ?_)
    refine wpAny_bind (m := callSpecialIfBound? (.ref x) (Str.ofString "__eq__") _) (ifBound_K X I hs hf (wpAny_mono h (fun r s' hq => ?_) fun _ _ y => y))
    obtain ⟨k, rfl, q⟩ := hq
    refine wpAny_bind (m := truthy (.bool k)) (wpAny_truthy_bool ?_)
    exact wpAny_pure ⟨!k, rfl, q⟩
  have one : wpAny (model prog w) A (tryCompare (.ref x) (cmpInfo .NotEq).2.1 b) (fun r s' => ∃ v, r = some v ∧ Q v s') E s := by
    unfold tryCompare
    refine wpAny_bind (ifBound_bi X I hne PySem.F.slot_object_ne.bind (wpAny_mono body (fun v s' hv => ?_) fun _ _ e => e))
    obtain ⟨k, rfl, q⟩ := hv
    exact wpAny_pure ⟨_, rfl, q⟩
  unfold richCompare
  simp only [oneThing_ref]
  refine wpAny_holding (wpAny_bind (wpAny_cRoomFor (Nat.lt_of_succ_lt hu) ?_))
  refine wpAny_bind (I.type.here (wpAny_bind (hb.here ?_)))
  split
  · rename_i q
    have e : subIn K tb (.ref C) = some false := by
      rcases Bool.or_eq_true_iff.mp hn with e | e
      · rw [beq_iff_eq.mp e] at q; simp at q
      · exact beq_iff_eq.mp e
    refine wpAny_bind ((looks_subIn X e).here ?_)
    simp only [Bool.false_eq_true, if_false]
    refine wpAny_bind (wpAny_mono one (fun r s' z => ?_) fun _ _ e => e)
    obtain ⟨v, rfl, hq⟩ := z
    exact wpAny_pure hq
  · refine wpAny_bind (wpAny_pure ?_)
    simp only [Bool.false_eq_true, if_false]
    refine wpAny_bind (wpAny_mono one (fun r s' z => ?_) fun _ _ e => e)
    obtain ⟨v, rfl, hq⟩ := z
    exact wpAny_pure hq
end
/-- a class's own ==: where its def stands, and that != is the usual one -/
structure OwnEqC (K : PySem.W.Frag) (C f : Addr) : Prop where
  eq : PySem.W.findIn K (.ref C) "__eq__" = some (some (.ref f))
  fn : PySem.W.isFn K (.ref f) = true
  ne : PySem.W.findIn K (.ref C) "__ne__" = some (some (.builtin "object.__ne__"))
  ob : PySem.W.mroIn K C (.type "object") = some true
def rEqO (K : PySem.W.Frag) (C : Addr) (sp : Sp) (E : XK) : R2 := fun x y H Q => ∃ a dx fs, x = .ref a ∧ H a = some (.ins C dx fs) ∧ NotFirst K C y H ∧ sp [x, y] H (fun v H' => ∃ b, v = .bl b ∧ Q (.bl b) H') E
def rNeO (K : PySem.W.Frag) (C : Addr) (sp : Sp) (E : XK) : R2 := fun x y H Q => ∃ a dx fs, x = .ref a ∧ H a = some (.ins C dx fs) ∧ NotFirst K C y H ∧ sp [x, y] H (fun v H' => ∃ b, v = .bl b ∧ Q (.bl (!b)) H') E
section
variable {X : Cx} {n : Nat} {CX : CXT} {C f : Addr} {fd : FuncData} {ps : List Str} {sp : Sp} {E : XK}
theorem op_eqO (F : FnOk X.prog X.w X.K X.mg X.base CX n f fd ps sp) (O : OwnEqC X.K C f) (hb : L2.Binds X.K fd ps []) (hx : Passes CX X E) (hr : Room n X.A) : OpR X (compareOp .Eq) (rEqO X.K C sp E) := by
  intro pins s σ H x y v u Q I rx ry hq
  obtain ⟨a, dx, fs, rfl, ha, nf, h⟩ := hq
  cases (show v = Value.ref a from rx)
  obtain ⟨mA, J, _⟩ := ins_get I.hok ha
  obtain ⟨od, J, _⟩ := J.look
  obtain ⟨m, hF⟩ := I.fr
  obtain ⟨tb, L, nf⟩ := nf_looks I ry nf
  show wpAny (model X.prog X.w) X.A (richCompare .Eq (.ref a) u) (EP X pins σ Q) X.xe s
  refine PySem.W.cmp_K (op := .Eq) hr.units0 hF I.ok.mod.kin J L nf O.eq O.fn ?_
  refine wpAny_mono (sub_run F hb hx ⟨hr, rfl⟩ I (Paired.cons (show L2.RelV (.ref a) (.ref a) from rfl) (.cons ry .nil)) h) (fun r s' q => ?_) fun _ _ z => z
  obtain ⟨z, H', I', rz, b, rfl, q⟩ := q
  cases rz
  exact ⟨.bl b, H', I', rfl, q⟩
theorem op_neO (F : FnOk X.prog X.w X.K X.mg X.base CX n f fd ps sp) (O : OwnEqC X.K C f) (hb : L2.Binds X.K fd ps []) (hx : Passes CX X E) (hr : Room (n + 1) X.A) : OpR X (compareOp .NotEq) (rNeO X.K C sp E) := by
  intro pins s σ H x y v u Q I rx ry hq
  obtain ⟨a, dx, fs, rfl, ha, nf, h⟩ := hq
  cases (show v = Value.ref a from rx)
  obtain ⟨mA, J, _⟩ := ins_get I.hok ha
  obtain ⟨od, J, _⟩ := J.look
  obtain ⟨m, hF⟩ := I.fr
  obtain ⟨tb, L, nf⟩ := nf_looks I ry nf
  show wpAny (model X.prog X.w) X.A (richCompare .NotEq (.ref a) u) (EP X pins σ Q) X.xe s
  refine cmp_ne (by have := hr.units; omega) hr.in1.units0 hF I.ok.mod.kin J L nf O.ne O.ob O.eq O.fn ?_
  refine wpAny_mono (sub_run F hb hx ⟨hr.in1, rfl⟩ I (Paired.cons (show L2.RelV (.ref a) (.ref a) from rfl) (.cons ry .nil)) h) (fun r s' q => ?_) fun _ _ z => z
  obtain ⟨z, H', I', rz, b, rfl, q⟩ := q
  cases rz
  exact ⟨b, rfl, .bl (!b), H', I', rfl, q⟩
end
end OB
/-! Static methods off a class, str of an own object by its own __str__, making by keywords alone. -/
namespace OB
open PySem PySem.Spec PyProof.Rows L2 ClX
/-- C.m is a static method: its record at p, its def at g -/
structure CStat (K : PySem.W.Frag) (C : Addr) (mc : Value) (m : Str) (p g : Addr) : Prop where
  at_ : PySem.W.findCls K (.ref C) mc m = some (.get (.builtin "staticmethod.__get__") (.ref p) .none (.ref C))
  rc : ∃ rest, PySem.W.recIn K p "staticmethod" = some (.ref g :: rest)
  kp : PySem.W.keepIn K (.ref g) = true
/-- e.m(..), e the class at C -/
def tSMeth (C : Addr) (sp : Sp) (E : XK) (ta : TE) (t : TA) : TE := fun σ H Q => ta σ H fun x H1 => x = .ref C ∧ t σ H1 fun vs H2 => sp vs H2 Q E
def tSMethK (C : Addr) (sp : Sp) (gV : List V → List V → List V) (E : XK) (ta : TE) (tk : TA) : TE := fun σ H Q => ta σ H fun x H1 => x = .ref C ∧ tk σ H1 fun zs H2 => sp (gV [] zs) H2 Q E
section
variable {X : Cx} {pins : List (Addr × Obj)} {σ : L2.St} {H : Hp} {s : Shared} {C p g : Addr} {mc : Value} {m : Str} {A : Around} {E : Value → Shared → Prop}
theorem getmethsm_ok {pl : Sem Bool} {Q : Value × List Value → Shared → Prop} (I : Inv X pins σ H s) (r : CRead X.K C mc) (k : CStat X.K C mc m p g)
    (h : ∀ s', Inv X pins σ H s' → Q (.ref g, []) s') : wpAny (model X.prog X.w) A (getMethod (.ref C) m pl) Q E s := by
  obtain ⟨rest, hp⟩ := k.rc
  exact PySem.W.method_cls I.kIn r.ga (PySem.W.cls_bind I.kIn r.rd k.at_ (wpAny_call (PySem.W.sm_get (s := { s with toks := s.toks + 1 }) I.kIn hp (PySem.W.handed_on rfl (h _ (I.tok _))))))
end
section
variable {X : Cx} {CX : CXT} {k : Nat} {C p g : Addr} {fd : FuncData} {ps ks : List Str} {mc : Value} {sp : Sp} {E : XK} {o e : Expr} {es : List Expr} {kws : List Keyword} {m : Str} {pos apos : Pos} {ta : TE} {t tk : TA} {pl : Sem Bool} {gg : List Value → List Value → List Value} {gV : List V → List V → List V}
theorem pe_smeth (he : PE X o ta) (r : CRead X.K C mc) (c : CStat X.K C mc m p g) (F : FnOk X.prog X.w X.K X.mg X.base CX k g fd ps sp) (hr : Room k X.A) (hb : L2.Binds X.K fd ps []) (hx : Passes CX X E) (ha : PA X (e :: es) t)
    (hst : starEach (e :: es) X.env = (false, eval e X.env) :: starEach es X.env := by rfl) (hpl : (backTo pos (starEach es X.env)).any (·.1) = false := by rfl)
    (ht : eval (.Call (.Attribute o m apos) (e :: es) [] pos) X.env = (do
      let ov ← eval o X.env
      standAt apos.atName
      let (f, first) ← holding [ov] (getMethod ov m pl)
      callWith pos f first (backTo pos (starEach (e :: es) X.env)) (backToKw pos (keywordEach [] X.env))) := by rfl) :
    PE X (.Call (.Attribute o m apos) (e :: es) [] pos) (tSMeth C sp E ta t) := by
  refine ⟨fun pins s σ H Q I h => ?_⟩
  refine PySem.W.methodCall_KW (pl := pl) (thn (he.run pins s σ H _ I h) fun u s1 ⟨x, H1, I1, rx, ex, q⟩ => ?_) ht
  subst ex
  obtain rfl : u = Value.ref C := rx
  refine getmethsm_ok I1 r c fun s2 I2 => ?_
  refine PySem.W.callWith_K (h₀ := X.base) (first := []) I.ok.mod.kin c.kp (thn (ha.run pos pins s2 σ H1 _ I2 q) fun us s3 ⟨vs, H2, I3, rv, q2⟩ => ⟨I3.kIn, ?_⟩) hst hpl
  exact run_fn F hr hb .nil hx I3 rv (by rw [List.append_nil]; exact q2)
theorem pe_smethK (he : PE X o ta) (r : CRead X.K C mc) (c : CStat X.K C mc m p g) (F : FnOk X.prog X.w X.K X.mg X.base CX k g fd ps sp) (hr : Room k X.A) (hb : KBinds X.K fd ps ks gg gV) (hx : Passes CX X E) (hkw : PK X kws tk)
    (hall : (backToKw pos (keywordEach kws X.env)).all (·.1.isSome) = true := by rfl) (hks : (backToKw pos (keywordEach kws X.env)).filterMap (·.1) = ks := by rfl)
    (hpl : ((backTo pos (starEach [] X.env)).any (·.1) || (backToKw pos (keywordEach kws X.env)).any (·.1.isNone)) = false := by rfl)
    (ht : eval (.Call (.Attribute o m apos) [] kws pos) X.env = (do
      let ov ← eval o X.env
      standAt apos.atName
      let (f, first) ← holding [ov] (getMethod ov m pl)
      callWith pos f first (backTo pos (starEach [] X.env)) (backToKw pos (keywordEach kws X.env))) := by rfl) :
    PE X (.Call (.Attribute o m apos) [] kws pos) (tSMethK C sp gV E ta tk) := by
  refine ⟨fun pins s σ H Q I h => ?_⟩
  refine PySem.W.methodCall_KW (pl := pl) (thn (he.run pins s σ H _ I h) fun u s1 ⟨x, H1, I1, rx, ex, q⟩ => ?_) ht
  subst ex
  obtain rfl : u = Value.ref C := rx
  refine getmethsm_ok I1 r c fun s2 I2 => ?_
  refine PySem.W.callWith_KW0 (h₀ := X.base) I.ok.mod.kin c.kp hall ?_ hpl
  refine thn (hkw.run pos pins s2 σ H1 _ I2 q) fun ws s3 ⟨zs, H2, I3, rz, q2⟩ => ⟨I3.kIn, ?_⟩
  rw [hks]
  exact run_fnk (us := []) F hr hb hx I3 .nil rz q2
end
/-- how keywords alone bind, from how they bind at all -/
theorem kbn {K : PySem.W.Frag} {fd : FuncData} {ps ks : List Str} {g : List Value → List Value → List Value} {gV : List V → List V → List V} {n : Nat} (h : KBinds K fd ps ks g gV) (hl : ∀ us ws, us.length = n → ws.length = ks.length → (g us ws).length = ps.length) : KBn K fd ps n ks g gV :=
  ⟨fun s us ws X h1 h2 => h.to s us ws X (hl us ws h1 h2), h.rel⟩
/-- a class's own __str__ -/
structure OwnStrC (K : PySem.W.Frag) (C f : Addr) : Prop where
  st : PySem.W.findIn K (.ref C) "__str__" = some (some (.ref f))
  fn : PySem.W.isFn K (.ref f) = true
section
variable {prog : Program} {w : World} {A : Around} {E : Value → Shared → Prop} {s : Shared} {K : PySem.W.Frag} {x C f : Addr} {ox : Obj} {od : Option Obj}
open PySem.W PySem.Builtin PySem.Builtin.Str in
theorem str_own {Q : Value → Shared → Prop} (hu : A.in1.in1.units < cLine) (X : K.In s.heap) (I : InstAt s.heap x ox C od) (hs : findIn K (.ref C) "__str__" = some (some (.ref f))) (hf : isFn K (.ref f) = true)
    (h : wpAny (model prog w) A.in1.in1 (call (.ref f) [.ref x]) (StrBack Q) E s) : wpAny (model prog w) A (call (.type "str") [.ref x]) Q E s := by
  refine callType_codes (T := "str") (Bi := Builtin.«object.__init__») (Q₁ := fun r s₁ => ∃ y u, r = .str y u ∧ Q r s₁) PySem.F.called_str (PySem.F.typeCall_str_1 _) PySem.F.entry_object_init ?_ ?_
  · refine codeAny_of_tree ?_
    show wpAny _ A.in1.in1 (do checkBuiltinCall "str.__new__" ⟨[.type "str", .ref x], []⟩; again (.builtin "str.__new__" ⟨[.type "str", .ref x], []⟩)) _ _ s
    refine wpAny_bind (wpAny_of_eq (PySem.F.newCall_str_1 _) (wpAny_pure ⟨plainId_quiet (by decide +kernel) _, codeAny_builtin PySem.F.entry_str_new ?_⟩))
    rw [Around.under_plainId (by decide +kernel) _]
    rw [str_new_tree]
    refine wpAny_bind (wpAny_pure ?_)
    refine wpAny_bind (wpAny_of_eq isSubtype_str_str ?_)
    have key : wpAny (model prog w) A.in1.in1 (PySem.Builtin.Str.strOf (.ref x)) (fun r s₁ => ∃ y u, r = .str y u ∧ Q r s₁) E s := by
      unfold PySem.Builtin.Str.strOf
      rw [show isExactStr (.ref x) = false from rfl]
      refine wpAny_bind (m := cRoomFor _ _) (wpAny_cRoomFor hu ?_)
      refine wpAny_bind (m := callSpecial? (.ref x) (Str.ofString "__str__")) (special_fn X I hs (beq_iff_eq.mp hf) (wpAny_mono h (fun r s' z => ?_) fun _ _ y => y))
      cases r <;> first | exact z.elim | exact wpAny_pure ⟨_, _, rfl, z⟩
    exact wpAny_bind (wpAny_mono key (fun r s₁ hr => wpAny_pure hr) fun _ _ y => y)
  · rintro obj s₁ ⟨y, u, rfl, hq⟩
    exact ⟨typeIs_str _ _ _, PySem.F.args_object_init_2 _ _, object_init_meets PySem.F.called_str.init.lookup PySem.F.called_str.made (by decide) prog w A.in1 _ s₁ ⟨typeIs_str _ _ _, rfl, hq⟩⟩
end
/-- str(o), o an instance of the class at C -/
def rStrO (C : Addr) (sp : Sp) (E : XK) : List V → Hp → VK → Prop := fun xs H Q => ∃ a dx fs, xs = [.ref a] ∧ H a = some (.ins C dx fs) ∧ sp [.ref a] H (fun v H' => ∃ z, v = .str z ∧ Q (.str z) H') E
section
variable {X : Cx} {n : Nat} {CX : CXT} {C f : Addr} {fd : FuncData} {ps : List Str} {sp : Sp} {E : XK}
theorem call_strO (F : FnOk X.prog X.w X.K X.mg X.base CX n f fd ps sp) (O : OwnStrC X.K C f) (hb : L2.Binds X.K fd ps []) (hx : Passes CX X E) (hr : Room (n + 2) X.A) : CallR X (.type "str") (rStrO C sp E) := by
  intro pins s σ H xs us Q I r h
  obtain ⟨a, dx, fs, rfl, ha, h⟩ := h
  rw [Vals.ref1 r]
  obtain ⟨mA, J, _⟩ := ins_get I.hok ha
  obtain ⟨od, J, _⟩ := J.look
  refine str_own hr.in1.in1.units0 I.kIn J O.st O.fn ?_
  refine wpAny_mono (sub_run F hb hx ⟨hr.in1.in1, rfl⟩ I (Paired.cons (show L2.RelV (.ref a) (.ref a) from rfl) .nil) h) (fun r s' q => ?_) fun _ _ z => z
  obtain ⟨z, H', I', rz, y, rfl, q⟩ := q
  obtain ⟨t, rfl⟩ := (show ∃ t, r = Value.str y t from rz)
  exact ⟨.str y, H', I', ⟨_, rfl⟩, q⟩
end
end OB
/-! An own class, as the top leaves it; what an object of it is when it is asked for its kind. -/
namespace OB
open PySem PySem.Spec PyProof.Rows L2 ClX
structure OwnC (K : PySem.W.Frag) (mg : Str → Option Value) (x : Str) (C fI : Addr) : Prop where
  cl : Cls K C
  g : mg x = some (.ref C)
  made : Mk K C fI
  ha : PySem.W.findIn K (.ref C) "__class__" = some (some (.builtin "object.__class__"))
  hn : PySem.W.specialIn K (.builtin "object.__class__") "__get__" = some (some (.builtin "getset_descriptor.__get__"))
  ht : PySem.W.takesIn K (.builtin "object.__class__") = some true
  hm : PySem.W.mroIn K C (.type "object") = some true
  self : PySem.W.kitOne K (.ref C) (.ref C) = some true
  no : ∀ n ∈ ["NoneType", "int", "bool", "str", "list", "tuple", "dict"], PySem.W.kitOne K (.type n) (.ref C) = some false
  sT : PySem.W.subIn K (.type "tuple") (.ref C) = some false
section
variable {K : PySem.W.Frag} {mg : Str → Option Value} {x : Str} {C fI : Addr}
theorem OwnC.ty (Z : OwnC K mg x C fI) {H : Hp} {a dx : Addr} {fs : List (Str × V)} (e : H a = some (.ins C dx fs)) : TyX K H (.ref a) (.ref C) := .base (.ins e Z.cl Z.ha Z.hn Z.ht Z.hm)
/-- a value is no object of the class -/
def NotO (K : PySem.W.Frag) (C : Addr) (H : Hp) (y : V) : Prop := ∃ t, TyX K H y t ∧ PySem.W.kitOne K t (.ref C) = some false
theorem OwnC.non (Z : OwnC K mg x C fI) {H : Hp} : NotO K C H .non := ⟨_, .base .non, Z.no _ (by decide)⟩
theorem OwnC.int (Z : OwnC K mg x C fI) {H : Hp} (i : Int) : NotO K C H (.int i) := ⟨_, .base (.int i), Z.no _ (by decide)⟩
theorem OwnC.bl (Z : OwnC K mg x C fI) {H : Hp} (i : Bool) : NotO K C H (.bl i) := ⟨_, .base (.bl i), Z.no _ (by decide)⟩
theorem OwnC.str (Z : OwnC K mg x C fI) {H : Hp} (i : Str) : NotO K C H (.str i) := ⟨_, .base (.str i), Z.no _ (by decide)⟩
theorem OwnC.lst (Z : OwnC K mg x C fI) {H : Hp} {a : Addr} {xs : List V} (e : H a = some (.lst xs)) : NotO K C H (.ref a) := ⟨_, .base (.lst e), Z.no _ (by decide)⟩
theorem OwnC.tup (Z : OwnC K mg x C fI) {H : Hp} {a : Addr} {xs : List V} (e : H a = some (.tup xs)) : NotO K C H (.ref a) := ⟨_, .base (.tup e), Z.no _ (by decide)⟩
theorem OwnC.dK (Z : OwnC K mg x C fI) {H : Hp} {a : Addr} {xs : List (Key × V)} (e : H a = some (.dK xs)) : NotO K C H (.ref a) := ⟨_, .base (.dK e), Z.no _ (by decide)⟩
end
end OB
/-! A call by keywords alone that may raise. -/
namespace OB
open PySem PySem.Spec PyProof.Rows L2
section
variable {X : Cx} {CX : CXT} {k : Nat} {f : Addr} {fd : FuncData} {ps ks : List Str} {sp : Sp} {E : L2.St → XK} {x : Str} {p pos : Pos} {e : Expr} {es : List Expr} {kws : List Keyword} {t tk : TA} {g : List Value → List Value → List Value} {gV : List V → List V → List V}
def tCallKS (sp : Sp) (gV : List V → List V → List V) (E : L2.St → XK) (t tk : TA) : TE := fun σ H Q => t σ H fun vs H1 => tk σ H1 fun zs H2 => sp (gV vs zs) H2 Q (E σ)
theorem run_fnkS {pins : List (Addr × Obj)} {σ : L2.St} {H : Hp} {s : Shared} {Q : VK} {us ws : List Value} {vs zs : List V} {E : XK} (F : FnOk X.prog X.w X.K X.mg X.base CX k f fd ps sp) (hr : Room k X.A) (hb : KBinds X.K fd ps ks g gV) (hx : PassesAt CX X σ E)
    (I : Inv X pins σ H s) (r : Vals vs us) (rz : Vals zs ws) (h : sp (gV vs zs) H Q E) : wpAny (model X.prog X.w) X.A (call (.ref f) us (ks.zip ws)) (EP X pins σ Q) X.xe s := by
  have r2 := hb.rel r rz
  have hl : (g us ws).length = ps.length := r2.length ▸ F.len _ _ _ _ h
  refine wpAny_call (codeAny_mono (F.run X.A X.stack s H ⟨us, ks.zip ws⟩ (g us ws) (gV vs zs) Q E hr I.env0 (hb.to s us ws I.kIn hl) r2 h) fun res s' hq => ?_)
  match res, hq with
  | .error _, hq => exact hx pins H s _ s' I hq
  | .ok (.ret _), hq => exact I.after hq
theorem pe_callKoS (F : FnOk X.prog X.w X.K X.mg X.base CX k f fd ps sp) (hr : Room k X.A) (hg : Gl X x) (hm : X.mg x = some (.ref f)) (hk : PySem.W.keepIn X.K (.ref f) = true) (hb : KBinds X.K fd ps ks g gV) (hx : ∀ σ, PassesAt CX X σ (E σ))
    (hkw : PK X kws tk) (hall : (backToKw pos (keywordEach kws X.env)).all (·.1.isSome) = true := by rfl) (hks : (backToKw pos (keywordEach kws X.env)).filterMap (·.1) = ks := by rfl)
    (hdb : (x == ("__debug__" : Str)) = false := by decide)
    (hpl : ((backTo pos (starEach [] X.env)).any (·.1) || (backToKw pos (keywordEach kws X.env)).any (·.1.isNone)) = false := by rfl) :
    PE X (.Call (.Name x p) [] kws pos) (tCallKS sp gV E tNil tk) := by
  refine ⟨fun pins s σ H Q I h => wpAny_Call_Name_kw (ld_glob I hg hm ?_ hdb)⟩
  refine PySem.W.callWith_KW0 (h₀ := X.base) I.ok.mod.kin hk hall ?_ hpl
  refine thn (hkw.run pos pins s σ H _ I h) fun ws s2 ⟨zs, H2, I2, rz, q2⟩ => ⟨I2.kIn, ?_⟩
  rw [hks]
  exact run_fnkS (us := []) F hr hb (hx σ) I2 .nil rz q2
end
/-- some of a list, by their places -/
def pm {α : Type} : List Nat → List α → List α
  | [], _ => []
  | i :: r, l => match l[i]? with
    | some x => x :: pm r l
    | none => pm r l
theorem pm_vals {vs : List V} {us : List Value} (h : Vals vs us) : ∀ is, Vals (pm is vs) (pm is us)
  | [] => .nil
  | i :: r => by
    unfold pm
    cases e : vs[i]? with
    | none =>
      have e2 : us[i]? = none := by
        rw [List.getElem?_eq_none_iff] at e ⊢
        rw [← h.length]
        exact e
      rw [e2]
      exact pm_vals h r
    | some x =>
      obtain ⟨u, hu, ru⟩ := h.get e
      rw [hu]
      exact .cons ru (pm_vals h r)
/-- keywords alone, in any order -/
def kg {α : Type} (is : List Nat) : List α → List α → List α
  | [], ws => pm is ws
  | _ :: _, _ => []
theorem kg_vals {is : List Nat} {vs : List V} {us : List Value} {zs : List V} {ws : List Value} (h : Vals vs us) (r : Vals zs ws) : Vals (kg is vs zs) (kg is us ws) := by
  cases h with
  | nil => exact pm_vals r is
  | cons _ _ => exact .nil
/-- .. behind the object itself -/
def kg1 {α : Type} (is : List Nat) : List α → List α → List α
  | [x], ws => x :: pm is ws
  | _, _ => []
theorem kg1_vals {is : List Nat} {vs : List V} {us : List Value} {zs : List V} {ws : List Value} (h : Vals vs us) (r : Vals zs ws) : Vals (kg1 is vs zs) (kg1 is us ws) := by
  cases h with
  | nil => exact .nil
  | cons a b =>
    cases b with
    | nil => exact .cons a (pm_vals r is)
    | cons _ _ => exact .nil
end OB
/-! repr of a text; numbers as items of texts. -/
namespace OB
open PySem PySem.Spec PyProof.Rows L2
section
variable {X : Cx}
def rReprS : List V → Hp → VK → Prop := fun xs H Q => ∃ z : Str, xs = [.str z] ∧ z.length ≤ 1000000 ∧ (∀ c ∈ z.cps.toList, c < 16 ^ 8) ∧ Q (.str (reprText z)) H
theorem call_reprS : CallR X (.builtin "repr") rReprS := by
  intro pins s σ H xs us Q I r h
  obtain ⟨z, rfl, hz, hc, q⟩ := h
  obtain ⟨u, rfl, t, rfl⟩ := vals1 r
  refine PySem.P.repr_of_str ⟨.str _, H, I.tok _, ⟨_, rfl⟩, q⟩ ?_
  have := PySem.StrLaws.reprText_len z hc
  rw [sizeLine_eq]
  omega
end
/-- how a number from 0 on is written -/
def ds (n : Nat) : Str := toString (n : Int)
/-- what the small ones are like -/
theorem ds_small : ∀ n < 256, Txt.removeprefix (ds n) "-" = ds n ∧ Txt.isascii (ds n) = true ∧ Txt.isdigit (ds n) = true ∧ (ds n).length ≤ 3 ∧ (Txt.startswith (ds n) "0" = true → n = 0) ∧ PySem.intText? (ds n) = some (n : Int) ∧ ds n ≠ "-" ∧ (∀ c ∈ (ds n).cps.toList, c ≠ 32 ∧ c < 256) := by decide +kernel
end OB
/-! repr of nested data of None, truths, ints, texts, lists and tuples: a bound of its length that is reckoned part by part. -/
namespace OB
open PySem PySem.Spec PyProof.Rows L2
mutual
/-- a bound for the length of the text -/
def sz : PyData → Nat
  | .none => 4
  | .bool _ => 5
  | .int _ => 1921
  | .str x => 10 * x.length + 2
  | .list xs => szAll xs + 2
  | .tuple xs => szAll xs + 2
  | .dict _ => 0
def szAll : List PyData → Nat
  | [] => 0
  | x :: xs => sz x + 2 + szAll xs
end
mutual
/-- ints that are not too great, texts of signs; no dict -/
def nice : PyData → Bool
  | .none | .bool _ => true
  | .int i => decide (i.natAbs.log2 < 1920)
  | .str x => x.cps.toList.all fun c => decide (c < 1114112)
  | .list xs | .tuple xs => niceAll xs
  | .dict _ => false
def niceAll : List PyData → Bool
  | [] => true
  | x :: xs => nice x && niceAll xs
end
mutual
theorem nice_show : ∀ d, nice d = true → d.showable = true
  | .none, _ => by simp [PyData.showable]
  | .bool _, _ => by simp [PyData.showable]
  | .int _, h => by simpa [nice, PyData.showable] using h
  | .str _, _ => by simp [PyData.showable]
  | .list xs, h => by
    have := niceAll_show xs (by simpa [nice] using h)
    simpa [PyData.showable] using this
  | .tuple xs, h => by
    have := niceAll_show xs (by simpa [nice] using h)
    simpa [PyData.showable] using this
  | .dict _, h => by simp [nice] at h
theorem niceAll_show : ∀ ds, niceAll ds = true → PyData.showableAll ds = true
  | [], _ => by simp [PyData.showableAll]
  | x :: xs, h => by
    have h : nice x = true ∧ niceAll xs = true := by simpa [niceAll] using h
    have h1 := nice_show x h.1
    have h2 := niceAll_show xs h.2
    simp [PyData.showableAll, h1, h2]
end
mutual
theorem shown_sz : ∀ d, nice d = true → d.shown.length ≤ sz d
  | .none, _ => by decide +kernel
  | .bool b, _ => by cases b <;> decide +kernel
  | .int i, h => int_text_len_1921 (by simpa [nice] using h)
  | .str x, h => PySem.StrLaws.reprText_len x fun c hc => by
    have h : (x.cps.toList.all fun c => decide (c < 1114112)) = true := h
    have := of_decide_eq_true (List.all_eq_true.mp h c hc)
    have : (1114112 : Nat) < 16 ^ 8 := by decide
    omega
  | .list xs, h => by
    have a := shownAll_sz xs (by simpa [nice] using h)
    have b := list_len (PyData.shownAll xs)
    show (listText (PyData.shownAll xs)).length ≤ szAll xs + 2
    omega
  | .tuple xs, h => by
    have a := shownAll_sz xs (by simpa [nice] using h)
    have b := fmt_text (PyData.shownAll xs)
    show (tupleText (PyData.shownAll xs)).length ≤ szAll xs + 2
    omega
  | .dict _, h => by simp [nice] at h
theorem shownAll_sz : ∀ ds, niceAll ds = true → piled (PyData.shownAll ds) ≤ szAll ds
  | [], _ => Nat.le_refl _
  | x :: xs, h => by
    have h : nice x = true ∧ niceAll xs = true := by simpa [niceAll] using h
    have h1 := shown_sz x h.1
    have h2 := shownAll_sz xs h.2
    show piled (x.shown :: PyData.shownAll xs) ≤ sz x + 2 + szAll xs
    rw [piled_cons]
    omega
end
theorem nice_ints : ∀ ns : List Int, (∀ n ∈ ns, n.natAbs.log2 < 1920) → niceAll (ns.map PyData.int) = true
  | [], _ => by simp [niceAll]
  | n :: r, h => by
    have h1 := h n List.mem_cons_self
    have h2 := nice_ints r fun x hx => h x (List.mem_cons_of_mem _ hx)
    simp [niceAll, nice, h1, h2]
theorem sz_ints : ∀ ns : List Int, szAll (ns.map PyData.int) = 1923 * ns.length
  | [] => rfl
  | n :: r => by
    have := sz_ints r
    show 1921 + 2 + szAll (r.map PyData.int) = _
    rw [List.length_cons]
    omega
section
variable {X : Cx}
/-- repr of nested data -/
def rReprN (K : PySem.W.Frag) : List V → Hp → VK → Prop := fun xs H Q => ∃ (a : Addr) (d : PyData), xs = [.ref a] ∧ Dp K H (.ref a) d ∧ nice d = true ∧ d.canLay0 = true ∧ d.depth ≤ 60 ∧ sz d ≤ 16000000 ∧ Q (.str d.shown) H
theorem call_reprN (hgd : X.A.guards = some []) (hu : X.A.units + 64 < cLine) : CallR X (.builtin "repr") (rReprN X.K) := by
  intro pins s σ H xs us Q I r h
  obtain ⟨a, d, rfl, hd, hn, hl, hdp, hz, q⟩ := h
  refine call_reprD hgd hu pins s σ H _ us Q I r ⟨a, d, rfl, hd, nice_show d hn, hl, hdp, ?_, q⟩
  have := shown_sz d hn
  rw [sizeLine_eq]
  omega
end
end OB
/-! sorted(set(x)) of a list or a tuple of ints, doubles among them. -/
namespace OB
open PySem PySem.Spec PyProof.Rows L2 SrtO Builtin
section
variable {P : Program} {w : World} {A : Around} {E : Value → Shared → Prop} {s : Shared}
abbrev setObj (w : World) : Obj := { cls := .type "set", dict := none, data := .set #[] 0 (.fresh 0 0 (!w.params.followText "set-order")) }
set_option maxHeartbeats 6400000 in
/-- set(x), x a list of ints -/
theorem set_of_list {l : Addr} {items : Array Value} (ns : List Int) {Q : Value → Shared → Prop} (hh : A.handled = none) (hl : s.heap.IsList l items) (hit : IntsAre items.toList ns) (hb : ns.length + 1 < scanBound)
    (h : ∀ (h' : Heap) (tk c : Nat), SetR w h' s.heap.objs.size (fun j => decide (j ∈ ns)) c → c ≤ ns.length → (∀ b o, s.heap.get? b = some o → h'.get? b = some o) → Q (.ref s.heap.objs.size) { s with heap := h', toks := tk }) :
    wpAny (model P w) A (call (.type "set") [.ref l]) Q E s := by
  have sz : items.size = ns.length := by
    have q := IntsAre.length hit
    rwa [Array.length_toList] at q
  obtain ⟨c, tl, hmro⟩ := F.called_set.mro
  have f1 := F.called_set.made
  have f2 := F.called_set.sub
  refine wpAny_call (codeAny_of_tree ?_)
  show wpAny _ _ (callAny (.type "set") _) _ _ _
  refine wpAny_pure ⟨Code.quiet_builtin _ (by decide +kernel), codeAny_builtin F.entry_type_call ?_⟩
  rw [Around.under_plain (weight_type_call_type "set" [.ref l] []) rfl]
  have f3 := F.called_set.notType
  have f4 := F.called_set.canCreate
  have f5 := F.typeCall_set_1 (.ref l)
  repeat (any_goals (first | assumption | wp_step))
  refine codeAny_mono (code_set_led1 (.ref l) (E := E) (Q₁ := fun z t => z = .ref s.heap.objs.size ∧ t = { s with heap := s.heap.push (setObj w) }) ⟨rfl, rfl⟩) fun r s₁ hr => ?_
  cases r with
  | error e => exact hr
  | ok fl =>
    cases fl with
    | ret obj =>
      obtain ⟨rfl, rfl⟩ := hr
      have hS : (s.heap.push (setObj w)).get? s.heap.objs.size = some (setObj w) := Heap.get?_push_size _ rfl
      have hT : Shared.TypeIs { s with heap := s.heap.push (setObj w) } (.ref s.heap.objs.size) "set" := ⟨_, hS, rfl⟩
      have f6 := F.called_set.init.lookup
      have f7 := F.called_set.init.bind (.ref s.heap.objs.size)
      repeat (any_goals (first | assumption | wp_step))
      refine codeAny_mono (codeAny_call_builtin (R := wants (fun r t => r = .none ∧ ∃ h' tk c, t = { s with heap := h', toks := tk } ∧ SetR w h' s.heap.objs.size (fun j => decide (j ∈ ns)) c ∧ c ≤ ns.length ∧
          (∀ b o, s.heap.get? b = some o → h'.get? b = some o)) E) F.called_set.init.plain F.entry_set_init (check_set_init_1 hT ?_)) fun r₂ s₂ hr₂ => ?_
      · have hlt : l < s.heap.objs.size := by
          obtain ⟨o, e, _⟩ := hl
          exact Heap.lt_size e
        have hl1 : (s.heap.push (setObj w)).IsList l items := hl.push _
        have n1 := F.sub_list_set
        have n2 := F.sub_list_frozenset
        have n3 : (Value.type "list" == Value.type "dict") = false := by decide
        obtain ⟨ol, e0, cl, nl, dl⟩ := id hl1
        unfold Builtin.«set.__init__» noKeywords Builtin.Frozenset.updateFrom
        generalize hPI : pyIter = PI
        obtain ⟨oc, od, dt, os⟩ := ol
        simp only at cl dl
        subst cl dl
        wp_walk
        subst hPI
        refine wpAny_pyIter_list hl1 ?_
        refine wpAny_bind (wpAny_runValue ?_)
        have ne : l ≠ (s.heap.push (setObj w)).objs.size := by
          rw [Heap.size_push]
          exact Nat.ne_of_lt (Nat.lt_succ_of_lt hlt)
        have hSf : s.heap.objs.size ∉ [(s.heap.push (setObj w)).objs.size, l] := by
          rw [Heap.size_push]
          simp only [List.mem_cons, List.mem_singleton, List.not_mem_nil, or_false, not_or]
          exact ⟨Nat.ne_of_lt (Nat.lt_succ_self _), Nat.ne_of_gt hlt⟩
        have hval : ∀ (i : Nat) (v : Value), items[i]? = some v → ∃ k t, ns[i]? = some k ∧ v = .int k t := fun i v hv => by
          have hi : i < ns.length := by
            rw [← sz]
            exact (Array.getElem?_eq_some_iff.mp hv).1
          obtain ⟨t, e⟩ := PyProof.Rows.IntsAre.int_at hit i v (by rw [Array.getElem?_toList]; exact hv)
          refine ⟨ns[i], t, List.getElem?_eq_getElem hi, ?_⟩
          rw [e, List.getD_eq_getElem?_getD, List.getElem?_eq_getElem hi] <;> rfl
        have h3 : A.in1.in1.in1.handled = none := by simp [hh]
        refine set_update_ints ((Walks.list h3 _ l ne items).toS) s.heap.objs.size hSf ns sz hb hval (items.size - 0) 0 _ (by omega) (Nat.zero_le _) ⟨⟨_, Heap.get?_push_size _ rfl, rfl, rfl⟩, (hl1.push _)⟩ ⟨0, Nat.le_refl 0, setR_new_at (Heap.get?_push_of_some _ hS)⟩ ?_
        intro t c' hm hc' hS'
        obtain ⟨h', g2, d', tk', os'⟩ := t
        have eg : g2 = s.gens := hm.gens
        have ed : d' = s.drawn := hm.drawn
        have eo : os' = s.os := hm.os
        subst eg ed eo
        rw [sz] at hc'
        refine wpAny_pure (wpAny_pure ⟨rfl, h', tk', c', rfl, hS', hc', fun b o e => ?_⟩)
        have b0 : b < s.heap.objs.size := Heap.lt_size e
        refine hm.heap b o ?_ (Heap.get?_push_of_some _ (Heap.get?_push_of_some _ e))
        rw [Heap.size_push]
        simp only [List.mem_cons, List.mem_singleton, List.not_mem_nil, or_false, not_or]
        exact ⟨Nat.ne_of_lt b0, Nat.ne_of_lt (Nat.lt_succ_of_lt b0)⟩
      · cases r₂ with
        | error e => exact hr₂
        | ok fl₂ =>
          cases fl₂ with
          | ret r =>
            obtain ⟨rfl, h', tk, c', rfl, k1, k2, k3⟩ := hr₂
            repeat (any_goals (first | assumption | wp_step))
            exact h _ _ _ k1 k2 k3
          | _ => exact hr₂.elim
    | _ => exact hr.elim
/-- sorted(x), x a set of ints -/
theorem sorted_of_set {a : Addr} {S : Int → Bool} {n : Nat} {Q : Value → Shared → Prop} (R : SetR w s.heap a S n) (hh : A.handled = none)
    (hQ : ∀ s' p (out : Array Value) (c : Nat) (ns : List Int), (∀ b o, s.heap.get? b = some o → s'.heap.get? b = some o) → s'.gens = s.gens → s'.os = s.os → s.heap.objs.size ≤ p →
      s'.heap.get? p = some (seqObj "list" out c) → IntsAre out.toList ns → ns.Pairwise (· < ·) → (∀ k, k ∈ ns ↔ S k = true) → ns.length ≤ sizeLine → Q (.ref p) s') :
    wpAny (model P w) A (call (.builtin "sorted") [.ref a]) Q E s := by
  obtain ⟨o, es, ep, t, ho, hex, hd, g, nd, hm, hb, hf, hn, hr, hl⟩ := R
  refine Calls.call_function_entry kind_sorted plain_sorted entry_sorted (args_sorted1 _) ?_
  unfold Builtin.«sorted»
  refine wpAny_bind (m := checkCount "sorted" 1 1 _) (wpAny_pure ?_)
  refine wpAny_bind (collect_set (A := A.in1) hh ⟨o, ho, hex.1, hd⟩ hf hb hr hl fun s1 vs k1 hz g1 o1 pm => ?_)
  have vl : vs.length = n := by rw [pm.length_eq, List.length_map, Array.length_toList]; exact hn
  have sl : vs.length ≤ sizeLine := by
    rw [vl, ← hn]
    have : scanBound ≤ sizeLine := by decide +kernel
    omega
  have hI : IntsAre vs (vs.map Builtin.Re.reRawOf) := ints_of vs fun v hv => by
    obtain ⟨e, he, q⟩ := List.mem_map.mp (pm.mem_iff.mp hv)
    obtain ⟨k, tk, h1, _⟩ := g e he
    exact ⟨k, tk, by rw [← q]; exact h1⟩
  have pk : (vs.map Builtin.Re.reRawOf).Perm (es.toList.map keyOf) := by
    have q := pm.map Builtin.Re.reRawOf
    rwa [List.map_map] at q
  refine wpAny_bind (wpAny_newList ?_ sl)
  have hoL : (s1.heap.push (seqObj "list" vs.toArray 0)).get? s1.heap.objs.size = some (seqObj "list" vs.toArray 0) := Heap.get?_push_size _ rfl
  refine wpAny_bind (wpAny_holding (wpAny_call_entry slot_list_sort ⟨_, hoL, rfl⟩ entry_list_sort (list_sort_ord swo_int hoL sl (fun h2 => ints_sortable hI h2) fun out a1 a2 => ⟨_, rfl, ?_⟩) (args_list_sort _)))
  obtain ⟨i1, i2, i3⟩ := ints_out hI a1 a2
  obtain ⟨c, hc⟩ := sortedHeap_at (vs := vs) (out := out.toArray) hoL
  have pn : (out.map iv).Perm (es.toList.map keyOf) := i2.trans pk
  refine wpAny_pure ⟨_, rfl, hQ _ s1.heap.objs.size out.toArray c (out.map iv) (fun b u e => ?_) g1 o1 hz hc (by simpa using i1) (lt_of_le_nodup _ i3 (pn.nodup_iff.mpr nd)) (fun k => by rw [pn.mem_iff, ← hm k]) ?_⟩
  · have q := k1 b u e
    have hlt := Heap.lt_size q
    show (sortedHeap (s1.heap.push (seqObj "list" vs.toArray 0)) s1.heap.objs.size vs out.toArray).get? b = some u
    rw [sortedHeap_old (Nat.ne_of_lt hlt) (by rw [size_push']; exact Nat.lt_succ_of_lt hlt)]
    exact Heap.get?_push_of_some _ q
  · rw [i2.length_eq, List.length_map]
    exact sl
end
theorem sorted_set_ep {X : Cx} {pins : List (Addr × Obj)} {σ : L2.St} {H : Hp} {s : Shared} {a : Addr} {S : Int → Bool} {n : Nat} {Q : VK} (hc : X.calm = true) (I : Inv X pins σ H s) (R : SetR X.w s.heap a S n)
    (h : ∀ (ms : List Int) (q : Addr), ms.Pairwise (· < ·) → (∀ k, k ∈ ms ↔ S k = true) → H q = none → Q (.ref q) (upd H q (.lst (ms.map V.int)))) : wpAny (model X.prog X.w) X.A (call (.builtin "sorted") [.ref a]) (EP X pins σ Q) X.xe s := by
  refine sorted_of_set R (I.ok.hd hc) fun s' p out c ms k2 g o hp hg hi hs hm hl2 => ?_
  have hz : (ms.map V.int).length ≤ sizeLine := by rw [List.length_map]; exact hl2
  have hn : H p = none := I.hok.fresh hp
  have J : Inv X pins σ (upd H p (.lst (ms.map V.int))) { s with heap := s'.heap, gens := s'.gens, drawn := s'.drawn, toks := s'.toks } :=
    I.call (ch := []) (Un.laid k2 hp hn) (I.hok.laid k2 hp ⟨hz, out.toList, c, vals_of_ints hi, hg⟩) (by rw [g]; exact I.bare) (fun _ z => nomatch z)
  have e : s' = { s with heap := s'.heap, gens := s'.gens, drawn := s'.drawn, toks := s'.toks } := by
    cases s'
    cases s
    cases o
    rfl
  rw [e]
  exact ⟨.ref p, _, J, rfl, h ms p hs hm hn⟩
/-- the unlike ints of x, ascending -/
def tSortedSet (K : PySem.W.Frag) (ta : TE) : TE := fun σ H Q => ta σ H fun x H1 => ∃ (p : Addr) (ns : List Int), x = .ref p ∧ (SqL K H1 p (ns.map V.int) ∨ SqT K H1 p (ns.map V.int)) ∧ ns.length ≤ 2000 ∧
  ∀ (ms : List Int) (q : Addr), ms.Pairwise (· < ·) → (∀ k, k ∈ ms ↔ k ∈ ns) → H1 q = none → Q (.ref q) (upd H1 q (.lst (ms.map V.int)))
theorem pe_sortedSet {X : Cx} {a : Expr} {ta : TE} {p p2 q pos : Pos} (hg : Gl X "sorted") (hm : X.mg "sorted" = none) (hg2 : Gl X "set") (hm2 : X.mg "set" = none) (ha : PE X a ta) (hc : X.calm = true := by rfl)
    (na : starEach [a] X.env = (false, eval a X.env) :: starEach [] X.env := by rfl) : PE X (.Call (.Name "sorted" p) [.Call (.Name "set" p2) [a] [] q] [] pos) (tSortedSet X.K ta) := by
  refine ⟨fun pins s σ H Q I h => ?_⟩
  refine Call_ (ld_blt I hg hm boot_sorted ?_)
  refine PyProof.Rows.callWith_builtin1 (PyProof.Rows.args_cons ?_ rfl) rfl rfl
  refine Call_ (ld_blt I hg2 hm2 boot_set ?_)
  refine PyProof.Rows.callWith_type1 (PyProof.Rows.args_cons (thn (ha.run pins s σ H _ I h) fun v s1 ⟨x, H1, I1, r1, q1⟩ => PyProof.Rows.args_nil ?_) na) na rfl
  obtain ⟨l, ns, rfl, hq, hl, q1⟩ := q1
  cases r1
  have fin : ∀ (h' : Heap) (tk c : Nat), SetR X.w h' s1.heap.objs.size (fun j => decide (j ∈ ns)) c → (∀ b o, s1.heap.get? b = some o → h'.get? b = some o) →
      wpAny (model X.prog X.w) X.A (call (.builtin "sorted") [.ref s1.heap.objs.size]) (EP X pins σ Q) X.xe { s1 with heap := h', toks := tk } := by
    intro h' tk c R k
    have I2 : Inv X pins σ H1 { s1 with heap := h', toks := tk } := I1.kept fun b o e => k b o e
    exact sorted_set_ep hc I2 R fun ms q hs hm hn => q1 ms q hs (fun k => by rw [hm k, decide_eq_true_eq]) hn
  rcases hq with hq | hq
  · obtain ⟨its, r, pl, hz⟩ := I1.list hq
    exact set_of_list ns (I1.ok.hd hc) pl.isList (by simpa using ints_of_vals r) (by unfold scanBound; omega) fun h' tk c R1 hcn k => PyProof.Rows.args_nil (fin h' tk c R1 k)
  · obtain ⟨its, r, pt, hz⟩ := I1.tuple hq
    exact call_set_tupI ns (I1.ok.hd hc) (show s1.heap.IsTuple l its.toArray from pt) (ints_of_vals r) (by unfold scanBound; omega) fun h' tk c R1 hcn k => PyProof.Rows.args_nil (fin h' tk c R1 k)
end OB
namespace K25
open PySem PySem.Spec PyProof.Rows L2 OB SkE
def top (i : Nat) : Stmt := PySem.Challenge.pw_oneflip_k25_layouts_beside_one_another.main.body.getD i (.Pass ⟨0, 0, 0, 0⟩)
abbrev s_init_BadNumber : Stmt := inClass (top 2) 0
abbrev s_init_BadWord : Stmt := inClass (top 3) 0
abbrev s_init_BadLayout : Stmt := inClass (top 4) 0
abbrev s_init_Misfit : Stmt := inClass (top 5) 0
abbrev s_init_BadText : Stmt := inClass (top 6) 0
abbrev s_is_integer : Stmt := top 8
abbrev s_is_within : Stmt := top 9
abbrev s_is_list : Stmt := top 10
abbrev s_need_number : Stmt := top 11
abbrev s_items_of : Stmt := top 14
abbrev s_integer_of : Stmt := top 15
abbrev s_item_at : Stmt := top 16
abbrev s_integer_at : Stmt := top 17
abbrev s_need_end : Stmt := top 18
abbrev s_Layout_init : Stmt := inClass (top 23) 0
abbrev s_Layout_eq : Stmt := inClass (top 23) 1
abbrev s_Layout_str : Stmt := inClass (top 23) 2
abbrev s_Layout_read : Stmt := inClass (top 23) 3
abbrev s__is_meaning : Stmt := top 24
abbrev s__meaning_at : Stmt := top 25
abbrev s_need_layout : Stmt := top 26
abbrev s_need_word_of : Stmt := top 27
abbrev s_meaning_of : Stmt := top 28
abbrev s_beside_layout : Stmt := top 31
abbrev s__put_beside : Stmt := top 32
abbrev s__means_from : Stmt := top 33
abbrev s__law_fold : Stmt := top 35
abbrev s__law_herd : Stmt := top 36
abbrev s__law_one : Stmt := top 37
abbrev s__law_heard : Stmt := top 38
abbrev s__law_means : Stmt := top 39
abbrev s__law_due : Stmt := top 40
abbrev s__law_pair_right : Stmt := top 41
abbrev s__law_three_right : Stmt := top 42
abbrev s_law : Stmt := top 43
theorem sc_init_BadNumber : FnScope ["self", "part"] ["self", "part"] (defScope s_init_BadNumber) := ⟨rfl, rfl, rfl, by decide +kernel, rfl, by decide +kernel, by decide +kernel⟩
theorem sc_init_BadWord : FnScope ["self", "part"] ["self", "part"] (defScope s_init_BadWord) := ⟨rfl, rfl, rfl, by decide +kernel, rfl, by decide +kernel, by decide +kernel⟩
theorem sc_init_BadLayout : FnScope ["self", "part"] ["self", "part"] (defScope s_init_BadLayout) := ⟨rfl, rfl, rfl, by decide +kernel, rfl, by decide +kernel, by decide +kernel⟩
theorem sc_init_Misfit : FnScope ["self", "part"] ["self", "part"] (defScope s_init_Misfit) := ⟨rfl, rfl, rfl, by decide +kernel, rfl, by decide +kernel, by decide +kernel⟩
theorem sc_init_BadText : FnScope ["self", "line", "item"] ["self", "line", "item"] (defScope s_init_BadText) := ⟨rfl, rfl, rfl, by decide +kernel, rfl, by decide +kernel, by decide +kernel⟩
/-- what the module leaves as it is, and its own constants -/
structure Blt (mg : Str → Option Value) : Prop where
  g_MOST_DIGITS : ∃ t, mg "MOST_DIGITS" = some (.int 140 t)
  g_MOST_BITS : ∃ t, mg "MOST_BITS" = some (.int 8 t)
  g_MOST_STATE : ∃ t, mg "MOST_STATE" = some (.int 63 t)
  g_NOTHING : ∃ t, mg "NOTHING" = some (.str "-" t)
  g_MOST_STATES : ∃ t, mg "MOST_STATES" = some (.int 64 t)
  n_abs : mg "abs" = none
  n_all : mg "all" = none
  n_any : mg "any" = none
  n_bool : mg "bool" = none
  n_int : mg "int" = none
  n_isinstance : mg "isinstance" = none
  n_len : mg "len" = none
  n_list : mg "list" = none
  n_max : mg "max" = none
  n_min : mg "min" = none
  n_range : mg "range" = none
  n_repr : mg "repr" = none
  n_str : mg "str" = none
  n_tuple : mg "tuple" = none
section
variable {P : Program} {w : World} {K : PySem.W.Frag} {mg : Str → Option Value} {base : Heap}
/-! ### checks -/
theorem sc_is_integer : FnScope ["value"] ["value"] (defScope s_is_integer) := ⟨rfl, rfl, rfl, by decide +kernel, rfl, by decide +kernel, by decide +kernel⟩
theorem ok_is_integer {f : Addr} {fd : FuncData} (F : Fun K "is_integer" "is_integer" s_is_integer f fd) (T : Blt mg) : FnOk P w K mg base CX0 1 f fd ["value"] (spIsInt K) := by
  refine F.ok sc_is_integer (fun vs H Q E h => ?_) (fun cdv A outer s H vs Q E hr h => ?_)
  · obtain ⟨x, b, rfl, _⟩ := h
    rfl
  · obtain ⟨x, b, rfl, ⟨n, b1, b2, ty, e1, e2, e3⟩, k⟩ := h
    refine ⟨_, (pss_one (ps_ret (pe_and (pe_callB call_isi (by rfl) T.n_isinstance (by decide +kernel) (pa_cons (pv 0) (pa_cons (pe_bltn (v := .ty "int") (by rfl) T.n_int (by decide +kernel) rfl) pa_nil))) (pe_one (pe_not (pe_callB call_isi (by rfl) T.n_isinstance (by decide +kernel) (pa_cons (pv 0) (pa_cons (pe_bltn (v := .ty "bool") (by rfl) T.n_bool (by decide +kernel) rfl) pa_nil)))))))), ?_⟩
    refine ⟨x, rfl, x, .ty "int", .type n, .type "int", b1, rfl, .ty _, ty, kit_ty e1, b1, rfl, ?_⟩
    refine iteB (fun c => ?_) (fun c => ?_)
    · refine ⟨x, rfl, x, .ty "bool", .type n, .type "bool", b2, rfl, .ty _, ty, kit_ty e2, b2, rfl, ?_⟩
      rw [c] at e3
      rw [show (!b2) = b by rw [e3, Bool.true_and]]
      exact k
    · rw [c] at e3
      rw [show false = b by rw [e3, Bool.false_and]]
      exact k
theorem sc_is_within : FnScope ["value", "least", "most"] ["value", "least", "most"] (defScope s_is_within) := ⟨rfl, rfl, rfl, by decide +kernel, rfl, by decide +kernel, by decide +kernel⟩
theorem within_end {lo hi : Option Int} {x : V} {b : Bool} {Q : VK} {H : Hp} (hI : IsI K H x b) (k : Q (.bl (b && inB lo hi x)) H) (hb : b = true) : ∃ i, x = .int i ∧ Q (.bl (loOk lo i && hiOk hi i)) H := by
  subst hb
  obtain ⟨i, rfl⟩ := isI_true hI
  exact ⟨i, rfl, k⟩
theorem ok_is_within {f f1 : Addr} {fd fd1 : FuncData} (F : Fun K "is_within" "is_within" s_is_within f fd) (D_is_integer : Df K mg "is_integer" s_is_integer ["value"] f1 fd1) (T : Blt mg) : FnOk P w K mg base CX0 2 f fd ["value", "least", "most"] (spWithin K) := by
  have G_is_integer : FnOk P w K mg base CX0 1 f1 fd1 ["value"] (spIsInt K) := ok_is_integer D_is_integer.F T
  refine F.ok sc_is_within (fun vs H Q E h => ?_) (fun cdv A outer s H vs Q E hr h => ?_)
  · obtain ⟨x, lo, hi, b, rfl, _⟩ := h
    rfl
  · obtain ⟨x, lo, hi, b, rfl, hI, k⟩ := h
    refine ⟨_, (pss_cons (ps_if (pt_not (pt_val (pe_call G_is_integer (hr.mono (by decide)) (by rfl) D_is_integer.g D_is_integer.F.kp D_is_integer.b .nil pass0 (pa_cons (pv 0) pa_nil)))) (pss_one (ps_ret pe_bl)) pss_nil)
  (pss_one (ps_ret (pe_and (pe_or (pe_cmpR op_isN (pv 1) pe_non (nomark _)) (pe_one (pe_cmpR op_le (pv 1) (pv 0) (nomark _)))) (pe_one (pe_or (pe_cmpR op_isN (pv 2) pe_non (nomark _)) (pe_one (pe_cmpR op_le (pv 0) (pv 2) (nomark _))))))))), ?_⟩
    refine ⟨x, rfl, x, b, rfl, hI, b, rfl, ?_⟩
    cases b with
    | false => exact iteT k
    | true =>
      obtain ⟨i, rfl, k'⟩ := within_end hI k rfl
      clear k
      have k := k'
      clear k'
      refine iteF ?_
      refine ⟨_, rfl, rfl, _, rfl, ?_⟩
      cases lo with
      | none =>
        refine iteT ?_
        refine ⟨_, rfl, iteT ?_⟩
        refine ⟨_, rfl, rfl, _, rfl, ?_⟩
        cases hi with
        | none => exact iteT k
        | some h => exact iteF ⟨_, rfl, _, rfl, _, _, rfl, rfl, k⟩
      | some l =>
        refine iteF ?_
        refine ⟨_, rfl, _, rfl, _, _, rfl, rfl, _, rfl, ?_⟩
        refine iteB (fun c => ?_) (fun c => ?_)
        · refine ⟨_, rfl, rfl, _, rfl, ?_⟩
          have e : loOk (some l) i = true := c
          rw [e, Bool.true_and] at k
          cases hi with
          | none => exact iteT k
          | some h => exact iteF ⟨_, rfl, _, rfl, _, _, rfl, rfl, k⟩
        · have e : loOk (some l) i = false := c
          rw [e, Bool.false_and] at k
          exact k
/-! ### what raises -/
/-! ### what raises -/
theorem sc_need_number : FnScope ["value", "part", "least", "most"] ["value", "part", "least", "most"] (defScope s_need_number) := ⟨rfl, rfl, rfl, by decide +kernel, rfl, by decide +kernel, by decide +kernel⟩
theorem ok_need_number {f f1 f2 C fI : Addr} {fd fd1 fd2 fdI : FuncData} (F : Fun K "need_number" "need_number" s_need_number f fd) (D_is_within : Df K mg "is_within" s_is_within ["value", "least", "most"] f2 fd2) (D_is_integer : Df K mg "is_integer" s_is_integer ["value"] f1 fd1) (T : Blt mg)
    (R_BadNumber : Err P w K mg base "BadNumber" "part" C fI fdI) : FnOk P w K mg base (L2.CX P w) 4 f fd ["value", "part", "least", "most"] (spNeedNumber K C) := by
  have G_is_within : FnOk P w K mg base CX0 2 f2 fd2 ["value", "least", "most"] (spWithin K) := ok_is_within D_is_within.F D_is_integer T
  refine F.okX sc_need_number (fun vs H Q E h => ?_) (fun cdv A outer s H vs Q E hr h => ?_)
  · obtain ⟨x, part, lo, hi, b, rfl, _⟩ := h
    rfl
  · obtain ⟨x, part, lo, hi, b, rfl, hI, k1, k2⟩ := h
    refine ⟨_, (pss_one (ps_if (pt_not (pt_val (pe_call G_is_within (hr.mono (by decide)) (by rfl) D_is_within.g D_is_within.F.kp D_is_within.b .nil pass0 (pa_cons (pv 0) (pa_cons (pv 2) (pa_cons (pv 3) pa_nil)))))) (pss_one (ps_raise1 rfl (takes_of rfl rfl rfl rfl) R_BadNumber (hr.mono (by decide)) (by rfl) (pv 1))) pss_nil)), ?_⟩
    refine ⟨x, rfl, _, rfl, _, rfl, x, lo, hi, b, rfl, hI, _, rfl, ?_⟩
    refine iteB (fun c => ?_) (fun c => ?_)
    · have c' : (b && inB lo hi x) = false := by
        cases e : (b && inB lo hi x) with
        | false => rfl
        | true => rw [e] at c; cases c
      refine ⟨.str part, rfl, ?_⟩
      refine raise1_of (W := fun cls d _ H => E cls d H) R_BadNumber.T R_BadNumber.no ?_
      exact fun d hd => k2 c' d hd
    · have c' : (b && inB lo hi x) = true := by
        cases e : (b && inB lo hi x) with
        | true => rfl
        | false => rw [e] at c; cases c
      exact k1 c'
end
end K25
namespace K25
open PySem PySem.Spec PyProof.Rows L2 OB SkE
section
variable {P : Program} {w : World} {K : PySem.W.Frag} {mg : Str → Option Value} {base : Heap}
theorem cut62 (ns : List Int) : cutV (ns.map V.int) none (some 62) = (ns.take 62).map V.int := by
  unfold cutV
  have a : HT.sIx (ns.map V.int).length 0 none = 0 := rfl
  rw [a, List.drop_zero, Nat.sub_zero, List.map_take]
  have e : HT.sIx (ns.map V.int).length (ns.map V.int).length (some 62) = min 62 (ns.map V.int).length := HT.sIx_nat _ _ 62
  rw [e]
  by_cases h : (ns.map V.int).length ≤ 62
  · rw [Nat.min_eq_right h, List.take_length, List.take_of_length_le h]
  · rw [Nat.min_eq_left (by omega)]
theorem take_more {α : Type} {l : List α} {i : Nat} {x : α} (h : l[i]? = some x) : l.take (i + 1) = l.take i ++ [x] := by
  rw [List.take_add_one, h]
  rfl
theorem sc__law_fold : FnScope ["script", "cell"] ["script"] (defScope s__law_fold) := ⟨rfl, rfl, rfl, by decide +kernel, rfl, by decide +kernel, by decide +kernel⟩
abbrev N__law_fold : List Str := ["script", "cell"]
theorem ok__law_fold {f : Addr} {fd : FuncData} (F : Fun K "_law_fold" "_law_fold" s__law_fold f fd) (T : Blt mg) : FnOk P w K mg base CX0 1 f fd ["script"] (spLot K) := by
  refine F.ok sc__law_fold (fun vs H Q E h => ?_) (fun cdv A outer s H vs Q E hr h => ?_)
  · obtain ⟨a, ns, rfl, _⟩ := h
    rfl
  · obtain ⟨a, ns, rfl, hS, hl, k⟩ := h
    refine ⟨_, (pss_one (ps_ret (pe_lst (pa_cons (pe_lc (own := [("cell", 1)]) (g := (gName 1)) (tt := tYes) rfl sc__law_fold.nd (pi_list (pe_slice sl_list (pv 0) po_none (po_some pe_int))) (blkOk_by (N := N__law_fold) (own := [("cell", 1)]) (sc := defScope s__law_fold) (by decide +kernel)) (fun _ _ _ _ _ => (pg_name (i := 1) sc__law_fold.nd rfl (Or.inl rfl))) (fun _ _ _ _ _ => pts_nil) (fun _ _ _ _ _ => (pe_callTy call_int1 (by rfl) T.n_int (by decide +kernel) (pa_cons (pv 1) pa_nil)))) (pa_cons pe_int (pa_cons pe_int pa_nil)))))), ?_⟩
    refine ⟨_, rfl, _, rfl, a, _, rfl, hS, fun c hc => ?_⟩
    have e1 : cutV (ns.map V.int) none (some 62) = (ns.take 62).map V.int := cut62 ns
    rw [e1]
    have S0 : Same H (upd H c (.lst ((ns.take 62).map V.int))) := same_new hc
    refine ⟨c, rfl, ⟨_, .inl (.inl upd_same)⟩, fun b hb => ?_⟩
    have ncb : c ≠ b := ne_of_none upd_same hb
    refine lc_list (K := K) (a := c) (xs := (ns.take 62).map V.int) (fun i H' => Same (upd H c (.lst ((ns.take 62).map V.int))) H' ∧ H' b = some (.lst (((ns.take 62).map V.int).take i)))
      ⟨same_new hb, upd_same⟩ (fun i H' _ h => h.1.seq (.inl (.inl upd_same))) ?_ ?_
    · rintro i y H' hy ⟨S1, h1⟩
      obtain ⟨z, hz, rfl⟩ : ∃ z, (ns.take 62)[i]? = some z ∧ y = V.int z := by
        rw [List.getElem?_map] at hy
        cases e : (ns.take 62)[i]? with
        | none => rw [e] at hy; cases hy
        | some z => rw [e] at hy; exact ⟨z, rfl, (Option.some.inj hy).symm⟩
      refine ⟨rfl, _, rfl, .inl ⟨_, rfl, _, h1, ?_, ?_, ?_⟩⟩
      · refine small1000 ?_
        rw [List.length_take, List.length_map, List.length_take]
        omega
      · intro q o e
        have nb : q ≠ b := ne_of_none e hb
        rw [upd_ne nb]
        exact S1 q o e
      · rw [upd_same, ← List.map_take, ← List.map_take, take_more hz, List.map_append]
        rfl
    · rintro H' ⟨S1, h1⟩
      rw [List.take_length] at h1
      refine ⟨(by show 3 ≤ sizeLine; decide), fun p hp => ?_⟩
      have S2 : Same H H' := S0.trans S1
      have hb0 : H b = none := S0.free hb
      refine k p b _ (S2.free hp) hb0 ⟨ns.take 62, 0, 0, upd_same, ?_, Int.le_refl _, Int.le_refl _⟩ (S2.trans (same_new hp))
      rw [upd_ne (ne_of_none h1 hp)]
      exact h1
theorem sc__law_herd : FnScope ["fold", "many", "left", "turn", "cell", "mixed"] ["fold", "many"] (defScope s__law_herd) := ⟨rfl, rfl, rfl, by decide +kernel, rfl, by decide +kernel, by decide +kernel⟩
theorem ok__law_herd {f : Addr} {fd : FuncData} (F : Fun K "_law_herd" "_law_herd" s__law_herd f fd) (T : Blt mg) : FnOk P w K mg base CX0 1 f fd ["fold", "many"] spDraw := by
  refine F.ok sc__law_herd (fun vs H Q E h => ?_) (fun cdv A outer s H vs Q E hr h => ?_)
  · obtain ⟨p, b, n, many, rfl, _⟩ := h
    rfl
  · obtain ⟨p, b, n, many, rfl, O, hn, hm, hm2, k⟩ := h
    obtain ⟨ns, t, l, hp, hb, ht, htn⟩ := id O
    have npb : p ≠ b := O.ne
    refine ⟨_, (pss_cons (ps_if (pt_cmpR op_gt (pe_ix ix_list (pv 0) pe_int (fun _ _ => rfl)) pe_int (nomark _)) (pss_cons (ps_set (i := 2) sc__law_herd.nd rfl (Or.inl rfl) (pe_callTy call_int1 (by rfl) T.n_int (by decide +kernel) (pa_cons (pe_ix ix_list (pv 0) pe_int (fun _ _ => rfl)) pa_nil)))
  (pss_cons (ps_asg (pe_op op_fdivW (pv 2) (pv 1)) (pg_sub (pv 0) pe_int set_list))
  (pss_one (ps_ret (pe_op op_mod (pe_callTy call_int1 (by rfl) T.n_int (by decide +kernel) (pa_cons (pv 2) pa_nil)) (pv 1)))))) pss_nil)
  (pss_cons (ps_set (i := 3) sc__law_herd.nd rfl (Or.inl rfl) (pe_ix ix_list (pv 0) pe_int (fun _ _ => rfl)))
  (pss_cons (ps_asg (pe_op op_add (pv 3) pe_int) (pg_sub (pv 0) pe_int set_list))
  (pss_cons (ps_set (i := 4) sc__law_herd.nd rfl (Or.inl rfl) (pe_op op_add (pe_op op_mul pe_int (pv 3)) pe_int))
  (C8.pss_cut (ps_if (pt_cmpR (op_neD hr.units) (pe_ix ix_list (pv 0) pe_int (fun _ _ => rfl)) (pe_lst pa_nil) (nomark _)) (pss_one (ps_set (i := 4) sc__law_herd.nd rfl (Or.inl rfl) (pe_ix ix_list (pe_ix ix_list (pv 0) pe_int (fun _ _ => rfl)) (pe_op op_mod (pe_callTy call_int1 (by rfl) T.n_int (by decide +kernel) (pa_cons (pv 3) pa_nil)) (pe_callB call_len_seq (by rfl) T.n_len (by decide +kernel) (pa_cons (pe_ix ix_list (pv 0) pe_int (fun _ _ => rfl)) pa_nil))) (fun _ _ => rfl)))) pss_nil)
  (pss_cons (ps_if (PW.pt (pw_and (pt_cmpR op_lt (pv 3) (pe_callB call_len_seq (by rfl) T.n_len (by decide +kernel) (pa_cons (pe_ix ix_list (pv 0) pe_int (fun _ _ => rfl)) pa_nil)) (nomark _)) (pw_and1 (pt_cmpR op_ge (pe_callB call_abs (by rfl) T.n_abs (by decide +kernel) (pa_cons (pv 4) pa_nil)) (pe_op op_pow pe_int pe_int) (nomark _))))) (pss_cons (ps_set (i := 2) sc__law_herd.nd rfl (Or.inl rfl) (pe_op op_add (pe_op op_mul pe_int (pe_op op_sub (pe_callB call_abs (by rfl) T.n_abs (by decide +kernel) (pa_cons (pe_callTy call_int1 (by rfl) T.n_int (by decide +kernel) (pa_cons (pv 4) pa_nil)) pa_nil)) (pe_op op_pow pe_int pe_int))) (pe_callTy call_int1 (by rfl) T.n_int (by decide +kernel) (pa_cons (pe_cmpR op_lt (pv 4) pe_int (nomark _)) pa_nil))))
  (pss_cons (ps_asg (pe_op op_fdivW (pv 2) (pv 1)) (pg_sub (pv 0) pe_int set_list))
  (pss_one (ps_ret (pe_op op_mod (pe_callTy call_int1 (by rfl) T.n_int (by decide +kernel) (pa_cons (pv 2) pa_nil)) (pv 1)))))) pss_nil)
  (pss_cons (ps_set (i := 5) sc__law_herd.nd rfl (Or.inl rfl) (pe_op op_mod (pe_callTy call_int1 (by rfl) T.n_int (by decide +kernel) (pa_cons (pe_op op_pow (pe_op op_add (pe_op op_add (pe_op op_mod (pe_callTy call_int1 (by rfl) T.n_int (by decide +kernel) (pa_cons (pv 4) pa_nil)) pe_int) (pe_op op_mul pe_int (pv 3))) pe_int) pe_int) pa_nil)) pe_int))
  (pss_cons (ps_set (i := 5) sc__law_herd.nd rfl (Or.inl rfl) (pe_op op_mod (pe_callTy call_int1 (by rfl) T.n_int (by decide +kernel) (pa_cons (pe_op op_pow (pe_op op_add (pe_op op_add (pe_op op_mul (pv 5) (pe_op op_add (pe_op op_mul pe_int (pv 3)) pe_int)) (pe_op op_mul (pe_op op_mul pe_int (pv 3)) (pv 3))) pe_int) pe_int) pa_nil)) pe_int))
  (pss_one (ps_ret (pe_op op_mod (pe_callTy call_int1 (by rfl) T.n_int (by decide +kernel) (pa_cons (pe_op op_fdiv (pv 5) pe_int) pa_nil)) (pv 1)))))))))))), ?_⟩
    -- quay[2] > 0
    refine ⟨_, rfl, p, _, _, _, rfl, rfl, SqL.of hp, rfl, _, _, rfl, rfl, _, rfl, ?_⟩
    refine ite2 (fun c => ?_) (fun c => ?_)
    · -- left = int(quay[2]); quay[2] = left // many; return int(left) % many
      refine ⟨_, rfl, p, _, _, _, rfl, rfl, SqL.of hp, rfl, .inl ⟨_, rfl, ?_⟩⟩
      refine ⟨_, rfl, _, rfl, _, _, rfl, rfl, wide_div hm hm2 (by decide) (by decide), _, rfl, p, _, _, _, rfl, rfl, hp, rfl, ?_⟩
      refine ⟨_, rfl, .inl ⟨_, rfl, _, rfl, _, _, rfl, rfl, hm, ?_⟩⟩
      refine k _ _ (Int.emod_nonneg _ (by omega)) (Int.emod_lt_of_pos _ hm) ⟨ns, t, _, upd_same, ?_, ht, by omega⟩ but_at
      rw [upd_ne npb.symm]
      exact hb
    · -- turn = quay[1]; quay[1] = turn + 1; cell = A * turn + B
      refine ⟨_, rfl, p, _, _, _, rfl, rfl, SqL.of hp, rfl, ?_⟩
      refine ⟨_, rfl, _, _, rfl, rfl, _, rfl, p, _, _, _, rfl, rfl, hp, rfl, ?_⟩
      refine ⟨_, rfl, _, _, rfl, rfl, .inl ⟨by decide, by decide⟩, _, _, rfl, rfl, ?_⟩
      -- quay[0] != []
      refine ⟨fun σ' H' => ∃ c0 : Int, σ' = [some (.ref p), some (.int many), none, some (.int t), some (.int c0), none] ∧ H' p = some (.lst [.ref b, .int (t + 1), .int l]) ∧ H' b = some (.lst (ns.map V.int)) ∧ But p H H', ?_, ?_⟩
      rotate_left
      · rintro σ' H' ⟨c0, rfl, hp2, hb2, S2⟩
        have ht2 : t ≤ 1000000 := by omega
        have fin : ∀ r : Int, 0 ≤ r → r < many → Q (.int r) H' := fun r h1 h2 => k r H' h1 h2 ⟨ns, t + 1, l, hp2, hb2, by omega, by omega⟩ S2
        have end_ : ∀ x : Int, Q (.int (x % many)) H' := fun x => fin _ (Int.emod_nonneg _ (by omega)) (Int.emod_lt_of_pos _ hm)
        refine ⟨_, rfl, _, rfl, p, _, _, _, rfl, rfl, SqL.of hp2, rfl, b, _, rfl, .inl (SqL.of hb2), _, _, rfl, rfl, _, rfl, ?_⟩
        refine ite2 (fun c1 => ?_) (fun c1 => ?_)
        · refine ⟨_, rfl, _, rfl, _, _, rfl, rfl, ⟨by decide, by decide, by decide⟩, _, _, rfl, rfl, _, rfl, ?_⟩
          refine ite2 (fun c2 => ?_) (fun c2 => ?_)
          · refine ⟨_, rfl, .inl ⟨_, rfl, _, rfl, _, _, rfl, rfl, ⟨by decide, by decide, by decide⟩, _, _, rfl, rfl, _, _, rfl, rfl, .inl ⟨by decide, by decide⟩, ?_⟩⟩
            refine ⟨_, rfl, _, _, rfl, rfl, .inr ⟨_, rfl, _, _, rfl, rfl, ?_⟩⟩
            refine ⟨_, rfl, _, rfl, _, _, rfl, rfl, wide_div hm hm2 (by decide) (by decide), _, rfl, p, _, _, _, rfl, rfl, hp2, rfl, ?_⟩
            refine ⟨_, rfl, .inl ⟨_, rfl, _, rfl, _, _, rfl, rfl, hm, ?_⟩⟩
            refine k _ _ (Int.emod_nonneg _ (by omega)) (Int.emod_lt_of_pos _ hm) ⟨ns, t + 1, _, upd_same, ?_, by omega, by omega⟩ (S2.trans but_at)
            rw [upd_ne npb.symm]
            exact hb2
          · refine ⟨_, rfl, .inl ⟨_, rfl, _, _, rfl, rfl, (by show (0 : Int) < _; decide), _, rfl, _, _, rfl, rfl, .inl ⟨by decide, by decide⟩, _, _, rfl, rfl, _, _, rfl, rfl, _, _, rfl, rfl, ⟨by decide, by decide, mix1 (by decide) (by decide) ht ht2 (by decide) (by decide) (by decide) (by decide)⟩, .inl ⟨_, rfl, _, _, rfl, rfl, (by show (0 : Int) < _; decide), ?_⟩⟩⟩
            refine ⟨_, rfl, _, rfl, _, _, rfl, rfl, .inl ⟨by decide, by decide⟩, _, _, rfl, rfl, _, _, rfl, rfl, .inl (mod_lim (by decide) (by decide)), _, rfl, _, _, rfl, rfl, .inl ⟨by decide, by decide⟩, _, rfl, _, _, rfl, rfl, .inr ⟨by omega, by omega⟩, _, _, rfl, rfl, _, _, rfl, rfl, _, _, rfl, rfl,
              ⟨by decide, by decide, mix2 (by decide) (by decide) ht ht2 (by decide) (by decide) (by decide) (by decide) (by decide) (by decide)⟩, .inl ⟨_, rfl, _, _, rfl, rfl, (by show (0 : Int) < _; decide), ?_⟩⟩
            exact ⟨_, rfl, _, _, rfl, rfl, ⟨by decide, by decide⟩, .inl ⟨_, rfl, _, rfl, _, _, rfl, rfl, hm, end_ _⟩⟩
        · refine ⟨_, rfl, .inl ⟨_, rfl, _, _, rfl, rfl, (by show (0 : Int) < _; decide), _, rfl, _, _, rfl, rfl, .inl ⟨by decide, by decide⟩, _, _, rfl, rfl, _, _, rfl, rfl, _, _, rfl, rfl, ⟨by decide, by decide, mix1 (by decide) (by decide) ht ht2 (by decide) (by decide) (by decide) (by decide)⟩, .inl ⟨_, rfl, _, _, rfl, rfl, (by show (0 : Int) < _; decide), ?_⟩⟩⟩
          refine ⟨_, rfl, _, rfl, _, _, rfl, rfl, .inl ⟨by decide, by decide⟩, _, _, rfl, rfl, _, _, rfl, rfl, .inl (mod_lim (by decide) (by decide)), _, rfl, _, _, rfl, rfl, .inl ⟨by decide, by decide⟩, _, rfl, _, _, rfl, rfl, .inr ⟨by omega, by omega⟩, _, _, rfl, rfl, _, _, rfl, rfl, _, _, rfl, rfl,
            ⟨by decide, by decide, mix2 (by decide) (by decide) ht ht2 (by decide) (by decide) (by decide) (by decide) (by decide) (by decide)⟩, .inl ⟨_, rfl, _, _, rfl, rfl, (by show (0 : Int) < _; decide), ?_⟩⟩
          exact ⟨_, rfl, _, _, rfl, rfl, ⟨by decide, by decide⟩, .inl ⟨_, rfl, _, rfl, _, _, rfl, rfl, hm, end_ _⟩⟩
      refine ⟨_, rfl, p, _, _, _, rfl, rfl, SqL.of upd_same, rfl, Nat.zero_le _, fun l0 hl0 => ?_⟩
      have hp1 : (upd (upd H p (.lst [.ref b, .int (t + 1), .int l])) l0 (.lst [])) p = some (.lst [.ref b, .int (t + 1), .int l]) := by
        rw [upd_ne (ne_of_none upd_same hl0), upd_same]
      have hb1 : (upd (upd H p (.lst [.ref b, .int (t + 1), .int l])) l0 (.lst [])) b = some (.lst (ns.map V.int)) := by
        have e : (upd H p (.lst [.ref b, .int (t + 1), .int l])) b = some (.lst (ns.map V.int)) := by
          rw [upd_ne npb.symm]
          exact hb
        rw [upd_ne (ne_of_none e hl0)]
        exact e
      have S1 : But p H (upd (upd H p (.lst [.ref b, .int (t + 1), .int l])) l0 (.lst [])) := but_at.trans (But.of (same_new hl0))
      refine ⟨.list (ns.map PyData.int), .list [], Dp.lst (SqL.of hb1) (dp_ints ns), Dp.lst (SqL.of upd_same) .nil, shaped_ints ns, shaped_ints [], _, rfl, ?_⟩
      rw [eqv_nil]
      refine ite2 (fun c => ?_) (fun c => ?_)
      · have c : ns ≠ [] := by simpa using c
        have hl : 0 < ns.length := List.length_pos_iff.mpr c
        have hl2 : (0 : Int) < ((ns.map V.int).length : Nat) := by
          rw [List.length_map]
          omega
        have h1 := Int.emod_nonneg t (show (((ns.map V.int).length : Nat) : Int) ≠ 0 by omega)
        have h2 := Int.emod_lt_of_pos t hl2
        obtain ⟨j, hj⟩ : ∃ j : Nat, t % (((ns.map V.int).length : Nat) : Int) = (j : Int) := ⟨_, (Int.toNat_of_nonneg h1).symm⟩
        have hj2 : j < ns.length := by
          rw [List.length_map] at hj h2
          omega
        have hx : (ns.map V.int)[j]? = some (V.int ns[j]) := by
          rw [List.getElem?_map, List.getElem?_eq_getElem hj2]
          rfl
        refine ⟨_, rfl, p, _, _, _, rfl, rfl, SqL.of hp1, rfl, ?_⟩
        refine ⟨_, rfl, .inl ⟨_, rfl, _, rfl, p, _, _, _, rfl, rfl, SqL.of hp1, rfl, b, _, rfl, .inl (SqL.of hb1), _, _, rfl, rfl, hl2, ?_⟩⟩
        exact ⟨b, _, _, V.int ns[j], rfl, rfl, SqL.of hb1, at_of hj hx, ns[j], rfl, hp1, hb1, S1⟩
      · exact ⟨_, rfl, hp1, hb1, S1⟩

/-- one of some things, drawn -/
def spOne : Sp := fun vs H Q _ => ∃ (p b l : Addr) (n : Nat) (xs : List V), vs = [.ref p, .ref l] ∧ Orch H p b n ∧ n < 1000000 ∧ H l = some (.lst xs) ∧ l ≠ p ∧ 0 < xs.length ∧ xs.length ≤ 1000 ∧
  ∀ (j : Nat) (x : V) (H' : Hp), xs[j]? = some x → Orch H' p b (n + 1) → But p H H' → Q x H'

theorem sc__law_one : FnScope ["fold", "some"] ["fold", "some"] (defScope s__law_one) := ⟨rfl, rfl, rfl, by decide +kernel, rfl, by decide +kernel, by decide +kernel⟩
theorem ok__law_one {f f1 : Addr} {fd fd1 : FuncData} (F : Fun K "_law_one" "_law_one" s__law_one f fd) (T : Blt mg) (D__law_herd : Df K mg "_law_herd" s__law_herd ["fold", "many"] f1 fd1) : FnOk P w K mg base CX0 2 f fd ["fold", "some"] spOne := by
  have G__law_herd : FnOk P w K mg base CX0 1 f1 fd1 ["fold", "many"] spDraw := ok__law_herd D__law_herd.F T
  refine F.ok sc__law_one (fun vs H Q E h => ?_) (fun cdv A outer s H vs Q E hr h => ?_)
  · obtain ⟨p, b, l, n, xs, rfl, _⟩ := h
    rfl
  · obtain ⟨p, b, l, n, xs, rfl, O, hn, hl, nlp, h0, h1, k⟩ := h
    refine ⟨_, (pss_one (ps_ret (pe_ix ix_list (pv 1) (pe_call G__law_herd (hr.mono (by decide)) (by rfl) D__law_herd.g D__law_herd.F.kp D__law_herd.b .nil pass0 (pa_cons (pv 0) (pa_cons (pe_callB call_len_seq (by rfl) T.n_len (by decide +kernel) (pa_cons (pv 1) pa_nil)) pa_nil))) (fun _ _ => rfl)))), ?_⟩
    refine ⟨_, rfl, _, rfl, _, rfl, l, xs, rfl, .inl (SqL.of hl), p, b, n, _, rfl, O, hn, by omega, ?_, fun r H' r0 r1 O' B' => ?_⟩
    · show (xs.length : Int).natAbs < 2 ^ 9000
      rw [Int.natAbs_natCast]
      exact Nat.lt_of_le_of_lt h1 (by decide)
    · obtain ⟨j, rfl⟩ := Int.eq_ofNat_of_zero_le r0
      have hj : j < xs.length := by omega
      exact ⟨l, xs, _, xs[j], rfl, rfl, SqL.of (B' l _ hl nlp), atI_nat (List.getElem?_eq_getElem hj), k j _ H' (List.getElem?_eq_getElem hj) O' B'⟩

end
end K25
namespace K25
open PySem PySem.Spec PyProof.Rows L2 OB SkE
def spItems : Sp := fun vs H Q _ => ∃ z : Str, vs = [.str z] ∧ z.length + 2 ≤ sizeLine ∧ ∀ p, H p = none → Q (.ref p) (upd H p (.lst ((Txt.split z " ").map V.str)))
def spIntOf : Sp := fun vs H Q _ => ∃ n : Nat, n < 256 ∧ vs = [.str (ds n)] ∧ Q (.int (n : Int)) H
def spItemAt : Sp := fun vs H Q _ => ∃ (q : Addr) (ys : List Str) (i : Nat) (y : Str), vs = [.ref q, .int (i : Int)] ∧ H q = some (.lst (ys.map V.str)) ∧ ys[i]? = some y ∧ Q (.str y) H
def spIntAt : Sp := fun vs H Q _ => ∃ (q : Addr) (ys : List Str) (i n : Nat) (lo hi : Int), vs = [.ref q, .int (i : Int), .int lo, .int hi] ∧ H q = some (.lst (ys.map V.str)) ∧ ys[i]? = some (ds n) ∧ n < 256 ∧ lo ≤ (n : Int) ∧ (n : Int) ≤ hi ∧ Q (.int (n : Int)) H
def spNeedEnd : Sp := fun vs H Q _ => ∃ (q : Addr) (ys : List Str) (i : Nat), vs = [.ref q, .int (i : Int)] ∧ H q = some (.lst (ys.map V.str)) ∧ ys.length ≤ i ∧ Q .non H
theorem tyS {K : PySem.W.Frag} {H : Hp} {z : Str} : tyV K "str" (.str z) H := rfl
theorem in_bounds {lo hi i : Int} (h1 : lo ≤ i) (h2 : i ≤ hi) : (true && inB (some lo) (some hi) (.int i)) = true := by
  show (true && (decide (lo ≤ i) && decide (i ≤ hi))) = true
  rw [decide_eq_true h1, decide_eq_true h2]
  rfl
section
variable {P : Program} {w : World} {K : PySem.W.Frag} {mg : Str → Option Value} {base : Heap}
theorem sc_items_of : FnScope ["text"] ["text"] (defScope s_items_of) := ⟨rfl, rfl, rfl, by decide +kernel, rfl, by decide +kernel, by decide +kernel⟩
abbrev N_items_of : List Str := ["text"]
theorem ok_items_of {f : Addr} {fd : FuncData} (F : Fun K "items_of" "items_of" s_items_of f fd) (T : Blt mg) : FnOk P w K mg base CX0 1 f fd ["text"] spItems := by
  refine F.ok sc_items_of (fun vs H Q E h => ?_) (fun cdv A outer s H vs Q E hr h => ?_)
  · obtain ⟨z, rfl, _⟩ := h
    rfl
  · obtain ⟨z, rfl, hz, k⟩ := h
    refine ⟨_, (pss_cons (ps_if (pt_not (pt_val (pe_callB call_isi (by rfl) T.n_isinstance (by decide +kernel) (pa_cons (pv 0) (pa_cons (pe_bltn (v := .ty "str") (by rfl) T.n_str (by decide +kernel) rfl) pa_nil))))) (pss_one ps_never) pss_nil)
  (pss_one (ps_ret (pe_split (pv 0) pe_str)))), ?_⟩
    refine ⟨_, rfl, _, .ty "str", .type "str", .type "str", true, rfl, .ty _, .base (.str z), kit_ty (by decide +kernel), true, rfl, ?_⟩
    refine iteF ?_
    exact ⟨_, rfl, ⟨_, rfl⟩, z, " ", rfl, rfl, by decide +kernel, hz, k⟩
theorem sc_integer_of : FnScope ["item", "digits"] ["item"] (defScope s_integer_of) := ⟨rfl, rfl, rfl, by decide +kernel, rfl, by decide +kernel, by decide +kernel⟩
abbrev N_integer_of : List Str := ["item", "digits"]
theorem ok_integer_of {f : Addr} {fd : FuncData} (F : Fun K "integer_of" "integer_of" s_integer_of f fd) (T : Blt mg) : FnOk P w K mg base CX0 1 f fd ["item"] spIntOf := by
  refine F.ok sc_integer_of (fun vs H Q E h => ?_) (fun cdv A outer s H vs Q E hr h => ?_)
  · obtain ⟨n, hn, rfl, _⟩ := h
    rfl
  · obtain ⟨n, hn, rfl, k⟩ := h
    refine ⟨_, (pss_cons (ps_set (i := 1) sc_integer_of.nd rfl (Or.inl rfl) (pe_bm PySem.F.plainAttrs_str PySem.F.slot_str_removeprefix PySem.F.type_str_removeprefix mt_removeprefix (pv 0) (pa_cons pe_str pa_nil)))
  (pss_cons (ps_if (PW.pt (pw_or (pt_not (PW.pt (pw_and (pt_val (pe_bm0 PySem.F.plainAttrs_str PySem.F.slot_str_isascii PySem.F.type_str_isascii mt_isascii (pv 1))) (pw_and1 (pt_val (pe_bm0 PySem.F.plainAttrs_str PySem.F.slot_str_isdigit PySem.F.type_str_isdigit mt_isdigit (pv 1))))))) (pw_or1 (pt_cmpR op_gt (pe_callB call_len_str (by rfl) T.n_len (by decide +kernel) (pa_cons (pv 1) pa_nil)) (pe_glob (v := .int 140) rfl T.g_MOST_DIGITS.choose_spec ⟨_, rfl⟩) (nomark _))))) (pss_one (ps_ret pe_non)) pss_nil)
  (pss_cons (ps_if (PW.pt (pw_and (pt_val (pe_bm PySem.F.plainAttrs_str PySem.F.slot_str_startswith PySem.F.type_str_startswith mt_startswith (pv 1) (pa_cons pe_str pa_nil))) (pw_and1 (pt_cmpR op_ne (pv 0) pe_str (nomark _))))) (pss_one (ps_ret pe_non)) pss_nil)
  (pss_one (ps_ret (pe_callTy call_int_str (by rfl) T.n_int (by decide +kernel) (pa_cons (pv 0) pa_nil))))))), ?_⟩
    obtain ⟨d1, d2, d3, d4, d5, d6, d7, d8⟩ := ds_small n hn
    have hz : (ds n).length ≤ sizeLine := by rw [sizeLine_eq]; omega
    refine ⟨_, rfl, tyS, _, _, rfl, rfl, hz, ?_⟩
    rw [d1]
    refine ⟨_, rfl, tyS, _, rfl, rfl, trivial, ?_⟩
    rw [d2]
    refine ⟨true, rfl, iteT ?_⟩
    refine ⟨_, rfl, tyS, _, rfl, rfl, trivial, ?_⟩
    rw [d3]
    refine ⟨true, rfl, iteF ?_⟩
    refine ⟨_, rfl, _, rfl, hz, _, _, rfl, rfl, _, rfl, ?_⟩
    refine ite2 (fun c => absurd (of_decide_eq_true c) (by omega)) (fun _ => ?_)
    refine ⟨_, rfl, tyS, _, _, rfl, rfl, ?_⟩
    have fin : tRet (tCB (fun xs H Q => ∃ a n, xs = [V.str a] ∧ intText? a = some n ∧ a.length ≤ 640 ∧ Q (V.int n) H) (tCons (tVar 0) tNil)) { nx := fun x H' => Q V.non H', rt := Q } [some (.str (ds n)), some (.str (ds n))] H := ⟨_, rfl, _, _, rfl, d6, by omega, k⟩
    refine ⟨_, rfl, iteB (fun c => ?_) (fun _ => fin)⟩
    refine ⟨_, rfl, rfl, _, rfl, ?_⟩
    have e := d5 c
    subst e
    exact fin
theorem sc_item_at : FnScope ["items", "at"] ["items", "at"] (defScope s_item_at) := ⟨rfl, rfl, rfl, by decide +kernel, rfl, by decide +kernel, by decide +kernel⟩
abbrev N_item_at : List Str := ["items", "at"]
theorem ok_item_at {f : Addr} {fd : FuncData} (F : Fun K "item_at" "item_at" s_item_at f fd) (T : Blt mg) : FnOk P w K mg base CX0 1 f fd ["items", "at"] spItemAt := by
  refine F.ok sc_item_at (fun vs H Q E h => ?_) (fun cdv A outer s H vs Q E hr h => ?_)
  · obtain ⟨q, ys, i, y, rfl, _⟩ := h
    rfl
  · obtain ⟨q, ys, i, y, rfl, hq, hy, k⟩ := h
    refine ⟨_, (pss_cons (ps_if (pt_cmpR op_ge (pv 1) (pe_callB call_len_seq (by rfl) T.n_len (by decide +kernel) (pa_cons (pv 0) pa_nil)) (nomark _)) (pss_one ps_never) pss_nil)
  (pss_one (ps_ret (pe_ix ix_list (pv 0) (pv 1) (fun _ _ => rfl))))), ?_⟩
    have hi : i < ys.length := (List.getElem?_eq_some_iff.mp hy).1
    refine ⟨_, rfl, _, rfl, q, _, rfl, .inl (SqL.of hq), _, _, rfl, rfl, _, rfl, ?_⟩
    refine ite2 (fun c => absurd (of_decide_eq_true c) (by rw [List.length_map]; omega)) (fun _ => ?_)
    refine ⟨_, rfl, _, rfl, q, _, _, V.str y, rfl, rfl, SqL.of hq, atI_nat (by rw [List.getElem?_map, hy]; rfl), k⟩
theorem sc_integer_at : FnScope ["items", "at", "least", "most", "value"] ["items", "at", "least", "most"] (defScope s_integer_at) := ⟨rfl, rfl, rfl, by decide +kernel, rfl, by decide +kernel, by decide +kernel⟩
abbrev N_integer_at : List Str := ["items", "at", "least", "most", "value"]
theorem ok_integer_at {f f1 f2 f3 f4 : Addr} {fd fd1 fd2 fd3 fd4 : FuncData} (F : Fun K "integer_at" "integer_at" s_integer_at f fd) (T : Blt mg) (D_integer_of : Df K mg "integer_of" s_integer_of ["item"] f1 fd1) (D_item_at : Df K mg "item_at" s_item_at ["items", "at"] f2 fd2) (D_is_within : Df K mg "is_within" s_is_within ["value", "least", "most"] f3 fd3) (D_is_integer : Df K mg "is_integer" s_is_integer ["value"] f4 fd4) : FnOk P w K mg base CX0 3 f fd ["items", "at", "least", "most"] spIntAt := by
  have G_integer_of : FnOk P w K mg base CX0 1 f1 fd1 ["item"] spIntOf := ok_integer_of D_integer_of.F T
  have G_item_at : FnOk P w K mg base CX0 1 f2 fd2 ["items", "at"] spItemAt := ok_item_at D_item_at.F T
  have G_is_within : FnOk P w K mg base CX0 2 f3 fd3 ["value", "least", "most"] (spWithin K) := ok_is_within D_is_within.F D_is_integer T
  refine F.ok sc_integer_at (fun vs H Q E h => ?_) (fun cdv A outer s H vs Q E hr h => ?_)
  · obtain ⟨q, ys, i, n, lo, hi, rfl, _⟩ := h
    rfl
  · obtain ⟨q, ys, i, n, lo, hi, rfl, hq, hy, hn, h1, h2, k⟩ := h
    refine ⟨_, (pss_cons (ps_set (i := 4) sc_integer_at.nd rfl (Or.inl rfl) (pe_call G_integer_of (hr.mono (by decide)) (by rfl) D_integer_of.g D_integer_of.F.kp D_integer_of.b .nil pass0 (pa_cons (pe_call G_item_at (hr.mono (by decide)) (by rfl) D_item_at.g D_item_at.F.kp D_item_at.b .nil pass0 (pa_cons (pv 0) (pa_cons (pv 1) pa_nil))) pa_nil)))
  (pss_cons (ps_if (pt_not (pt_val (pe_call G_is_within (hr.mono (by decide)) (by rfl) D_is_within.g D_is_within.F.kp D_is_within.b .nil pass0 (pa_cons (pv 4) (pa_cons (pv 2) (pa_cons (pv 3) pa_nil)))))) (pss_one ps_never) pss_nil)
  (pss_one (ps_ret (pv 4))))), ?_⟩
    refine ⟨_, rfl, _, rfl, q, ys, i, ds n, rfl, hq, hy, n, hn, rfl, ?_⟩
    refine ⟨_, rfl, _, rfl, _, rfl, _, some lo, some hi, true, rfl, isI_int _, _, rfl, ?_⟩
    rw [in_bounds h1 h2]
    exact iteF ⟨_, rfl, k⟩
theorem sc_need_end : FnScope ["items", "at"] ["items", "at"] (defScope s_need_end) := ⟨rfl, rfl, rfl, by decide +kernel, rfl, by decide +kernel, by decide +kernel⟩
abbrev N_need_end : List Str := ["items", "at"]
theorem ok_need_end {f : Addr} {fd : FuncData} (F : Fun K "need_end" "need_end" s_need_end f fd) (T : Blt mg) : FnOk P w K mg base CX0 1 f fd ["items", "at"] spNeedEnd := by
  refine F.ok sc_need_end (fun vs H Q E h => ?_) (fun cdv A outer s H vs Q E hr h => ?_)
  · obtain ⟨q, ys, i, rfl, _⟩ := h
    rfl
  · obtain ⟨q, ys, i, rfl, hq, hi, k⟩ := h
    refine ⟨_, (pss_one (ps_if (pt_cmpR op_lt (pv 1) (pe_callB call_len_seq (by rfl) T.n_len (by decide +kernel) (pa_cons (pv 0) pa_nil)) (nomark _)) (pss_one ps_never) pss_nil)), ?_⟩
    refine ⟨_, rfl, _, rfl, q, _, rfl, .inl (SqL.of hq), _, _, rfl, rfl, _, rfl, ?_⟩
    exact ite2 (fun c => absurd (of_decide_eq_true c) (by rw [List.length_map]; omega)) (fun _ => k)
end
end K25
namespace K25
open PySem PySem.Spec PyProof.Rows L2 OB SkE
/-- what a word means, as a value -/
def mv : Option Nat → V
  | none => .non
  | some n => .int (n : Int)
/-- .. as an item of a text -/
def mtx : Option Nat → Str
  | none => "-"
  | some n => ds n
/-- .. as data -/
def md : Option Nat → PyData
  | none => .none
  | some n => .int (n : Int)
def layText (b : Nat) (ms : List (Option Nat)) : Str := Txt.join " " (ds b :: ms.map mtx)
structure LayOk (b : Nat) (ms : List (Option Nat)) : Prop where
  b1 : 1 ≤ b
  b8 : b ≤ 8
  len : ms.length = 2 ^ b
  small : ∀ n, some n ∈ ms → n ≤ 63
theorem pow8 {b : Nat} (h : b ≤ 8) : 2 ^ b ≤ 256 := Nat.le_trans (Nat.pow_le_pow_right (by decide) h) (by decide)
/-- a layout stands at x -/
def IsLay (H : Hp) (C x : Addr) (b : Nat) (ms : List (Option Nat)) : Prop := ∃ dx fs t, H x = some (.ins C dx fs) ∧ fs.lookup ("bits" : Str) = some (.int (b : Int)) ∧ fs.lookup ("means" : Str) = some (.ref t) ∧ H t = some (.tup (ms.map mv))
theorem IsLay.same {H H' : Hp} {C x : Addr} {b : Nat} {ms : List (Option Nat)} (h : IsLay H C x b ms) (s : Same H H') : IsLay H' C x b ms := by
  obtain ⟨dx, fs, t, h1, h2, h3, h4⟩ := h
  exact ⟨dx, fs, t, s _ _ h1, h2, h3, s _ _ h4⟩
theorem dp_means {K : PySem.W.Frag} {H : Hp} : ∀ ms : List (Option Nat), DpAll K H (ms.map mv) (ms.map md)
  | [] => .nil
  | none :: r => .cons .non (dp_means r)
  | some n :: r => .cons (.int n) (dp_means r)
theorem flat_means : ∀ ms : List (Option Nat), PyData.canLayAll0 (ms.map md) = true ∧ PyData.depthAll (ms.map md) ≤ 1
  | [] => by simp [PyData.canLayAll0, PyData.depthAll]
  | m :: r => by
    obtain ⟨h1, h2⟩ := flat_means r
    cases m <;> simp [md, PyData.canLayAll0, PyData.canLay0, PyData.depthAll, PyData.depth, h1] <;> omega
theorem shaped_means (ms : List (Option Nat)) : SeqAt.shaped (.tuple (ms.map md)) = true := by
  obtain ⟨h1, h2⟩ := flat_means ms
  unfold SeqAt.shaped
  rw [Bool.and_eq_true]
  refine ⟨by simp [PyData.canLay0, h1], decide_eq_true ?_⟩
  simp [PyData.depth]
  omega
theorem eqv_means : ∀ ms ns : List (Option Nat), PyData.eqvAll (ms.map md) (ns.map md) = decide (ms = ns)
  | [], [] => by simp [PyData.eqvAll]
  | [], _ :: _ => by simp [PyData.eqvAll]
  | _ :: _, [] => by simp [PyData.eqvAll]
  | m :: r, n :: s => by
    have ih := eqv_means r s
    have h : PyData.eqv (md m) (md n) = decide (m = n) := by
      cases m with
      | none => cases n <;> simp [md, PyData.eqv]
      | some a =>
        cases n with
        | none => simp [md, PyData.eqv]
        | some c =>
          show ((a : Int) == (c : Int)) = decide (some a = some c)
          by_cases z : a = c
          · simp [z]
          · rw [decide_eq_false (by simpa using z)]
            exact beq_false_of_ne (by omega)
    simp only [List.map_cons, PyData.eqvAll, ih, h, List.cons.injEq]
    by_cases h1 : m = n <;> by_cases h2 : r = s <;> simp [h1, h2]
theorem eqv_tup (ms ns : List (Option Nat)) : PyData.eqv (.tuple (ms.map md)) (.tuple (ns.map md)) = decide (ms = ns) := by
  rw [← eqv_means]
  simp [PyData.eqv]
def spLayInit (C : Addr) : Sp := fun vs H Q _ => ∃ (p dx q : Addr) (b : Nat) (ms : List (Option Nat)), vs = [.ref p, .int (b : Int), .ref q] ∧ LayOk b ms ∧ (H q = some (.lst (ms.map mv)) ∨ H q = some (.tup (ms.map mv))) ∧ H p = some (.ins C dx []) ∧
  ∀ H', IsLay H' C p b ms → (∀ a o, H a = some o → a ≠ p → H' a = some o) → Q .non H'
def spLayEq (K : PySem.W.Frag) (C : Addr) : Sp := fun vs H Q _ => ∃ (x : Addr) (y : V) (b : Nat) (ms : List (Option Nat)), vs = [.ref x, y] ∧ IsLay H C x b ms ∧
  ((∃ y' b' ns, y = .ref y' ∧ IsLay H C y' b' ns ∧ Q (.bl (decide (b = b' ∧ ms = ns))) H) ∨ (NotO K C H y ∧ Q (.bl false) H))
def spLayStr (C : Addr) : Sp := fun vs H Q _ => ∃ (x : Addr) (b : Nat) (ms : List (Option Nat)), vs = [.ref x] ∧ IsLay H C x b ms ∧ LayOk b ms ∧ ∀ H', Same H H' → Q (.str (layText b ms)) H'
def spLayRead (C : Addr) : Sp := fun vs H Q _ => ∃ (b : Nat) (ms : List (Option Nat)), vs = [.str (layText b ms)] ∧ LayOk b ms ∧ ∀ x H', H x = none → Same H H' → IsLay H' C x b ms → Q (.ref x) H'
def spIsMean (K : PySem.W.Frag) : Sp := fun vs H Q _ => ∃ (x : V) (b : Bool), vs = [x] ∧ IsI K H x b ∧ Q (.bl (decide (x = .non) || (b && inB (some 0) (some 63) x))) H
def spMeanAt : Sp := fun vs H Q _ => ∃ (q : Addr) (ys : List Str) (i : Nat) (m : Option Nat), vs = [.ref q, .int (i : Int)] ∧ H q = some (.lst (ys.map V.str)) ∧ ys[i]? = some (mtx m) ∧ (∀ n, m = some n → n ≤ 63) ∧ Q (mv m) H
/-- a layout is made: what __init__ is asked -/
theorem make_lay {C x dx D : Addr} {b : Nat} {ms : List (Option Nat)} {H1 : Hp} {R : Hp → Prop} {E : XK} (ok : LayOk b ms) (hD : H1 D = some (.lst (ms.map mv)) ∨ H1 D = some (.tup (ms.map mv))) (nx : H1 x = none) (ndx : H1 dx = none)
    (k : ∀ H3, Same H1 H3 → IsLay H3 C x b ms → R H3) : spLayInit C [.ref x, .int (b : Int), .ref D] (upd (upd H1 dx (.own x)) x (.ins C dx [])) (fun v H2 => v = .non ∧ R H2) E := by
  have old : ∀ a o, H1 a = some o → (upd (upd H1 dx (.own x)) x (.ins C dx [])) a = some o := fun a o e => by
    rw [upd_ne (ne_of_none e nx), upd_ne (ne_of_none e ndx)]
    exact e
  exact ⟨x, dx, D, b, ms, rfl, ok, hD.elim (fun h => .inl (old _ _ h)) (fun h => .inr (old _ _ h)), upd_same, fun H3 hl keep => ⟨rfl, k H3 (fun a o e => keep a o (old a o e) (ne_of_none e nx)) hl⟩⟩
theorem IsLay.but {H H' : Hp} {C x p : Addr} {b : Nat} {ms : List (Option Nat)} {xs : List V} (h : IsLay H C x b ms) (s : But p H H') (hp : H p = some (.lst xs)) : IsLay H' C x b ms := by
  obtain ⟨dx, fs, t, h1, h2, h3, h4⟩ := h
  exact ⟨dx, fs, t, s _ _ h1 (ne_of h1 hp (by intro z; cases z)), h2, h3, s _ _ h4 (ne_of h4 hp (by intro z; cases z))⟩
theorem ne_lay {K : PySem.W.Frag} {C x y : Addr} {b b' : Nat} {ms ns : List (Option Nat)} {H : Hp} {Q : VK} {E : XK} (hx : IsLay H C x b ms) (hy : IsLay H C y b' ns) (k : Q (.bl (!decide (b = b' ∧ ms = ns))) H) : rNeO K C (spLayEq K C) E (.ref x) (.ref y) H Q := by
  obtain ⟨dx, fs, t, h1, _⟩ := id hx
  obtain ⟨dy, gs, u, g1, _⟩ := id hy
  exact ⟨x, dx, fs, rfl, h1, .inl ⟨y, dy, gs, rfl, g1⟩, x, .ref y, b, ms, rfl, hx, .inl ⟨y, b', ns, rfl, hy, _, rfl, k⟩⟩
theorem eq_lay {K : PySem.W.Frag} {C x y : Addr} {b b' : Nat} {ms ns : List (Option Nat)} {H : Hp} {Q : VK} {E : XK} (hx : IsLay H C x b ms) (hy : IsLay H C y b' ns) (k : Q (.bl (decide (b = b' ∧ ms = ns))) H) : rEqO K C (spLayEq K C) E (.ref x) (.ref y) H Q := by
  obtain ⟨dx, fs, t, h1, _⟩ := id hx
  obtain ⟨dy, gs, u, g1, _⟩ := id hy
  exact ⟨x, dx, fs, rfl, h1, .inl ⟨y, dy, gs, rfl, g1⟩, x, .ref y, b, ms, rfl, hx, .inl ⟨y, b', ns, rfl, hy, _, rfl, k⟩⟩
theorem ne_same {b : Nat} {ms : List (Option Nat)} : (!decide (b = b ∧ ms = ms)) = false := by simp
section
variable {P : Program} {w : World} {K : PySem.W.Frag} {mg : Str → Option Value} {base : Heap}
/-- whatever is laid anew, it is a list or a tuple, or none -/
def EvL (K : PySem.W.Frag) (H : Hp) (x : V) (b : Bool) : Prop := ∀ H', Same H H' → IsL K H' x b
def EvI (K : PySem.W.Frag) (H : Hp) (x : V) (b : Bool) : Prop := ∀ H', Same H H' → IsI K H' x b
def spIsList (K : PySem.W.Frag) : Sp := fun vs H Q _ => ∃ (x : V) (b : Bool), vs = [x] ∧ EvL K H x b ∧ ∀ H', Same H H' → Q (.bl b) H'
theorem sc_is_list : FnScope ["value"] ["value"] (defScope s_is_list) := ⟨rfl, rfl, rfl, by decide +kernel, rfl, by decide +kernel, by decide +kernel⟩
theorem ok_is_list {f : Addr} {fd : FuncData} (F : Fun K "is_list" "is_list" s_is_list f fd) (T : Blt mg) : FnOk P w K mg base CX0 1 f fd ["value"] (spIsList K) := by
  refine F.ok sc_is_list (fun vs H Q E h => ?_) (fun cdv A outer s H vs Q E hr h => ?_)
  · obtain ⟨x, b, rfl, _⟩ := h
    rfl
  · obtain ⟨x, b, rfl, hL, k⟩ := h
    refine ⟨_, (pss_one (ps_ret (pe_callB call_isiT (by rfl) T.n_isinstance (by decide +kernel) (pa_cons (pv 0) (pa_cons (pe_tup (pa_cons (pe_bltn (v := .ty "list") (by rfl) T.n_list (by decide +kernel) rfl) (pa_cons (pe_bltn (v := .ty "tuple") (by rfl) T.n_tuple (by decide +kernel) rfl) pa_nil))) pa_nil))))), ?_⟩
    refine ⟨_, rfl, (by show 2 ≤ sizeLine; decide), fun t ht => ?_⟩
    have S := same_new (o := .tup [.ty "list", .ty "tuple"]) ht
    obtain ⟨ty, hty, hk⟩ := isL_any (hL _ S)
    exact ⟨_, t, _, ty, _, b, rfl, upd_same, .cons (.ty _) (.cons (.ty _) .nil), hty, hk, k _ S⟩
theorem sc__is_meaning : FnScope ["value"] ["value"] (defScope s__is_meaning) := ⟨rfl, rfl, rfl, by decide +kernel, rfl, by decide +kernel, by decide +kernel⟩
abbrev N__is_meaning : List Str := ["value"]
theorem ok__is_meaning {f f1 f2 : Addr} {fd fd1 fd2 : FuncData} (F : Fun K "_is_meaning" "_is_meaning" s__is_meaning f fd) (T : Blt mg) (D_is_within : Df K mg "is_within" s_is_within ["value", "least", "most"] f1 fd1) (D_is_integer : Df K mg "is_integer" s_is_integer ["value"] f2 fd2) : FnOk P w K mg base CX0 3 f fd ["value"] (spIsMean K) := by
  have G_is_within : FnOk P w K mg base CX0 2 f1 fd1 ["value", "least", "most"] (spWithin K) := ok_is_within D_is_within.F D_is_integer T
  refine F.ok sc__is_meaning (fun vs H Q E h => ?_) (fun cdv A outer s H vs Q E hr h => ?_)
  · obtain ⟨x, b, rfl, _⟩ := h
    rfl
  · obtain ⟨x, b, rfl, hI, k⟩ := h
    refine ⟨_, (pss_one (ps_ret (pe_or (pe_cmpR op_isN (pv 0) pe_non (nomark _)) (pe_one (pe_call G_is_within (hr.mono (by decide)) (by rfl) D_is_within.g D_is_within.F.kp D_is_within.b .nil pass0 (pa_cons (pv 0) (pa_cons pe_int (pa_cons (pe_glob (v := .int 63) rfl T.g_MOST_STATE.choose_spec ⟨_, rfl⟩) pa_nil)))))))), ?_⟩
    refine ⟨_, rfl, rfl, _, rfl, ?_⟩
    refine iteB (fun c => ?_) (fun c => ?_)
    · rw [c, Bool.true_or] at k
      exact k
    · rw [c, Bool.false_or] at k
      exact ⟨_, rfl, x, some 0, some 63, b, rfl, hI, k⟩
theorem sc__meaning_at : FnScope ["items", "at"] ["items", "at"] (defScope s__meaning_at) := ⟨rfl, rfl, rfl, by decide +kernel, rfl, by decide +kernel, by decide +kernel⟩
abbrev N__meaning_at : List Str := ["items", "at"]
theorem ok__meaning_at {f f1 f2 : Addr} {fd fd1 fd2 : FuncData} (F : Fun K "_meaning_at" "_meaning_at" s__meaning_at f fd) (T : Blt mg) (D_item_at : Df K mg "item_at" s_item_at ["items", "at"] f1 fd1) (D_integer_at : Df K mg "integer_at" s_integer_at ["items", "at", "least", "most"] f2 fd2) (G_integer_at : FnOk P w K mg base CX0 3 f2 fd2 ["items", "at", "least", "most"] spIntAt) : FnOk P w K mg base CX0 4 f fd ["items", "at"] spMeanAt := by
  have G_item_at : FnOk P w K mg base CX0 1 f1 fd1 ["items", "at"] spItemAt := ok_item_at D_item_at.F T
  refine F.ok sc__meaning_at (fun vs H Q E h => ?_) (fun cdv A outer s H vs Q E hr h => ?_)
  · obtain ⟨q, ys, i, m, rfl, _⟩ := h
    rfl
  · obtain ⟨q, ys, i, m, rfl, hq, hy, hm, k⟩ := h
    refine ⟨_, (pss_cons (ps_if (pt_cmpR op_eq (pe_call G_item_at (hr.mono (by decide)) (by rfl) D_item_at.g D_item_at.F.kp D_item_at.b .nil pass0 (pa_cons (pv 0) (pa_cons (pv 1) pa_nil))) (pe_glob (v := .str "-") rfl T.g_NOTHING.choose_spec ⟨_, rfl⟩) (nomark _)) (pss_one (ps_ret pe_non)) pss_nil)
  (pss_one (ps_ret (pe_call G_integer_at (hr.mono (by decide)) (by rfl) D_integer_at.g D_integer_at.F.kp D_integer_at.b .nil pass0 (pa_cons (pv 0) (pa_cons (pv 1) (pa_cons pe_int (pa_cons (pe_glob (v := .int 63) rfl T.g_MOST_STATE.choose_spec ⟨_, rfl⟩) pa_nil)))))))), ?_⟩
    refine ⟨_, rfl, _, rfl, q, ys, i, mtx m, rfl, hq, hy, rfl, _, rfl, ?_⟩
    cases m with
    | none => exact iteB (fun _ => k) (fun c => absurd c (by decide +kernel))
    | some n =>
      have hn := hm n rfl
      have ne := (ds_small n (by omega)).2.2.2.2.2.2.1
      refine iteB (fun c => absurd (V.str.inj (of_decide_eq_true c)) ne) (fun _ => ?_)
      exact ⟨_, rfl, _, rfl, q, ys, i, n, 0, 63, rfl, hq, hy, by omega, by omega, by omega, k⟩
theorem sc_Layout_init : FnScope ["self", "bits", "means", "item"] ["self", "bits", "means"] (defScope s_Layout_init) := ⟨rfl, rfl, rfl, by decide +kernel, rfl, by decide +kernel, by decide +kernel⟩
abbrev N_Layout_init : List Str := ["self", "bits", "means", "item"]
theorem lay_all {K : PySem.W.Frag} {H : Hp} {b : Nat} {ms : List (Option Nat)} (ok : LayOk b ms) {i : Nat} {x : V} (h : (ms.map mv)[i]? = some x) : ∃ c, IsI K H x c ∧ (decide (x = .non) || (c && inB (some 0) (some 63) x)) = true := by
  rw [List.getElem?_map] at h
  cases e : ms[i]? with
  | none => rw [e] at h; cases h
  | some m =>
    rw [e] at h
    cases h
    cases m with
    | none => exact ⟨false, isI_non, by decide⟩
    | some n =>
      have := ok.small n (List.mem_of_getElem? e)
      refine ⟨true, isI_int _, ?_⟩
      show (decide (V.int (n : Int) = .non) || (true && inB (some 0) (some 63) (.int (n : Int)))) = true
      rw [in_bounds (by omega) (by omega), Bool.or_true]
theorem ok_Layout_init {f f1 f2 f3 f4 C : Addr} {fd fd1 fd2 fd3 fd4 : FuncData} (F : Fun K "__init__" "Layout.__init__" s_Layout_init f fd) (T : Blt mg) (O_Layout : OwnC K mg "Layout" C f) (n1 : NoAttr K C "bits") (n2 : NoAttr K C "means") (D_is_within : Df K mg "is_within" s_is_within ["value", "least", "most"] f1 fd1) (D_is_integer : Df K mg "is_integer" s_is_integer ["value"] f2 fd2) (D_is_list : Df K mg "is_list" s_is_list ["value"] f3 fd3) (D__is_meaning : Df K mg "_is_meaning" s__is_meaning ["value"] f4 fd4) :
    FnOk P w K mg base CX0 4 f fd ["self", "bits", "means"] (spLayInit C) := by
  have G_is_within : FnOk P w K mg base CX0 2 f1 fd1 ["value", "least", "most"] (spWithin K) := ok_is_within D_is_within.F D_is_integer T
  have G_is_list : FnOk P w K mg base CX0 1 f3 fd3 ["value"] (spIsList K) := ok_is_list D_is_list.F T
  have G__is_meaning : FnOk P w K mg base CX0 3 f4 fd4 ["value"] (spIsMean K) := ok__is_meaning D__is_meaning.F T D_is_within D_is_integer
  refine F.ok sc_Layout_init (fun vs H Q E h => ?_) (fun cdv A outer s H vs Q E hr h => ?_)
  · obtain ⟨p, dx, q, b, ms, rfl, _⟩ := h
    rfl
  · obtain ⟨p, dx, q, b, ms, rfl, ok, hq, hp, k⟩ := h
    have b1 := ok.b1
    have b8 := ok.b8
    have hlen : (ms.map mv).length = 2 ^ b := by rw [List.length_map]; exact ok.len
    have p8 := pow8 b8
    refine ⟨_, (pss_cons (ps_if (pt_not (pt_val (pe_call G_is_within (hr.mono (by decide)) (by rfl) D_is_within.g D_is_within.F.kp D_is_within.b .nil pass0 (pa_cons (pv 1) (pa_cons pe_int (pa_cons (pe_glob (v := .int 8) rfl T.g_MOST_BITS.choose_spec ⟨_, rfl⟩) pa_nil)))))) (pss_one ps_never) pss_nil)
  (pss_cons (ps_if (PW.pt (pw_or (pt_not (pt_val (pe_call G_is_list (hr.mono (by decide)) (by rfl) D_is_list.g D_is_list.F.kp D_is_list.b .nil pass0 (pa_cons (pv 2) pa_nil)))) (pw_or (pt_cmpR op_ne (pe_callB call_len_seq (by rfl) T.n_len (by decide +kernel) (pa_cons (pv 2) pa_nil)) (pe_op op_oneN pe_int (pv 1)) (nomark _)) (pw_or1 (pt_not (pt_val (pe_callB (cr_all rfl) (by rfl) T.n_all (by decide +kernel) (pa_cons (pe_lc (own := [("item", 3)]) (g := (gName 3)) (tt := tYes) rfl sc_Layout_init.nd (pi_seqA (pv 2)) (blkOk_by (N := N_Layout_init) (own := [("item", 3)]) (sc := defScope s_Layout_init) (by decide +kernel)) (fun _ _ _ _ _ => (pg_name (i := 3) sc_Layout_init.nd rfl (Or.inl rfl))) (fun _ _ _ _ _ => pts_nil) (fun _ _ _ _ _ => (pe_call G__is_meaning (hr.mono (by decide)) (by rfl) D__is_meaning.g D__is_meaning.F.kp D__is_meaning.b .nil pass0 (pa_cons (pv 3) pa_nil)))) pa_nil)))))))) (pss_one ps_never) pss_nil)
  (pss_cons (ps_fld (pv 0) (pv 1) rfl)
  (pss_one (ps_fld (pv 0) (pe_callTy call_tuple_of (by rfl) T.n_tuple (by decide +kernel) (pa_cons (pv 2) pa_nil)) rfl))))), ?_⟩
    refine ⟨_, rfl, _, some 1, some 8, true, rfl, isI_int _, _, rfl, ?_⟩
    rw [in_bounds (show (1 : Int) ≤ (b : Int) by omega) (show (b : Int) ≤ 8 by omega)]
    refine iteF ?_
    have hL : EvL K H (.ref q) true := fun H' S => hq.elim (fun h => isL_lst (S _ _ h)) fun h => isL_tup (S _ _ h)
    refine ⟨_, rfl, _, true, rfl, hL, fun H1 S1 => ⟨_, rfl, iteF ?_⟩⟩
    have hq1 : SqL K H1 q (ms.map mv) ∨ SqT K H1 q (ms.map mv) := hq.elim (fun h => .inl (SqL.of (S1 _ _ h))) fun h => .inr (SqT.of (S1 _ _ h))
    refine ⟨_, rfl, q, _, rfl, hq1, _, rfl, b, rfl, rfl, by omega, rfl, _, rfl, ?_⟩
    rw [hlen]
    refine iteB (fun c => absurd c (by simp)) (fun _ => ?_)
    refine ⟨_, rfl, q, rfl, lc_seqA hq1 (fun D i H' => Same H1 H' ∧ H' D = some (.lst (List.replicate i (V.bl true)))) (fun D hD => ⟨same_new hD, upd_same⟩) (fun D i H' _ _ h => h.1) ?_ ?_⟩
    · rintro D i x H' hD hx ⟨S2, hl⟩
      obtain ⟨c, hI, e⟩ := lay_all (K := K) (H := H') ok hx
      have hi := (List.getElem?_eq_some_iff.mp hx).1
      refine ⟨rfl, _, rfl, x, c, rfl, hI, _, hl, by rw [List.length_replicate, sizeLine_eq]; omega, fun a o ea => ?_, ?_⟩
      · rw [upd_ne (ne_of_none ea hD)]
        exact S2 a o ea
      · rw [upd_same, e, List.replicate_succ']
    · rintro D H2 hD ⟨S2, hl⟩
      refine ⟨D, List.replicate (ms.map mv).length true, rfl, SqL.of (by rw [List.map_replicate]; exact hl), _, rfl, ?_⟩
      rw [show (List.replicate (ms.map mv).length true).all id = true by simp]
      refine iteF ?_
      have S := S1.trans S2
      refine ⟨_, rfl, _, rfl, p, C, dx, [], rfl, S _ _ hp, O_Layout.cl, n1, (by show 0 < 1000; decide), ?_⟩
      have npq : q ≠ p := by
        rcases hq with h | h
        · exact ne_of h hp (by intro z; cases z)
        · exact ne_of h hp (by intro z; cases z)
      have fin : ∀ (H3 : Hp) (t : Addr), (∀ a o, H a = some o → a ≠ p → H3 a = some o) → H3 t = some (.tup (ms.map mv)) → t ≠ p → Q .non (upd H3 p (.ins C dx (putF ("means" : Str) (.ref t) (putF ("bits" : Str) (.int (b : Int)) [])))) := fun H3 t keep ht hn => by
        refine k _ ⟨dx, _, t, upd_same, ?_, ?_, ?_⟩ fun a o e na => ?_
        · rfl
        · rfl
        · rw [upd_ne hn]
          exact ht
        · rw [upd_ne na]
          exact keep a o e na
      have few : (putF ("bits" : Str) (V.int (b : Int)) []).length < 1000 := by show 1 < 1000; decide
      have keep : ∀ a o, H a = some o → a ≠ p → (upd H2 p (.ins C dx (putF ("bits" : Str) (V.int (b : Int)) []))) a = some o := fun a o e na => by
        rw [upd_ne na]
        exact S a o e
      rcases hq with hq | hq
      · refine ⟨_, rfl, q, _, rfl, .inl ⟨SqL.of (keep _ _ hq npq), fun l hl => ?_⟩⟩
        have nlp : p ≠ l := ne_of_none upd_same hl
        refine ⟨_, rfl, p, C, dx, _, rfl, ?_, O_Layout.cl, n2, few, ?_⟩
        · rw [upd_ne nlp, upd_same]
        · refine fin _ l (fun a o e na => ?_) upd_same nlp.symm
          rw [upd_ne (ne_of_none (keep a o e na) hl)]
          exact keep a o e na
      · refine ⟨_, rfl, q, _, rfl, .inr ⟨SqT.of (keep _ _ hq npq), ?_⟩⟩
        exact ⟨_, rfl, p, C, dx, _, rfl, upd_same, O_Layout.cl, n2, few, fin _ q keep (keep _ _ hq npq) npq⟩
end
end K25
namespace K25
open PySem PySem.Spec PyProof.Rows L2 OB SkE
section
variable {P : Program} {w : World} {K : PySem.W.Frag} {mg : Str → Option Value} {base : Heap}
theorem sc_Layout_eq : FnScope ["self", "other"] ["self", "other"] (defScope s_Layout_eq) := ⟨rfl, rfl, rfl, by decide +kernel, rfl, by decide +kernel, by decide +kernel⟩
abbrev N_Layout_eq : List Str := ["self", "other"]
theorem ok_Layout_eq {f fI C : Addr} {fd : FuncData} (F : Fun K "__eq__" "Layout.__eq__" s_Layout_eq f fd) (T : Blt mg) (O_Layout : OwnC K mg "Layout" C fI) (n1 : NoAttr K C "bits") (n2 : NoAttr K C "means") : FnOk P w K mg base CX0 1 f fd ["self", "other"] (spLayEq K C) := by
  refine F.ok sc_Layout_eq (fun vs H Q E h => ?_) (fun cdv A outer s H vs Q E hr h => ?_)
  · obtain ⟨x, y, b, ms, rfl, _⟩ := h
    rfl
  · obtain ⟨x, y, b, ms, rfl, hx, h⟩ := h
    refine ⟨_, (pss_one (ps_ret (pe_and (pe_callB call_isi (by rfl) T.n_isinstance (by decide +kernel) (pa_cons (pv 1) (pa_cons (pe_glob (v := .ref _) (by rfl) O_Layout.g rfl) pa_nil))) (pe_and (pe_cmpR op_eq (pe_fld (pv 0) rfl) (pe_fld (pv 1) rfl) (nomark _)) (pe_one (pe_cmpR (op_eqD hr.units) (pe_fld (pv 0) rfl) (pe_fld (pv 1) rfl) (nomark _))))))), ?_⟩
    rcases h with ⟨y', b', ns, rfl, hy, k⟩ | ⟨⟨t, ty, ht⟩, k⟩
    · obtain ⟨dx, fs, t, h1, h2, h3, h4⟩ := hx
      obtain ⟨dy, gs, u, g1, g2, g3, g4⟩ := hy
      refine ⟨_, rfl, _, .ref C, .ref C, .ref C, true, rfl, .own C, O_Layout.ty g1, O_Layout.self, true, rfl, ?_⟩
      refine iteT ?_
      refine ⟨_, rfl, x, C, dx, _, _, rfl, h1, O_Layout.cl, n1, h2, _, rfl, y', C, dy, _, _, rfl, g1, O_Layout.cl, n1, g2, rfl, _, rfl, ?_⟩
      refine iteB (fun c => ?_) (fun c => ?_)
      · have e : b = b' := by
          have := V.int.inj (of_decide_eq_true c)
          omega
        refine ⟨_, rfl, x, C, dx, _, _, rfl, h1, O_Layout.cl, n2, h3, _, rfl, y', C, dy, _, _, rfl, g1, O_Layout.cl, n2, g3, ?_⟩
        refine ⟨.tuple (ms.map md), .tuple (ns.map md), Dp.tup (SqT.of h4) (dp_means ms), Dp.tup (SqT.of g4) (dp_means ns), shaped_means ms, shaped_means ns, ?_⟩
        rw [eqv_tup]
        rw [show decide (b = b' ∧ ms = ns) = decide (ms = ns) by simp [e]] at k
        exact k
      · have e : ¬ b = b' := fun z => of_decide_eq_false c (by rw [z])
        rw [show decide (b = b' ∧ ms = ns) = false by simp [e]] at k
        exact k
    · exact ⟨_, rfl, y, .ref C, t, .ref C, false, rfl, .own C, ty, ht, false, rfl, iteF k⟩
theorem sc_Layout_str : FnScope ["self", "state"] ["self"] (defScope s_Layout_str) := ⟨rfl, rfl, rfl, by decide +kernel, rfl, by decide +kernel, by decide +kernel⟩
abbrev N_Layout_str : List Str := ["self", "state"]
theorem txt_join (y : Str) (a : Str) (r : List Str) : Txt.join y (a :: r) = Txt.join y (a :: r) := rfl
theorem mtx_len {m : Option Nat} (h : ∀ n, m = some n → n ≤ 63) : (mtx m).length ≤ 3 := by
  cases m with
  | none => show (Str.ofString "-").length ≤ 3; decide +kernel
  | some n => exact (ds_small n (by have := h n rfl; omega)).2.2.2.1
theorem sum_le : ∀ l : List Nat, (∀ x ∈ l, x ≤ 3) → l.sum ≤ 3 * l.length
  | [], _ => by simp
  | a :: r, h => by
    have h1 := h a List.mem_cons_self
    have h2 := sum_le r fun x hx => h x (List.mem_cons_of_mem _ hx)
    rw [List.sum_cons, List.length_cons]
    omega
theorem lay_room {b : Nat} {ms : List (Option Nat)} (ok : LayOk b ms) : ((ds b :: ms.map mtx).map (·.length)).sum + (ds b :: ms.map mtx).length * (" " : Str).length ≤ 2000 := by
  have h1 : ∀ x ∈ (ds b :: ms.map mtx).map (·.length), x ≤ 3 := by
    intro x hx
    obtain ⟨y, hy, rfl⟩ := List.mem_map.mp hx
    rcases List.mem_cons.mp hy with rfl | hy
    · exact (ds_small b (by have := ok.b8; omega)).2.2.2.1
    · obtain ⟨m, hm, rfl⟩ := List.mem_map.mp hy
      exact mtx_len fun n e => ok.small n (e ▸ hm)
  have h2 := sum_le _ h1
  rw [List.length_map] at h2
  have h3 : (ds b :: ms.map mtx).length ≤ 257 := by
    rw [List.length_cons, List.length_map, ok.len]
    have := pow8 ok.b8
    omega
  rw [show (" " : Str).length = 1 by decide +kernel]
  omega
theorem log_small {n : Nat} (h : n < 256) : ((n : Int)).natAbs.log2 < 1920 := by
  rw [Int.natAbs_natCast]
  by_cases e : n = 0
  · rw [e]
    decide
  · have := (Nat.log2_lt e).mpr (show n < 2 ^ 8 from h)
    omega
theorem ok_Layout_str {f fI C : Addr} {fd : FuncData} (F : Fun K "__str__" "Layout.__str__" s_Layout_str f fd) (T : Blt mg) (O_Layout : OwnC K mg "Layout" C fI) (n1 : NoAttr K C "bits") (n2 : NoAttr K C "means") : FnOk P w K mg base CX0 1 f fd ["self"] (spLayStr C) := by
  refine F.ok sc_Layout_str (fun vs H Q E h => ?_) (fun cdv A outer s H vs Q E hr h => ?_)
  · obtain ⟨x, b, ms, rfl, _⟩ := h
    rfl
  · obtain ⟨x, b, ms, rfl, ⟨dx, fs, t, h1, h2, h3, h4⟩, ok, k⟩ := h
    have b8 := ok.b8
    refine ⟨_, (pss_one (ps_ret (pe_join pe_str (pe_op op_cat (pe_lst (pa_cons (pe_callTy call_str_int (by rfl) T.n_str (by decide +kernel) (pa_cons (pe_fld (pv 0) rfl) pa_nil)) pa_nil)) (pe_lc (own := [("state", 1)]) (g := (gName 1)) (tt := tYes) rfl sc_Layout_str.nd (pi_tup (pe_fld (pv 0) rfl)) (blkOk_by (N := N_Layout_str) (own := [("state", 1)]) (sc := defScope s_Layout_str) (by decide +kernel)) (fun _ _ _ _ _ => (pg_name (i := 1) sc_Layout_str.nd rfl (Or.inl rfl))) (fun _ _ _ _ _ => pts_nil) (fun _ _ _ _ _ => (pe_ifExp (pt_cmpR op_isN (pv 1) pe_non (nomark _)) (pe_glob (v := .str "-") rfl T.g_NOTHING.choose_spec ⟨_, rfl⟩) (pe_callTy call_str_int (by rfl) T.n_str (by decide +kernel) (pa_cons (pv 1) pa_nil))))))))), ?_⟩
    refine ⟨⟨_, rfl⟩, _, rfl, x, C, dx, _, _, rfl, h1, O_Layout.cl, n1, h2, _, rfl, log_small (by omega), ?_⟩
    refine ⟨by show 1 ≤ sizeLine; decide, fun l hl => ?_⟩
    have S1 := same_new (o := .lst [.str (ds b)]) hl
    refine ⟨_, rfl, x, C, dx, _, _, rfl, S1 _ _ h1, O_Layout.cl, n2, h3, t, rfl, ⟨_, SqT.of (S1 _ _ h4)⟩, fun D hD => ?_⟩
    have nlD : l ≠ D := ne_of_none upd_same hD
    refine lc_tup (K := K) (a := t) (xs := ms.map mv) (fun i H' => Same (upd H l (.lst [.str (ds b)])) H' ∧ H' D = some (.lst (((ms.take i).map mtx).map V.str))) ⟨same_new hD, upd_same⟩ (fun i H' _ h => SqT.of (h.1 _ _ (S1 _ _ h4))) ?_ ?_
    · rintro i y H' hy ⟨S2, hD2⟩
      obtain ⟨m, hm, rfl⟩ : ∃ m, ms[i]? = some m ∧ y = mv m := by
        rw [List.getElem?_map] at hy
        cases e : ms[i]? with
        | none => rw [e] at hy; cases hy
        | some m => rw [e] at hy; exact ⟨m, rfl, (Option.some.inj hy).symm⟩
      have hi := (List.getElem?_eq_some_iff.mp hm).1
      have p8 := pow8 b8
      have size : (((ms.take i).map mtx).map V.str).length < sizeLine := by
        rw [List.length_map, List.length_map, List.length_take, sizeLine_eq]
        have := ok.len
        omega
      have fin : ∃ acc, H' D = some (.lst acc) ∧ acc.length < sizeLine ∧ Same (upd H l (.lst [.str (ds b)])) (upd H' D (.lst (acc ++ [.str (mtx m)]))) ∧ (upd H' D (.lst (acc ++ [.str (mtx m)]))) D = some (.lst (((ms.take (i + 1)).map mtx).map V.str)) := by
        refine ⟨_, hD2, size, fun a o e => ?_, ?_⟩
        · rw [upd_ne (ne_of_none e hD)]
          exact S2 a o e
        · rw [upd_same, List.take_add_one, hm]
          simp
      refine ⟨rfl, _, rfl, rfl, _, rfl, ?_⟩
      cases m with
      | none => exact iteT fin
      | some n =>
        have := ok.small n (List.mem_of_getElem? hm)
        exact iteF ⟨_, rfl, _, rfl, log_small (by omega), fin⟩
    · rintro H' ⟨S2, hD2⟩
      rw [List.length_map, List.take_length] at hD2
      have hl2 := S2 _ _ (upd_same (H := H) (a := l) (o := .lst [.str (ds b)]))
      refine ⟨l, D, [.str (ds b)], (ms.map mtx).map V.str, rfl, rfl, hl2, hD2, ?_, fun q hq => ?_⟩
      · have p8 := pow8 b8
        have := ok.len
        simp only [List.length_map, List.length_cons, List.length_nil]
        rw [sizeLine_eq]
        omega
      · refine ⟨_, q, ds b :: ms.map mtx, rfl, rfl, .inl (SqL.of upd_same), ?_, ?_⟩
        · have := lay_room ok
          omega
        · exact k _ ((S1.trans S2).trans (same_new hq))
theorem sc_Layout_read : FnScope ["text", "items", "bits", "behind", "means", "at"] ["text"] (defScope s_Layout_read) := ⟨rfl, rfl, rfl, by decide +kernel, rfl, by decide +kernel, by decide +kernel⟩
abbrev N_Layout_read : List Str := ["text", "items", "bits", "behind", "means", "at"]
theorem ds_blank {n : Nat} (h : n < 256) : 32 ∉ TL.tl (ds n) := fun z => ((ds_small n h).2.2.2.2.2.2.2 32 z).1 rfl
theorem mtx_blank {m : Option Nat} (h : ∀ n, m = some n → n ≤ 63) : 32 ∉ TL.tl (mtx m) := by
  cases m with
  | none => show 32 ∉ TL.tl (Str.ofString "-"); decide +kernel
  | some n => exact ds_blank (by have := h n rfl; omega)
theorem lay_split {b : Nat} {ms : List (Option Nat)} (ok : LayOk b ms) : Txt.split (layText b ms) " " = ds b :: ms.map mtx := by
  refine TL.split_join (s := 32) (S := []) (by decide +kernel) (by decide +kernel) (List.cons_ne_nil _ _) fun p hp => ?_
  rcases List.mem_cons.mp hp with rfl | hp
  · exact ds_blank (by have := ok.b8; omega)
  · obtain ⟨m, hm, rfl⟩ := List.mem_map.mp hp
    exact mtx_blank fun n e => ok.small n (e ▸ hm)
theorem join_room : ∀ l : List Str, (Txt.join " " l).length ≤ (l.map (·.length)).sum + l.length
  | [] => by decide +kernel
  | [a] => by
    rw [TL.join_eq]
    show a.length ≤ _
    simp only [List.map_cons, List.map_nil, List.sum_cons, List.sum_nil, List.length_cons]
    omega
  | a :: b :: r => by
    have ih := join_room (b :: r)
    rw [TL.join_eq] at ih ⊢
    show (a ++ " " ++ Str.join " " (b :: r)).length ≤ _
    rw [Str.length_append, Str.length_append, show (" " : Str).length = 1 by decide +kernel]
    simp only [List.map_cons, List.sum_cons, List.length_cons] at ih ⊢
    omega
theorem lay_len {b : Nat} {ms : List (Option Nat)} (ok : LayOk b ms) : (layText b ms).length ≤ 2000 := by
  have h1 := join_room (ds b :: ms.map mtx)
  have h2 := lay_room ok
  rw [show (" " : Str).length = 1 by decide +kernel] at h2
  unfold layText
  omega
theorem ok_Layout_read {f f1 f2 f3 f4 fI C : Addr} {fd fd1 fd2 fd3 fd4 fdI : FuncData} (F : Fun K "read" "Layout.read" s_Layout_read f fd) (T : Blt mg) (O_Layout : OwnC K mg "Layout" C fI) (D_items_of : Df K mg "items_of" s_items_of ["text"] f1 fd1) (D_integer_at : Df K mg "integer_at" s_integer_at ["items", "at", "least", "most"] f2 fd2) (G_integer_at : FnOk P w K mg base CX0 3 f2 fd2 ["items", "at", "least", "most"] spIntAt) (D__meaning_at : Df K mg "_meaning_at" s__meaning_at ["items", "at"] f3 fd3)
    (G__meaning_at : FnOk P w K mg base CX0 4 f3 fd3 ["items", "at"] spMeanAt) (D_need_end : Df K mg "need_end" s_need_end ["items", "at"] f4 fd4) (b_Layout_init : L2.Binds K fdI ["self", "bits", "means"] []) (G_Layout_init : FnOk P w K mg base CX0 4 fI fdI ["self", "bits", "means"] (spLayInit C)) : FnOk P w K mg base CX0 6 f fd ["text"] (spLayRead C) := by
  have G_items_of : FnOk P w K mg base CX0 1 f1 fd1 ["text"] spItems := ok_items_of D_items_of.F T
  have G_need_end : FnOk P w K mg base CX0 1 f4 fd4 ["items", "at"] spNeedEnd := ok_need_end D_need_end.F T
  refine F.ok sc_Layout_read (fun vs H Q E h => ?_) (fun cdv A outer s H vs Q E hr h => ?_)
  · obtain ⟨b, ms, rfl, _⟩ := h
    rfl
  · obtain ⟨b, ms, rfl, ok, k⟩ := h
    have b1 := ok.b1
    have b8 := ok.b8
    have p8 := pow8 b8
    have ol := ok.len
    refine ⟨_, (pss_cons (ps_set (i := 1) sc_Layout_read.nd rfl (Or.inr rfl) (pe_call G_items_of (hr.mono (by decide)) (by rfl) D_items_of.g D_items_of.F.kp D_items_of.b .nil pass0 (pa_cons (pv 0) pa_nil)))
  (pss_cons (ps_set (i := 2) sc_Layout_read.nd rfl (Or.inl rfl) (pe_call G_integer_at (hr.mono (by decide)) (by rfl) D_integer_at.g D_integer_at.F.kp D_integer_at.b .nil pass0 (pa_cons (pv 1) (pa_cons pe_int (pa_cons pe_int (pa_cons (pe_glob (v := .int 8) rfl T.g_MOST_BITS.choose_spec ⟨_, rfl⟩) pa_nil))))))
  (pss_cons (ps_set (i := 3) sc_Layout_read.nd rfl (Or.inl rfl) (pe_op op_add pe_int (pe_op op_oneN pe_int (pv 2))))
  (pss_cons (ps_setLc (i := 4) (own := [("at", 5)]) (g := (gName 5)) (tt := tYes) rfl sc_Layout_read.nd rfl rfl (sw_true rfl rfl rfl (by decide +kernel)) (pi_range2 (by rfl) T.n_range (pa_cons pe_int (pa_cons (pv 3) pa_nil))) (blkOk_by (N := N_Layout_read) (own := [("at", 5)]) (sc := defScope s_Layout_read) (by decide +kernel)) (fun _ _ _ _ _ => (pg_name (i := 5) sc_Layout_read.nd rfl (Or.inl rfl))) (fun _ _ _ _ _ => pts_nil) (fun _ _ _ _ _ => (pe_call G__meaning_at (hr.mono (by decide)) (by rfl) D__meaning_at.g D__meaning_at.F.kp D__meaning_at.b .nil pass0 (pa_cons (pv 1) (pa_cons (pv 5) pa_nil)))))
  (pss_cons (ps_expr (pe_call G_need_end (hr.mono (by decide)) (by rfl) D_need_end.g D_need_end.F.kp D_need_end.b .nil pass0 (pa_cons (pv 1) (pa_cons (pv 3) pa_nil))))
  (pss_one (ps_ret (pe_make O_Layout.made G_Layout_init (hr.mono (by decide)) (by rfl) O_Layout.g b_Layout_init .nil pass0 (pa_cons (pv 2) (pa_cons (pv 4) pa_nil)))))))))), ?_⟩
    have hz := lay_len ok
    refine ⟨_, rfl, _, rfl, by rw [sizeLine_eq]; omega, fun q hq => ?_⟩
    rw [lay_split ok]
    have S1 := same_new (o := .lst ((ds b :: ms.map mtx).map V.str)) hq
    have hq1 := upd_same (H := H) (a := q) (o := .lst ((ds b :: ms.map mtx).map V.str))
    refine ⟨_, rfl, q, _, 0, b, 1, 8, rfl, hq1, rfl, by omega, by omega, by omega, ?_⟩
    refine ⟨_, rfl, b, rfl, rfl, by omega, _, _, rfl, rfl, ?_⟩
    refine ⟨_, rfl, _, _, rfl, ⟨by decide, by decide, by omega, by omega⟩, fun D hD => ?_⟩
    rw [show ((1 : Int) + ((2 ^ b : Nat) : Int) - 1).toNat = 2 ^ b by omega]
    refine lc_range (lo := 1) (n := 2 ^ b) (fun i H' => Same (upd H q (.lst ((ds b :: ms.map mtx).map V.str))) H' ∧ H' D = some (.lst ((ms.take i).map mv))) ⟨same_new hD, upd_same⟩ ?_ ?_
    · rintro i H' hi ⟨S2, hD2⟩
      have hi2 : i < ms.length := by omega
      refine ⟨rfl, _, rfl, _, rfl, q, _, i + 1, ms[i], ?_, S2 _ _ hq1, ?_, fun n e => ok.small n (e ▸ List.getElem_mem hi2), _, hD2, ?_, fun a o e => ?_, ?_⟩
      · rw [show ((i + 1 : Nat) : Int) = 1 + (i : Int) by omega]
        rfl
      · rw [List.getElem?_cons_succ, List.getElem?_map, List.getElem?_eq_getElem hi2]
        rfl
      · rw [List.length_map, List.length_take, sizeLine_eq]
        omega
      · rw [upd_ne (ne_of_none e hD)]
        exact S2 a o e
      · rw [upd_same, List.take_add_one, List.getElem?_eq_getElem hi2, List.map_append]
        rfl
    · rintro H' ⟨S2, hD2⟩
      rw [← ol, List.take_length] at hD2
      refine ⟨_, rfl, _, rfl, q, _, 1 + 2 ^ b, ?_, S2 _ _ hq1, ?_, ?_⟩
      · rw [Int.natCast_add]
        rfl
      · rw [List.length_cons, List.length_map, ol]
        omega
      refine ⟨_, rfl, _, rfl, ?_⟩
      intro x dx nx ndx nex
      have nDx : D ≠ x := ne_of_none hD2 nx
      have nDd : D ≠ dx := ne_of_none hD2 ndx
      refine ⟨x, dx, D, b, ms, rfl, ok, .inl ?_, upd_same, fun H3 hl keep => ⟨rfl, k x H3 ?_ ?_ hl⟩⟩
      · rw [upd_ne nDx, upd_ne nDd]
        exact hD2
      · exact (S1.trans S2).free nx
      · exact fun a o e => by
          have e2 := (S1.trans S2) a o e
          refine keep a o ?_ (ne_of_none e2 nx)
          rw [upd_ne (ne_of_none e2 nx), upd_ne (ne_of_none e2 ndx)]
          exact e2
end
end K25
/-! A walk over a tuple or a list, whatever is done at each turn: for rows of two `for`. -/
namespace OB
open PySem PySem.Spec PyProof.Rows L2
theorem walk_tup {K : PySem.W.Frag} {a : Addr} {xs : List V} {H0 : Hp} {body : (Hp → Prop) → V → Hp → Prop} {Qd : Hp → Prop} (Pv : Nat → Hp → Prop) (h0 : Pv 0 H0) (hl : ∀ i H, i ≤ xs.length → Pv i H → SqT K H a xs)
    (hs : ∀ i x H, xs[i]? = some x → Pv i H → body (Pv (i + 1)) x H) (hd : ∀ H, Pv xs.length H → Qd H) :
    ∃ W : Nat → Nat → Hp → Prop, (∃ m, W 0 m H0) ∧ ∀ i m H, W i m H →
      ((Itt K a).stop i H ∧ Qd H) ∨ ((Itt K a).go i H ∧ ∃ Nx : Hp → Prop, (∀ H', Nx H' → ∃ m', m' < m ∧ W (i + 1) m' H') ∧ ∀ x H', (Itt K a).yld i H x H' → body Nx x H') := by
  refine ⟨fun i m H => m = xs.length - i ∧ i ≤ xs.length ∧ Pv i H, ⟨xs.length, by simp, Nat.zero_le _, h0⟩, ?_⟩
  rintro i m H ⟨rfl, hi, p⟩
  have q := hl i H hi p
  by_cases hlt : i < xs.length
  · refine .inr ⟨⟨xs, xs[i], q, by simp [hlt]⟩, Pv (i + 1), fun H' p' => ⟨xs.length - (i + 1), by omega, rfl, hlt, p'⟩, fun x H' y => ?_⟩
    obtain ⟨e, y⟩ := y
    subst e
    exact hs i x _ (y xs q) p
  · have e : i = xs.length := by omega
    subst e
    exact .inl ⟨⟨xs, q, Nat.le_refl _⟩, hd H p⟩
theorem walk_lst {K : PySem.W.Frag} {a : Addr} {xs : List V} {H0 : Hp} {body : (Hp → Prop) → V → Hp → Prop} {Qd : Hp → Prop} (Pv : Nat → Hp → Prop) (h0 : Pv 0 H0) (hl : ∀ i H, i ≤ xs.length → Pv i H → SqL K H a xs)
    (hs : ∀ i x H, xs[i]? = some x → Pv i H → body (Pv (i + 1)) x H) (hd : ∀ H, Pv xs.length H → Qd H) :
    ∃ W : Nat → Nat → Hp → Prop, (∃ m, W 0 m H0) ∧ ∀ i m H, W i m H →
      ((Itl K a).stop i H ∧ Qd H) ∨ ((Itl K a).go i H ∧ ∃ Nx : Hp → Prop, (∀ H', Nx H' → ∃ m', m' < m ∧ W (i + 1) m' H') ∧ ∀ x H', (Itl K a).yld i H x H' → body Nx x H') := by
  refine ⟨fun i m H => m = xs.length - i ∧ i ≤ xs.length ∧ Pv i H, ⟨xs.length, by simp, Nat.zero_le _, h0⟩, ?_⟩
  rintro i m H ⟨rfl, hi, p⟩
  have q := hl i H hi p
  by_cases hlt : i < xs.length
  · refine .inr ⟨⟨xs, xs[i], q, by simp [hlt]⟩, Pv (i + 1), fun H' p' => ⟨xs.length - (i + 1), by omega, rfl, hlt, p'⟩, fun x H' y => ?_⟩
    obtain ⟨e, y⟩ := y
    subst e
    exact hs i x _ (y xs q) p
  · have e : i = xs.length := by omega
    subst e
    exact .inl ⟨⟨xs, q, Nat.le_refl _⟩, hd H p⟩
end OB
namespace K25
open PySem PySem.Spec PyProof.Rows L2 OB SkE
/-- what a word means in whose low part the one means the first, the other above it the second -/
def putB (s : Nat) : Option Nat → Option Nat → Option Nat
  | some l, some h => some (l + s * h)
  | _, _ => none
def besM (s : Nat) (ms ns : List (Option Nat)) : List (Option Nat) := ns.flatMap fun h => ms.map fun l => putB s l h
def isGrt (k : Nat) : Option Nat → Bool
  | some n => decide (k ≤ n)
  | none => false
def grt (k : Nat) (ms : List (Option Nat)) : Bool := ms.any (isGrt k)
theorem besM_len {s : Nat} {ms : List (Option Nat)} : ∀ ns : List (Option Nat), (besM s ms ns).length = ns.length * ms.length
  | [] => by simp [besM]
  | h :: r => by
    have ih := besM_len (s := s) (ms := ms) r
    unfold besM at ih ⊢
    rw [List.flatMap_cons, List.length_append, ih, List.length_map, List.length_cons, Nat.add_mul, Nat.one_mul, Nat.add_comm]
theorem besM_next {s : Nat} {ms ns : List (Option Nat)} {i : Nat} {h : Option Nat} (e : ns[i]? = some h) : besM s ms (ns.take (i + 1)) = besM s ms (ns.take i) ++ ms.map fun l => putB s l h := by
  unfold besM
  rw [List.take_add_one, e, List.flatMap_append]
  simp
theorem grt_none {k : Nat} {ms : List (Option Nat)} (h : grt k ms = false) : ∀ n, some n ∈ ms → n < k := fun n hn => by
  have e := List.any_eq_false.mp h _ hn
  have e2 : ¬ (decide (k ≤ n)) = true := e
  exact Nat.lt_of_not_le fun z => e2 (decide_eq_true z)
def Bad (K : PySem.W.Frag) (H : Hp) (x : V) (lo hi : Option Int) : Prop := ∃ b, IsI K H x b ∧ (b && inB lo hi x) = false
theorem yes_no {b : Bool} {A : Prop} (h : b = true) (z : b = false) : A := by
  rw [h] at z
  cases z
def spNeedLayX (K : PySem.W.Frag) (C CB : Addr) : Sp := fun vs H Q E => ∃ (x : V) (part : Str), vs = [x, .str part] ∧ ((NotO K C H x ∧ RaisesP CB part E H) ∨ ∃ (y : Addr) (b : Nat) (ms : List (Option Nat)), x = .ref y ∧ IsLay H C y b ms ∧ Q .non H)
def spPut : Sp := fun vs H Q _ => ∃ (l h : Option Nat) (s : Nat), vs = [mv l, mv h, .int (s : Int)] ∧ s ≤ 64 ∧ (∀ n, h = some n → n ≤ 63) ∧ Q (mv (putB s l h)) H
def spMeansFrom (K : PySem.W.Frag) : Sp := fun vs H Q _ => ∃ (q : Addr) (ms : List (Option Nat)) (k : Nat), vs = [.ref q, .int (k : Int)] ∧ (H q = some (.lst (ms.map mv)) ∨ H q = some (.tup (ms.map mv))) ∧ ms.length ≤ 256 ∧ ∀ H', Same H H' → Q (.bl (grt k ms)) H'
def spBeside (K : PySem.W.Frag) (C CB CM CN : Addr) : Sp := fun vs H Q E => ∃ x y z : V, vs = [x, y, z] ∧ ((NotO K C H x ∧ RaisesP CB "one" E H) ∨
  ∃ (a : Addr) (b : Nat) (ms : List (Option Nat)), x = .ref a ∧ IsLay H C a b ms ∧ LayOk b ms ∧ ((NotO K C H y ∧ RaisesP CB "other" E H) ∨
  ∃ (a' : Addr) (b' : Nat) (ns : List (Option Nat)), y = .ref a' ∧ IsLay H C a' b' ns ∧ LayOk b' ns ∧ ((Bad K H z (some 1) (some 64) ∧ RaisesP CN "states" E H) ∨
  ∃ s : Nat, z = .int (s : Int) ∧ 1 ≤ s ∧ s ≤ 64 ∧ ((8 < b + b' ∧ RaisesP CM "bits" E H) ∨ (b + b' ≤ 8 ∧ (((grt s ms || grt 64 (besM s ms ns)) = true ∧ ∀ H', Same H H' → RaisesP CM "states" E H') ∨
    ((grt s ms || grt 64 (besM s ms ns)) = false ∧ ∀ t H', H t = none → Same H H' → IsLay H' C t (b + b') (besM s ms ns) → Q (.ref t) H')))))))
section
variable {P : Program} {w : World} {K : PySem.W.Frag} {mg : Str → Option Value} {base : Heap}
theorem sc_need_layout : FnScope ["value", "part"] ["value", "part"] (defScope s_need_layout) := ⟨rfl, rfl, rfl, by decide +kernel, rfl, by decide +kernel, by decide +kernel⟩
abbrev N_need_layout : List Str := ["value", "part"]
theorem ok_need_layout {f fI CB fB C : Addr} {fd fdB : FuncData} (F : Fun K "need_layout" "need_layout" s_need_layout f fd) (T : Blt mg) (O_Layout : OwnC K mg "Layout" C fI) (R_BadLayout : Err P w K mg base "BadLayout" "part" CB fB fdB) : FnOk P w K mg base (L2.CX P w) 4 f fd ["value", "part"] (spNeedLayX K C CB) := by
  refine F.okX sc_need_layout (fun vs H Q E h => ?_) (fun cdv A outer s H vs Q E hr h => ?_)
  · obtain ⟨x, part, rfl, _⟩ := h
    rfl
  · obtain ⟨x, part, rfl, h⟩ := h
    refine ⟨_, (pss_one (ps_if (pt_not (pt_val (pe_callB call_isi (by rfl) T.n_isinstance (by decide +kernel) (pa_cons (pv 0) (pa_cons (pe_glob (v := .ref _) (by rfl) O_Layout.g rfl) pa_nil))))) (pss_one (ps_raise1 rfl (takes_of rfl rfl rfl rfl) R_BadLayout (hr.mono (by decide)) (by rfl) (pv 1))) pss_nil)), ?_⟩
    rcases h with ⟨⟨t, ty, ht⟩, kx⟩ | ⟨y, b, ms, rfl, ⟨dx, fs, t, h1, h2, h3, h4⟩, k⟩
    · refine ⟨_, rfl, x, .ref C, t, .ref C, false, rfl, .own C, ty, ht, false, rfl, iteT ?_⟩
      refine ⟨.str part, rfl, ?_⟩
      refine raise1_of (W := fun cls d _ H => E cls d H) R_BadLayout.T R_BadLayout.no ?_
      exact fun d hd => kx d hd
    · exact ⟨_, rfl, _, .ref C, .ref C, .ref C, true, rfl, .own C, O_Layout.ty h1, O_Layout.self, true, rfl, iteF k⟩
theorem sc__put_beside : FnScope ["low", "high", "states"] ["low", "high", "states"] (defScope s__put_beside) := ⟨rfl, rfl, rfl, by decide +kernel, rfl, by decide +kernel, by decide +kernel⟩
abbrev N__put_beside : List Str := ["low", "high", "states"]
theorem ok__put_beside {f : Addr} {fd : FuncData} (F : Fun K "_put_beside" "_put_beside" s__put_beside f fd) (T : Blt mg) : FnOk P w K mg base CX0 1 f fd ["low", "high", "states"] spPut := by
  refine F.ok sc__put_beside (fun vs H Q E h => ?_) (fun cdv A outer s H vs Q E hr h => ?_)
  · obtain ⟨l, hh, s', rfl, _⟩ := h
    rfl
  · obtain ⟨l, hh, s', rfl, hs, hb, k⟩ := h
    refine ⟨_, (pss_cons (ps_if (PW.pt (pw_or (pt_cmpR op_isN (pv 0) pe_non (nomark _)) (pw_or1 (pt_cmpR op_isN (pv 1) pe_non (nomark _))))) (pss_one (ps_ret pe_non)) pss_nil)
  (pss_one (ps_ret (pe_op op_add (pv 0) (pe_op op_mul (pv 2) (pv 1)))))), ?_⟩
    cases l with
    | none =>
      refine ⟨_, rfl, rfl, _, rfl, iteT ?_⟩
      exact iteT k
    | some l =>
      cases hh with
      | none =>
        refine ⟨_, rfl, rfl, _, rfl, iteF ?_⟩
        refine ⟨_, rfl, rfl, _, rfl, iteT ?_⟩
        exact k
      | some g =>
        have := hb g rfl
        refine ⟨_, rfl, rfl, _, rfl, iteF ?_⟩
        refine ⟨_, rfl, rfl, _, rfl, iteF ?_⟩
        refine ⟨_, rfl, _, rfl, _, rfl, _, _, rfl, rfl, .inl ⟨by omega, by omega⟩, _, _, rfl, rfl, ?_⟩
        rw [show (fun i j : Int => V.int (i + j)) ((l : Nat) : Int) (((s' : Nat) : Int) * ((g : Nat) : Int)) = mv (putB s' (some l) (some g)) from congrArg V.int (by show _ = ((l + s' * g : Nat) : Int); rw [Int.natCast_add, Int.natCast_mul])]
        exact k
theorem sc__means_from : FnScope ["means", "least", "state"] ["means", "least"] (defScope s__means_from) := ⟨rfl, rfl, rfl, by decide +kernel, rfl, by decide +kernel, by decide +kernel⟩
abbrev N__means_from : List Str := ["means", "least", "state"]
theorem ok__means_from {f : Addr} {fd : FuncData} (F : Fun K "_means_from" "_means_from" s__means_from f fd) (T : Blt mg) : FnOk P w K mg base CX0 1 f fd ["means", "least"] (spMeansFrom K) := by
  refine F.ok sc__means_from (fun vs H Q E h => ?_) (fun cdv A outer s H vs Q E hr h => ?_)
  · obtain ⟨q, ms, least, rfl, _⟩ := h
    rfl
  · obtain ⟨q, ms, least, rfl, hq, hl, k⟩ := h
    refine ⟨_, (pss_one (ps_ret (pe_callB (cr_any rfl) (by rfl) T.n_any (by decide +kernel) (pa_cons (pe_lc (own := [("state", 2)]) (g := (gName 2)) (tt := tYes) rfl sc__means_from.nd (pi_seqA (pv 0)) (blkOk_by (N := N__means_from) (own := [("state", 2)]) (sc := defScope s__means_from) (by decide +kernel)) (fun _ _ _ _ _ => (pg_name (i := 2) sc__means_from.nd rfl (Or.inl rfl))) (fun _ _ _ _ _ => pts_nil) (fun _ _ _ _ _ => (pe_and (pe_cmpR op_notN (pv 2) pe_non (nomark _)) (pe_one (pe_cmpR op_ge (pv 2) (pv 1) (nomark _)))))) pa_nil)))), ?_⟩
    have hq1 : SqL K H q (ms.map mv) ∨ SqT K H q (ms.map mv) := hq.elim (fun h => .inl (SqL.of h)) fun h => .inr (SqT.of h)
    refine ⟨_, rfl, q, rfl, lc_seqA hq1 (fun D i H' => Same H H' ∧ H' D = some (.lst (((ms.map (isGrt least)).take i).map V.bl))) (fun D hD => ⟨same_new hD, upd_same⟩) (fun D i H' _ _ h => h.1) ?_ ?_⟩
    · rintro D i x H' hD hx ⟨S2, hl2⟩
      obtain ⟨m, hm, rfl⟩ : ∃ m, ms[i]? = some m ∧ x = mv m := by
        rw [List.getElem?_map] at hx
        cases e : ms[i]? with
        | none => rw [e] at hx; cases hx
        | some m => rw [e] at hx; exact ⟨m, rfl, (Option.some.inj hx).symm⟩
      have fin : ∀ y, y = V.bl (isGrt least m) → ∃ acc, H' D = some (.lst acc) ∧ acc.length < sizeLine ∧ (Same H (upd H' D (.lst (acc ++ [y]))) ∧ (upd H' D (.lst (acc ++ [y]))) D = some (.lst (((ms.map (isGrt least)).take (i + 1)).map V.bl))) := fun y hy => by
        refine ⟨_, hl2, by rw [List.length_map, List.length_take, List.length_map, sizeLine_eq]; omega, fun a o ea => ?_, ?_⟩
        · rw [upd_ne (ne_of_none ea hD)]
          exact S2 a o ea
        · rw [upd_same, hy, List.take_add_one, List.getElem?_map, hm, List.map_append]
          rfl
      cases m with
      | none =>
        refine ⟨rfl, _, rfl, rfl, _, rfl, iteF ?_⟩
        exact fin _ rfl
      | some n =>
        refine ⟨rfl, _, rfl, rfl, _, rfl, iteT ?_⟩
        refine ⟨_, rfl, _, rfl, _, _, rfl, rfl, fin _ ?_⟩
        show V.bl (decide ((least : Int) ≤ (n : Int))) = V.bl (decide (least ≤ n))
        rw [decide_eq_decide.mpr Int.ofNat_le]
    · rintro D H2 hD ⟨S2, hl2⟩
      rw [List.length_map, List.take_of_length_le (by rw [List.length_map]; omega)] at hl2
      refine ⟨D, ms.map (isGrt least), rfl, SqL.of hl2, ?_⟩
      have e : (ms.map (isGrt least)).any id = grt least ms := by
        unfold grt
        rw [List.any_map]
        rfl
      rw [e]
      exact k _ S2
end
end K25
namespace K25
open PySem PySem.Spec PyProof.Rows L2 OB SkE
section
variable {P : Program} {w : World} {K : PySem.W.Frag} {mg : Str → Option Value} {base : Heap}
theorem sc_beside_layout : FnScope ["one", "other", "states", "means", "high", "low"] ["one", "other", "states"] (defScope s_beside_layout) := ⟨rfl, rfl, rfl, by decide +kernel, rfl, by decide +kernel, by decide +kernel⟩
abbrev N_beside_layout : List Str := ["one", "other", "states", "means", "high", "low"]
theorem ok_beside_layout {f f1 f2 f3 f4 fI fM CN CB CM C : Addr} {fd fd1 fd2 fd3 fd4 fdI fdM : FuncData} (F : Fun K "beside_layout" "beside_layout" s_beside_layout f fd) (T : Blt mg) (O_Layout : OwnC K mg "Layout" C fI) (n1 : NoAttr K C "bits") (n2 : NoAttr K C "means")
    (D_need_number : Df K mg "need_number" s_need_number ["value", "part", "least", "most"] f1 fd1) (G_need_number : FnOk P w K mg base (L2.CX P w) 4 f1 fd1 ["value", "part", "least", "most"] (spNeedNumber K CN)) (D_need_layout : Df K mg "need_layout" s_need_layout ["value", "part"] f2 fd2) (G_need_layout : FnOk P w K mg base (L2.CX P w) 4 f2 fd2 ["value", "part"] (spNeedLayX K C CB))
    (D__put_beside : Df K mg "_put_beside" s__put_beside ["low", "high", "states"] f3 fd3) (D__means_from : Df K mg "_means_from" s__means_from ["means", "least"] f4 fd4) (R_Misfit : Err P w K mg base "Misfit" "part" CM fM fdM)
    (b_Layout_init : L2.Binds K fdI ["self", "bits", "means"] []) (G_Layout_init : FnOk P w K mg base CX0 4 fI fdI ["self", "bits", "means"] (spLayInit C)) : FnOk P w K mg base (L2.CX P w) 6 f fd ["one", "other", "states"] (spBeside K C CB CM CN) := by
  have G__put_beside : FnOk P w K mg base CX0 1 f3 fd3 ["low", "high", "states"] spPut := ok__put_beside D__put_beside.F T
  have G__means_from : FnOk P w K mg base CX0 1 f4 fd4 ["means", "least"] (spMeansFrom K) := ok__means_from D__means_from.F T
  refine F.okX sc_beside_layout (fun vs H Q E h => ?_) (fun cdv A outer s H vs Q E hr h => ?_)
  · obtain ⟨x, y, z, rfl, h⟩ := h
    rfl
  · obtain ⟨x, y, z, rfl, h⟩ := h
    refine ⟨_, (pss_cons (ps_expr (pe_callS G_need_layout (hr.mono (by decide)) (by rfl) D_need_layout.g D_need_layout.F.kp D_need_layout.b (fun σ => passAt (takes_of rfl rfl rfl rfl) σ) (pa_cons (pv 0) (pa_cons pe_str pa_nil))))
  (pss_cons (ps_expr (pe_callS G_need_layout (hr.mono (by decide)) (by rfl) D_need_layout.g D_need_layout.F.kp D_need_layout.b (fun σ => passAt (takes_of rfl rfl rfl rfl) σ) (pa_cons (pv 1) (pa_cons pe_str pa_nil))))
  (pss_cons (ps_expr (pe_callS G_need_number (hr.mono (by decide)) (by rfl) D_need_number.g D_need_number.F.kp D_need_number.b (fun σ => passAt (takes_of rfl rfl rfl rfl) σ) (pa_cons (pv 2) (pa_cons pe_str (pa_cons pe_int (pa_cons (pe_glob (v := .int 64) rfl T.g_MOST_STATES.choose_spec ⟨_, rfl⟩) pa_nil))))))
  (pss_cons (ps_if (pt_cmpR op_gt (pe_op op_add (pe_fld (pv 0) rfl) (pe_fld (pv 1) rfl)) (pe_glob (v := .int 8) rfl T.g_MOST_BITS.choose_spec ⟨_, rfl⟩) (nomark _)) (pss_one (ps_raise1 rfl (takes_of rfl rfl rfl rfl) R_Misfit (hr.mono (by decide)) (by rfl) pe_str)) pss_nil)
  (pss_cons (ps_setLc2 (i := 3) (own := [("high", 4), ("low", 5)]) (vs1 := [5]) (g := (gName 4)) (g1 := (gName 5)) (tt := tYes) (tt1 := tYes) (wi1 := iTup K (tFld K (tVar 0) "means")) rfl sc_beside_layout.nd rfl rfl (sw_true rfl rfl rfl (by decide +kernel)) (pi_tup (pe_fld (pv 1) rfl)) (blkOk_by (N := N_beside_layout) (own := [("high", 4), ("low", 5)]) (sc := defScope s_beside_layout) (by decide +kernel)) (by decide) (fun _ _ _ _ _ => (pg_name (i := 4) sc_beside_layout.nd rfl (Or.inl rfl))) (fun _ _ _ _ _ => pts_nil) (fun _ _ _ _ _ => (pi_tup (pe_fld (pv 0) rfl))) (fun _ _ _ _ _ => (pg_name (i := 5) sc_beside_layout.nd rfl (Or.inl rfl))) (fun _ _ _ _ _ => pts_nil) (fun _ _ _ _ _ => (pe_call G__put_beside (hr.mono (by decide)) (by rfl) D__put_beside.g D__put_beside.F.kp D__put_beside.b .nil pass0 (pa_cons (pv 5) (pa_cons (pv 4) (pa_cons (pv 2) pa_nil))))))
  (pss_cons (ps_if (PW.pt (pw_or (pt_val (pe_call G__means_from (hr.mono (by decide)) (by rfl) D__means_from.g D__means_from.F.kp D__means_from.b .nil pass0 (pa_cons (pe_fld (pv 0) rfl) (pa_cons (pv 2) pa_nil)))) (pw_or1 (pt_val (pe_call G__means_from (hr.mono (by decide)) (by rfl) D__means_from.g D__means_from.F.kp D__means_from.b .nil pass0 (pa_cons (pv 3) (pa_cons (pe_op op_add (pe_glob (v := .int 63) rfl T.g_MOST_STATE.choose_spec ⟨_, rfl⟩) pe_int) pa_nil))))))) (pss_one (ps_raise1 rfl (takes_of rfl rfl rfl rfl) R_Misfit (hr.mono (by decide)) (by rfl) pe_str)) pss_nil)
  (pss_one (ps_ret (pe_make O_Layout.made G_Layout_init (hr.mono (by decide)) (by rfl) O_Layout.g b_Layout_init .nil pass0 (pa_cons (pe_op op_add (pe_fld (pv 0) rfl) (pe_fld (pv 1) rfl)) (pa_cons (pv 3) pa_nil))))))))))), ?_⟩
    rcases h with ⟨nx, kx⟩ | ⟨a, b, ms, rfl, hx, okx, h⟩
    · exact ⟨_, rfl, _, "one", rfl, .inl ⟨nx, kx⟩⟩
    refine ⟨_, rfl, _, "one", rfl, .inr ⟨a, b, ms, rfl, hx, ?_⟩⟩
    rcases h with ⟨nx, kx⟩ | ⟨a', b', ns, rfl, hy, oky, h⟩
    · exact ⟨_, rfl, _, "other", rfl, .inl ⟨nx, kx⟩⟩
    refine ⟨_, rfl, _, "other", rfl, .inr ⟨a', b', ns, rfl, hy, ?_⟩⟩
    rcases h with ⟨⟨c, hI, hb⟩, kx⟩ | ⟨s', rfl, s1, s2, h⟩
    · exact ⟨_, rfl, _, "states", some 1, some 64, c, rfl, hI, fun z => yes_no z hb, fun _ => kx⟩
    refine ⟨_, rfl, _, "states", some 1, some 64, true, rfl, isI_int _, fun _ => ?_, fun z => yes_no (in_bounds (by omega) (by omega)) z⟩
    obtain ⟨dx, fs, t, h1, h2, h3, h4⟩ := id hx
    obtain ⟨dy, gs, u, g1, g2, g3, g4⟩ := id hy
    refine ⟨_, rfl, a, C, dx, _, _, rfl, h1, O_Layout.cl, n1, h2, _, rfl, a', C, dy, _, _, rfl, g1, O_Layout.cl, n1, g2, _, _, rfl, rfl, ?_⟩
    have pw : 2 ^ b' * 2 ^ b = 2 ^ (b + b') := by rw [← Nat.pow_add, Nat.add_comm]
    have lx := okx.len
    have ly := oky.len
    have mem : ∀ {rs : List (Option Nat)} {j : Nat} {x : V}, (rs.map mv)[j]? = some x → ∃ m, rs[j]? = some m ∧ x = mv m := fun {rs j x} e => by
      rw [List.getElem?_map] at e
      cases e2 : rs[j]? with
      | none => rw [e2] at e; cases e
      | some m => rw [e2] at e; exact ⟨m, rfl, (Option.some.inj e).symm⟩
    refine ⟨_, _, rfl, rfl, _, rfl, ?_⟩
    refine iteB (fun c => ?_) (fun c => ?_)
    · have c := of_decide_eq_true c
      rcases h with ⟨_, kx⟩ | ⟨hb, _⟩
      · refine raise1_of (σ := []) (W := fun cls d _ H => E cls d H) R_Misfit.T R_Misfit.no ?_
        exact fun d hd => kx d hd
      · exfalso
        omega
    have c := of_decide_eq_false c
    rcases h with ⟨hb, _⟩ | ⟨hb, h⟩
    · exfalso
      omega
    have p8 : 2 ^ (b + b') ≤ 256 := Nat.le_trans (Nat.pow_le_pow_right (by decide) hb) (by decide)
    have len : (besM s' ms ns).length = 2 ^ (b + b') := by rw [besM_len, lx, ly, pw]
    refine ⟨_, rfl, a', C, dy, _, _, rfl, g1, O_Layout.cl, n2, g3, u, rfl, ⟨_, SqT.of g4⟩, fun D hD => ?_⟩
    refine walk_tup (K := K) (a := u) (xs := ns.map mv) (fun i H' => Same H H' ∧ H' D = some (.lst ((besM s' ms (ns.take i)).map mv))) ⟨same_new hD, upd_same⟩ (fun i H' _ h => SqT.of (h.1 _ _ g4)) ?_ ?_
    · rintro i y H' hy ⟨S2, hl2⟩
      obtain ⟨hh, hm, rfl⟩ := mem hy
      have hi := (List.getElem?_eq_some_iff.mp hm).1
      refine ⟨rfl, _, rfl, a, C, dx, _, _, rfl, S2 _ _ h1, O_Layout.cl, n2, h3, t, rfl, ⟨_, SqT.of (S2 _ _ h4)⟩, ?_⟩
      refine walk_tup (K := K) (a := t) (xs := ms.map mv) (fun j H'' => Same H H'' ∧ H'' D = some (.lst ((besM s' ms (ns.take i)).map mv ++ ((ms.take j).map fun l => putB s' l hh).map mv))) ⟨S2, by rw [hl2]; simp⟩ (fun i H' _ h => SqT.of (h.1 _ _ h4)) ?_ ?_
      · rintro j y H'' hy ⟨S3, hl3⟩
        obtain ⟨l, hml, rfl⟩ := mem hy
        have hj := (List.getElem?_eq_some_iff.mp hml).1
        refine ⟨rfl, _, rfl, _, rfl, _, rfl, l, hh, s', rfl, s2, fun n e => oky.small n (e ▸ List.mem_of_getElem? hm), _, hl3, ?_, fun a o ea => ?_, ?_⟩
        · have q1 : (i + 1) * 2 ^ b ≤ 2 ^ b' * 2 ^ b := Nat.mul_le_mul_right _ (by omega)
          rw [Nat.add_mul, Nat.one_mul] at q1
          rw [List.length_append, List.length_map, besM_len, List.length_take, List.length_map, List.length_map, List.length_take, sizeLine_eq, lx, Nat.min_eq_left (by omega)]
          omega
        · rw [upd_ne (ne_of_none ea hD)]
          exact S3 a o ea
        · rw [upd_same, List.take_add_one, hml, List.map_append, List.map_append, List.append_assoc]
          rfl
      · rintro H'' ⟨S3, hl3⟩
        rw [List.length_map, List.take_length, ← List.map_append, ← besM_next hm] at hl3
        exact ⟨S3, hl3⟩
    · rintro H1 ⟨S1, hl1⟩
      rw [List.length_map, List.take_length] at hl1
      refine ⟨_, rfl, a, C, dx, _, _, rfl, S1 _ _ h1, O_Layout.cl, n2, h3, _, rfl, t, ms, s', rfl, .inr (S1 _ _ h4), by have := pow8 okx.b8; omega, fun H2 S2 => ⟨_, rfl, ?_⟩⟩
      have S12 := S1.trans S2
      have hl2 := S2 _ _ hl1
      refine iteB (fun c1 => ?_) (fun c1 => ?_)
      · refine iteT ?_
        rcases h with ⟨_, kx⟩ | ⟨z, _⟩
        · refine raise1_of (σ := []) (W := fun cls d _ H => E cls d H) R_Misfit.T R_Misfit.no ?_
          exact fun d hd => kx _ S12 d hd
        · rw [c1] at z
          cases z
      refine ⟨_, rfl, _, _, rfl, rfl, D, besM s' ms ns, 64, rfl, .inl hl2, by omega, fun H3 S3 => ⟨_, rfl, ?_⟩⟩
      have S13 := S12.trans S3
      have hl3 := S3 _ _ hl2
      refine iteB (fun c2 => ?_) (fun c2 => ?_)
      · rcases h with ⟨_, kx⟩ | ⟨z, _⟩
        · refine raise1_of (σ := []) (W := fun cls d _ H => E cls d H) R_Misfit.T R_Misfit.no ?_
          exact fun d hd => kx _ S13 d hd
        · rw [c2, Bool.or_true] at z
          cases z
      rcases h with ⟨z, _⟩ | ⟨_, k⟩
      · rw [c1, c2] at z
        cases z
      refine ⟨_, rfl, a, C, dx, _, _, rfl, S13 _ _ h1, O_Layout.cl, n1, h2, _, rfl, a', C, dy, _, _, rfl, S13 _ _ g1, O_Layout.cl, n1, g2, _, _, rfl, rfl, _, rfl, ?_⟩
      rw [show (fun i j : Int => V.int (i + j)) (b : Int) (b' : Int) = V.int ((b + b' : Nat) : Int) from congrArg V.int (Int.natCast_add b b').symm]
      have b1 := okx.b1
      have ok : LayOk (b + b') (besM s' ms ns) := ⟨by omega, hb, len, fun n hn => by
        have := grt_none c2 n hn
        omega⟩
      intro x dx nx ndx nex
      exact make_lay ok (.inl hl3) nx ndx fun H4 S4 hz => k x H4 (S13.free nx) (S13.trans S4) hz
end
end K25
namespace K25
open PySem PySem.Spec PyProof.Rows L2 OB SkE
/-- what words of so many bits are drawn to mean -/
def Drawn (bits states : Nat) (ms : List (Option Nat)) : Prop := ms.length = 2 ^ bits ∧ ∀ n, some n ∈ ms → n < states
def spMeans : Sp := fun vs H Q _ => ∃ (p b : Addr) (n bits states : Nat), vs = [.ref p, .int (bits : Int), .int (states : Int)] ∧ Orch H p b n ∧ n < 900000 ∧ bits ≤ 5 ∧ 1 ≤ states ∧ states ≤ 64 ∧
  ∀ (q : Addr) (ms : List (Option Nat)) (H' : Hp), H q = none → H' q = some (.lst (ms.map mv)) → Drawn bits states ms → Orch H' p b (n + 100) → But p H H' → Q (.ref q) H'
section
variable {P : Program} {w : World} {K : PySem.W.Frag} {mg : Str → Option Value} {base : Heap}
theorem sc__law_means : FnScope ["fold", "bits", "states", "way", "found", "word", "state"] ["fold", "bits", "states"] (defScope s__law_means) := ⟨rfl, rfl, rfl, by decide +kernel, rfl, by decide +kernel, by decide +kernel⟩
abbrev N__law_means : List Str := ["fold", "bits", "states", "way", "found", "word", "state"]
theorem ok__law_means {f f1 : Addr} {fd fd1 : FuncData} (F : Fun K "_law_means" "_law_means" s__law_means f fd) (T : Blt mg) (D__law_herd : Df K mg "_law_herd" s__law_herd ["fold", "many"] f1 fd1) : FnOk P w K mg base CX0 2 f fd ["fold", "bits", "states"] spMeans := by
  have G__law_herd : FnOk P w K mg base CX0 1 f1 fd1 ["fold", "many"] spDraw := ok__law_herd D__law_herd.F T
  refine F.ok sc__law_means (fun vs H Q E h => ?_) (fun cdv A outer s H vs Q E hr h => ?_)
  · obtain ⟨p, b, n, bits, states, rfl, _⟩ := h
    rfl
  · obtain ⟨p, b, n, bits, states, rfl, O, hn, hb, s1, s2, k⟩ := h
    refine ⟨_, (pss_cons (ps_par (i := 3) (j := 4) (by rfl) sc__law_means.nd rfl rfl (by decide) rfl rfl (pa_cons (pe_call G__law_herd (hr.mono (by decide)) (by rfl) D__law_herd.g D__law_herd.F.kp D__law_herd.b .nil pass0 (pa_cons (pv 0) (pa_cons pe_int pa_nil))) (pa_cons (pe_lst pa_nil) pa_nil)) (by rfl))
  (pss_cons (ps_for PassesOwn.never rfl (pi_range1 (by rfl) T.n_range (pa_cons (pe_op op_oneN pe_int (pv 1)) pa_nil)) (pg_name (i := 5) sc__law_means.nd rfl (Or.inl rfl)) (pss_cons (ps_set (i := 6) sc__law_means.nd rfl (Or.inl rfl) (pe_call G__law_herd (hr.mono (by decide)) (by rfl) D__law_herd.g D__law_herd.F.kp D__law_herd.b .nil pass0 (pa_cons (pv 0) (pa_cons (pv 2) pa_nil))))
  (C8.pss_cut (ps_if (PW.pt (pw_and (pt_cmpR op_eq (pv 3) pe_int (nomark _)) (pw_and (pt_cmpR op_gt (pv 5) pe_int (nomark _)) (pw_and1 (pt_cmpR op_eq (pe_call G__law_herd (hr.mono (by decide)) (by rfl) D__law_herd.g D__law_herd.F.kp D__law_herd.b .nil pass0 (pa_cons (pv 0) (pa_cons pe_int pa_nil))) pe_int (nomark _)))))) (pss_one (ps_set (i := 6) sc__law_means.nd rfl (Or.inl rfl) (pe_ix ix_list (pv 4) (pe_op op_sub (pv 5) pe_int) (fun _ _ => rfl)))) pss_nil)
  (C8.pss_cut (ps_if (pt_cmpR op_eq (pv 3) pe_int (nomark _)) (pss_one (ps_set (i := 6) sc__law_means.nd rfl (Or.inl rfl) (pe_op op_mod (pe_callTy call_int1 (by rfl) T.n_int (by decide +kernel) (pa_cons (pv 5) pa_nil)) (pv 2)))) pss_nil)
  (pss_one (ps_expr (pe_bm PySem.F.plainAttrs_list PySem.F.slot_list_append PySem.F.type_list_append mt_append (pv 4) (pa_cons (pe_ifExp (PW.pt (pw_and (pt_cmpR op_lt (pv 3) pe_int (nomark _)) (pw_and1 (pt_cmpR op_eq (pe_call G__law_herd (hr.mono (by decide)) (by rfl) D__law_herd.g D__law_herd.F.kp D__law_herd.b .nil pass0 (pa_cons (pv 0) (pa_cons pe_int pa_nil))) pe_int (nomark _))))) pe_non (pv 6)) pa_nil))))))))
  (pss_one (ps_ret (pv 4))))), ?_⟩
    refine ⟨_, rfl, p, b, n, 4, rfl, O, by omega, by decide, by decide, fun way H1 w0 w1 O1 B1 => ?_⟩
    have npq : ∀ {q}, H1 q = none → q ≠ p := fun hq => by
      obtain ⟨up, hup⟩ := O1.pn
      exact (ne_of_none hup hq).symm
    refine ⟨by show 0 ≤ sizeLine; decide, fun q hq => ⟨_, _, rfl, ?_⟩⟩
    have hqp := npq hq
    have p0 := M07.two_pos bits
    have HQ : H q = none := by
      cases e : H q with
      | none => rfl
      | some o =>
        have z := B1 _ _ e hqp
        rw [hq] at z
        cases z
    have hqb : b ≠ q := by
      obtain ⟨ub, hub⟩ := O1.bn
      exact ne_of_none hub hq
    have p32 : 2 ^ bits ≤ 32 := Nat.le_trans (Nat.pow_le_pow_right (by decide) hb) (by decide)
    have big : ((states : Nat) : Int).natAbs < 2 ^ 9000 := Nat.lt_of_le_of_lt (show ((states : Nat) : Int).natAbs ≤ 64 by omega) (by decide)
    refine ⟨_, rfl, bits, rfl, rfl, by omega, _, rfl, by omega, by omega, ?_⟩
    rw [Int.toNat_natCast]
    refine for_range (lo := 0) (n := 2 ^ bits) (fun i σ H' => ∃ (ms : List (Option Nat)) (c : Nat), ms.length = i ∧ (∀ x, some x ∈ ms → x < states) ∧ H' q = some (.lst (ms.map mv)) ∧ Orch H' p b c ∧ c ≤ n + 1 + 3 * i ∧ But p H H' ∧ ∃ u v : Option V, σ = [some (.ref p), some (.int (bits : Int)), some (.int (states : Int)), some (.int way), some (.ref q), u, v])
      ⟨[], n + 1, rfl, (fun x hx => by cases hx), upd_same, O1.same (same_new hq), by omega, B1.trans (But.of (same_new hq)), none, none, rfl⟩ ?_ ?_
    · rintro i σ H2 hi ⟨ms, c, e1, e2, e3, O2, hc, B2, u, v, rfl⟩
      refine ⟨_, rfl, _, rfl, p, b, c, states, rfl, O2, by omega, by omega, big, fun st H3 t0 t1 O3 B3 => ?_⟩
      obtain ⟨st', rfl⟩ := Int.eq_ofNat_of_zero_le t0
      have q3 := B3 _ _ e3 hqp
      have B03 := B2.trans B3
      refine ⟨fun σ' H' => ∃ m : Option Nat, (∀ x, m = some x → x < states) ∧ H' q = some (.lst (ms.map mv)) ∧ (∃ c', c' ≤ c + 2 ∧ Orch H' p b c') ∧ But p H H' ∧ σ' = [some (.ref p), some (.int (bits : Int)), some (.int (states : Int)), some (.int way), some (.ref q), some (.int (0 + (i : Int))), some (mv m)], ?_, ?_⟩
      · have std : ∀ {H4 : Hp} {c4 : Nat}, H4 q = some (.lst (ms.map mv)) → Orch H4 p b c4 → c4 ≤ c + 2 → But p H H4 → ∃ m : Option Nat, (∀ x, m = some x → x < states) ∧ H4 q = some (.lst (ms.map mv)) ∧ (∃ c', c' ≤ c + 2 ∧ Orch H4 p b c') ∧ But p H H4 ∧ [some (V.ref p), some (.int (bits : Int)), some (.int (states : Int)), some (.int way), some (.ref q), some (.int (0 + (i : Int))), some (.int (st' : Int))] = [some (.ref p), some (.int (bits : Int)), some (.int (states : Int)), some (.int way), some (.ref q), some (.int (0 + (i : Int))), some (mv m)] := fun g1 g2 g3 g4 => ⟨some st', fun x e => by cases e; omega, g1, ⟨_, g3, g2⟩, g4, rfl⟩
        refine ⟨_, rfl, rfl, _, rfl, ?_⟩
        refine iteB (fun c1 => ?_) (fun c1 => std q3 O3 (by omega) B03)
        refine ⟨_, rfl, _, _, rfl, rfl, _, rfl, ?_⟩
        refine iteB (fun c2 => ?_) (fun c2 => std q3 O3 (by omega) B03)
        have c2 := of_decide_eq_true c2
        refine ⟨_, rfl, p, b, _, 2, rfl, O3, by omega, by decide, by decide, fun r H4 r0 r1 O4 B4 => ⟨rfl, _, rfl, ?_⟩⟩
        have q4 := B4 _ _ q3 hqp
        refine iteB (fun c3 => ?_) (fun c3 => std q4 O4 (by omega) (B03.trans B4))
        obtain ⟨m, hm⟩ : ∃ m, ms[i - 1]? = some m := ⟨_, List.getElem?_eq_getElem (by omega)⟩
        refine ⟨_, rfl, _, rfl, _, _, rfl, rfl, q, _, _, mv m, rfl, rfl, SqL.of q4, ?_, ?_⟩
        · rw [show (0 + (i : Int)) - 1 = ((i - 1 : Nat) : Int) by omega]
          exact atI_nat (by rw [List.getElem?_map, hm]; rfl)
        · exact ⟨m, fun x e => e2 x (e ▸ List.mem_of_getElem? hm), q4, ⟨_, by omega, O4⟩, B03.trans B4, rfl⟩
      · rintro σ' H4 ⟨m, hm, q4, ⟨c4, hc4, O4⟩, B04, rfl⟩
        refine ⟨fun σ' H' => ∃ m : Option Nat, (∀ x, m = some x → x < states) ∧ H' q = some (.lst (ms.map mv)) ∧ (∃ c', c' ≤ c + 2 ∧ Orch H' p b c') ∧ But p H H' ∧ σ' = [some (.ref p), some (.int (bits : Int)), some (.int (states : Int)), some (.int way), some (.ref q), some (.int (0 + (i : Int))), some (mv m)], ?_, ?_⟩
        · refine ⟨_, rfl, rfl, _, rfl, ?_⟩
          refine iteB (fun c1 => ?_) (fun c1 => ⟨m, hm, q4, ⟨c4, hc4, O4⟩, B04, rfl⟩)
          refine ⟨_, rfl, .inl ⟨_, rfl, _, rfl, _, _, rfl, rfl, by omega, ?_⟩⟩
          refine ⟨some (i % states), fun x e => by cases e; exact Nat.mod_lt _ (by omega), q4, ⟨c4, hc4, O4⟩, B04, ?_⟩
          have ev : (0 + (i : Int)) % (states : Int) = ((i % states : Nat) : Int) := by
            rw [Int.zero_add]
            rfl
          show [some (V.ref p), some (.int (bits : Int)), some (.int (states : Int)), some (.int way), some (.ref q), some (.int (0 + (i : Int))), some (V.int ((0 + (i : Int)) % (states : Int)))] = _
          rw [ev]
          rfl
        · rintro σ' H5 ⟨m, hm, q5, ⟨c5, hc5, O5⟩, B05, rfl⟩
          have fin : ∀ {H6 : Hp} {c6 : Nat} {u v : Option V} (m : Option Nat), (∀ x, m = some x → x < states) → H6 q = some (.lst (ms.map mv)) → Orch H6 p b c6 → c6 ≤ c + 3 → But p H H6 → rAppend (.ref q) [mv m] H6 fun _ H' => ∃ (ms : List (Option Nat)) (c : Nat), ms.length = i + 1 ∧ (∀ x, some x ∈ ms → x < states) ∧ H' q = some (.lst (ms.map mv)) ∧ Orch H' p b c ∧ c ≤ n + 1 + 3 * (i + 1) ∧ But p H H' ∧ ∃ u' v' : Option V, [some (V.ref p), some (.int (bits : Int)), some (.int (states : Int)), some (.int way), some (.ref q), u, v] = [some (.ref p), some (.int (bits : Int)), some (.int (states : Int)), some (.int way), some (.ref q), u', v'] := fun {H6 c6 u v} m g0 g1 g2 g3 g4 => by
            refine ⟨q, _, _, rfl, rfl, g1, by rw [List.length_map, sizeLine_eq]; omega, ms ++ [m], c6, by rw [List.length_append, e1]; rfl, fun x hx => ?_, by rw [upd_same, List.map_append]; rfl, g2.keep (fun u e => by rw [upd_ne hqp.symm]; exact e) (fun u e => by rw [upd_ne hqb]; exact e), by omega, fun a o ea na => ?_, _, _, rfl⟩
            · rcases List.mem_append.mp hx with h | h
              · exact e2 x h
              · exact g0 x (List.mem_singleton.mp h).symm
            · rw [upd_ne (ne_of_none ea HQ)]
              exact g4 a o ea na
          refine ⟨_, rfl, .inl ⟨rfl, _, SqL.of q5⟩, ?_⟩
          refine ⟨_, rfl, _, _, rfl, rfl, _, rfl, ?_⟩
          refine iteB (fun c1 => ?_) (fun c1 => ?_)
          · refine ⟨_, rfl, p, b, _, 7, rfl, O5, by omega, by decide, by decide, fun r H6 r0 r1 O6 B6 => ⟨rfl, _, rfl, ?_⟩⟩
            have q6 := B6 _ _ q5 hqp
            refine iteB (fun c2 => ?_) (fun c2 => ?_)
            · exact fin none (fun x e => by cases e) q6 O6 (by omega) (B05.trans B6)
            · exact ⟨_, rfl, fin m hm q6 O6 (by omega) (B05.trans B6)⟩
          · exact ⟨_, rfl, fin m hm q5 O5 (by omega) B05⟩
    · rintro σ H2 ⟨ms, c, e1, e2, e3, O2, hc, B2, u, v, rfl⟩
      exact ⟨_, rfl, k q ms H2 HQ e3 ⟨e1, e2⟩ (O2.mono (by omega)) B2⟩
end
end K25
namespace K25
open PySem PySem.Spec PyProof.Rows L2 OB SkE
theorem besM_get {s : Nat} {ms : List (Option Nat)} (hL : 0 < ms.length) : ∀ (ns : List (Option Nat)) (w : Nat), w < ns.length * ms.length →
    (besM s ms ns)[w]? = some (putB s (ms.getD (w % ms.length) none) (ns.getD (w / ms.length) none))
  | [], w, h => by simp at h
  | x :: r, w, h => by
    have ih := besM_get (s := s) hL r
    have e : besM s ms (x :: r) = (ms.map fun l => putB s l x) ++ besM s ms r := by
      unfold besM
      rw [List.flatMap_cons]
    rw [e]
    by_cases c : w < ms.length
    · rw [List.getElem?_append_left (by rw [List.length_map]; exact c), List.getElem?_map, Nat.mod_eq_of_lt c, Nat.div_eq_of_lt c, List.getElem?_eq_getElem c, List.getD_eq_getElem?_getD, List.getElem?_eq_getElem c]
      rfl
    · rw [List.length_cons, Nat.add_mul, Nat.one_mul] at h
      rw [List.getElem?_append_right (by rw [List.length_map]; omega), List.length_map, ih (w - ms.length) (by omega)]
      obtain ⟨d, rfl⟩ : ∃ d, w = d + ms.length := ⟨w - ms.length, by omega⟩
      rw [Nat.add_sub_cancel, Nat.add_mod_right, Nat.add_div_right _ hL]
      rfl
theorem shaped_lst (ms : List (Option Nat)) : SeqAt.shaped (.list (ms.map md)) = true := by
  obtain ⟨h1, h2⟩ := flat_means ms
  unfold SeqAt.shaped
  rw [Bool.and_eq_true]
  refine ⟨by simp [PyData.canLay0, h1], decide_eq_true ?_⟩
  simp [PyData.depth]
  omega
theorem eqv_lst (ms ns : List (Option Nat)) : PyData.eqv (.list (ms.map md)) (.list (ns.map md)) = decide (ms = ns) := by
  rw [← eqv_means]
  simp [PyData.eqv]
def partOf (b b' s : Nat) (ms ns : List (Option Nat)) : V := if grt s ms || grt 64 (besM s ms ns) then .str "states" else .non
def spDue : Sp := fun vs H Q _ => ∃ (a a' q q' : Addr) (b b' s : Nat) (ms ns : List (Option Nat)), vs = [.ref a, .ref a', .int (s : Int)] ∧ H a = some (.tup [.int (b : Int), .ref q]) ∧ H a' = some (.tup [.int (b' : Int), .ref q']) ∧
  H q = some (.lst (ms.map mv)) ∧ H q' = some (.lst (ns.map mv)) ∧ ms.length = 2 ^ b ∧ ns.length = 2 ^ b' ∧ b ≤ 8 ∧ b' ≤ 8 ∧ 1 ≤ s ∧ s ≤ 64 ∧ (∀ x, some x ∈ ms → x < 64) ∧ (∀ x, some x ∈ ns → x < 64) ∧
  ((8 < b + b' ∧ ∀ (t : Addr) (H' : Hp), Same H H' → H' t = some (.tup [.str "bits", .non]) → Q (.ref t) H') ∨
   (b + b' ≤ 8 ∧ ∀ (t D : Addr) (H' : Hp), Same H H' → H' t = some (.tup [partOf b b' s ms ns, .ref D]) → H' D = some (.lst ((besM s ms ns).map mv)) → Q (.ref t) H'))
section
variable {P : Program} {w : World} {K : PySem.W.Frag} {mg : Str → Option Value} {base : Heap}
theorem sc__law_due : FnScope ["one", "other", "states", "found", "word", "low", "mine", "its", "great", "state"] ["one", "other", "states"] (defScope s__law_due) := ⟨rfl, rfl, rfl, by decide +kernel, rfl, by decide +kernel, by decide +kernel⟩
abbrev N__law_due : List Str := ["one", "other", "states", "found", "word", "low", "mine", "its", "great", "state"]
theorem ok__law_due {f : Addr} {fd : FuncData} (F : Fun K "_law_due" "_law_due" s__law_due f fd) (T : Blt mg) : FnOk P w K mg base CX0 2 f fd ["one", "other", "states"] spDue := by
  refine F.ok sc__law_due (fun vs H Q E h => ?_) (fun cdv A outer s H vs Q E hr h => ?_)
  · obtain ⟨a, a', q, q', b, b', s', ms, ns, rfl, _⟩ := h
    rfl
  · obtain ⟨a, a', q, q', b, b', s', ms, ns, rfl, ha, ha', hq, hq', lx, ly, hb, hb', s1, s2, hx, hy, h⟩ := h
    refine ⟨_, (pss_cons (ps_if (pt_cmpR op_gt (pe_op op_add (pe_ix ix_tup (pv 0) pe_int (fun _ _ => rfl)) (pe_ix ix_tup (pv 1) pe_int (fun _ _ => rfl))) pe_int (nomark _)) (pss_one (ps_ret (pe_tup (pa_cons pe_str (pa_cons pe_non pa_nil))))) pss_nil)
  (pss_cons (ps_set (i := 3) sc__law_due.nd rfl (Or.inl rfl) (pe_lst pa_nil))
  (pss_cons (ps_for PassesOwn.never rfl (pi_range1 (by rfl) T.n_range (pa_cons (pe_op op_oneN pe_int (pe_op op_add (pe_ix ix_tup (pv 0) pe_int (fun _ _ => rfl)) (pe_ix ix_tup (pv 1) pe_int (fun _ _ => rfl)))) pa_nil)) (pg_name (i := 4) sc__law_due.nd rfl (Or.inl rfl)) (pss_cons (ps_set (i := 5) sc__law_due.nd rfl (Or.inl rfl) (pe_op op_and (pv 4) (pe_op op_sub (pe_op op_oneN pe_int (pe_ix ix_tup (pv 0) pe_int (fun _ _ => rfl))) pe_int)))
  (pss_cons (ps_par (i := 6) (j := 7) (by rfl) sc__law_due.nd rfl rfl (by decide) rfl rfl (pa_cons (pe_ix ix_list (pe_ix ix_tup (pv 0) pe_int (fun _ _ => rfl)) (pv 5) (fun _ _ => rfl)) (pa_cons (pe_ix ix_list (pe_ix ix_tup (pv 1) pe_int (fun _ _ => rfl)) (pe_op op_fdiv (pe_op op_sub (pv 4) (pv 5)) (pe_op op_oneN pe_int (pe_ix ix_tup (pv 0) pe_int (fun _ _ => rfl)))) (fun _ _ => rfl)) pa_nil)) (by rfl))
  (pss_one (ps_expr (pe_bm PySem.F.plainAttrs_list PySem.F.slot_list_append PySem.F.type_list_append mt_append (pv 3) (pa_cons (pe_ifExp (pt_cmpR op_in_seq pe_non (pe_tup (pa_cons (pv 6) (pa_cons (pv 7) pa_nil))) (by rfl)) pe_non (pe_op op_add (pv 6) (pe_op op_mul (pv 2) (pv 7)))) pa_nil)))))))
  (pss_cons (ps_set (i := 8) sc__law_due.nd rfl (Or.inl rfl) (pe_op op_cat (pe_lc (own := [("state", 9)]) (g := (gName 9)) rfl sc__law_due.nd (pi_list (pe_ix ix_tup (pv 0) pe_int (fun _ _ => rfl))) (blkOk_by (N := N__law_due) (own := [("state", 9)]) (sc := defScope s__law_due) (by decide +kernel)) (fun _ _ _ _ _ => (pg_name (i := 9) sc__law_due.nd rfl (Or.inl rfl))) (fun _ _ _ _ _ => (pts_one (PW.pt (pw_and (pt_cmpR op_notN (pv 9) pe_non (nomark _)) (pw_and1 (pt_cmpR op_ge (pv 9) (pv 2) (nomark _))))))) (fun _ _ _ _ _ => (pv 9))) (pe_lc (own := [("state", 9)]) (g := (gName 9)) rfl sc__law_due.nd (pi_list (pv 3)) (blkOk_by (N := N__law_due) (own := [("state", 9)]) (sc := defScope s__law_due) (by decide +kernel)) (fun _ _ _ _ _ => (pg_name (i := 9) sc__law_due.nd rfl (Or.inl rfl))) (fun _ _ _ _ _ => (pts_one (PW.pt (pw_and (pt_cmpR op_notN (pv 9) pe_non (nomark _)) (pw_and1 (pt_cmpR op_gt (pv 9) pe_int (nomark _))))))) (fun _ _ _ _ _ => (pv 9)))))
  (pss_one (ps_ret (pe_tup (pa_cons (pe_ifExp (pt_cmpR (op_neD hr.units) (pv 8) (pe_lst pa_nil) (nomark _)) pe_str pe_non) (pa_cons (pv 3) pa_nil))))))))), ?_⟩
    have mem : ∀ {rs : List (Option Nat)} {j : Nat} {x : V}, (rs.map mv)[j]? = some x → ∃ m, rs[j]? = some m ∧ x = mv m := fun {rs j x} e => by
      rw [List.getElem?_map] at e
      cases e2 : rs[j]? with
      | none => rw [e2] at e; cases e
      | some m => rw [e2] at e; exact ⟨m, rfl, (Option.some.inj e).symm⟩
    have p0 := M07.two_pos b
    have p0' := M07.two_pos b'
    have pw : 2 ^ b' * 2 ^ b = 2 ^ (b + b') := by rw [← Nat.pow_add, Nat.add_comm]
    refine ⟨_, rfl, a, _, _, _, rfl, rfl, SqT.of ha, rfl, _, rfl, a', _, _, _, rfl, rfl, SqT.of ha', rfl, _, _, rfl, rfl, _, _, rfl, rfl, _, rfl, ?_⟩
    refine iteB (fun c => ?_) (fun c => ?_)
    · have c := of_decide_eq_true c
      rcases h with ⟨_, k⟩ | ⟨z, _⟩
      · exact ⟨by show 2 ≤ sizeLine; decide, fun t ht => k t _ (same_new ht) upd_same⟩
      · exfalso
        omega
    have c := of_decide_eq_false c
    rcases h with ⟨z, _⟩ | ⟨hbb, k⟩
    · exfalso
      omega
    have p8 : 2 ^ (b + b') ≤ 256 := Nat.le_trans (Nat.pow_le_pow_right (by decide) hbb) (by decide)
    have bl : (besM s' ms ns).length = 2 ^ (b + b') := by rw [besM_len, lx, ly, pw]
    refine ⟨by show 0 ≤ sizeLine; decide, fun D hD => ?_⟩
    have S1 : Same H (upd H D (.lst [])) := same_new hD
    have hD1 := upd_same (H := H) (a := D) (o := .lst [])
    generalize upd H D (.lst []) = H1 at S1 hD1 ⊢
    refine ⟨_, rfl, a, _, _, _, rfl, rfl, SqT.of (S1 _ _ ha), rfl, _, rfl, a', _, _, _, rfl, rfl, SqT.of (S1 _ _ ha'), rfl, _, _, rfl, rfl, b + b', rfl, congrArg V.int (Int.natCast_add b b').symm, by omega, _, rfl, by omega, by omega, ?_⟩
    rw [Int.toNat_natCast]
    refine for_range (lo := 0) (n := 2 ^ (b + b')) (fun i σ H' => Same H H' ∧ H' D = some (.lst (((besM s' ms ns).take i).map mv)) ∧ ∃ u v x y : Option V, σ = [some (.ref a), some (.ref a'), some (.int (s' : Int)), some (.ref D), u, v, x, y, none, none]) ⟨S1, hD1, none, none, none, none, rfl⟩ ?_ ?_
    · rintro i σ H' hi ⟨S2, hD2, u, v, x, y, rfl⟩
      have hi' : i < ns.length * ms.length := by rw [lx, ly, pw]; exact hi
      have elow : Builtin.bitAnd (0 + (i : Int)) (((2 ^ b : Nat) : Int) - 1) = ((i % 2 ^ b : Nat) : Int) := by
        rw [Int.zero_add, show ((2 ^ b : Nat) : Int) - 1 = ((2 ^ b - 1 : Nat) : Int) by omega, bitAnd_pp (Int.natCast_nonneg _) (Int.natCast_nonneg _), Int.toNat_natCast, Int.toNat_natCast, Nat.and_two_pow_sub_one_eq_mod]
      have ehigh : ((0 + (i : Int)) - ((i % 2 ^ b : Nat) : Int)) / ((2 ^ b : Nat) : Int) = ((i / 2 ^ b : Nat) : Int) := by
        rw [Int.zero_add, show (i : Int) - ((i % 2 ^ b : Nat) : Int) = ((i / 2 ^ b * 2 ^ b : Nat) : Int) by have := Nat.div_add_mod' i (2 ^ b); omega, ← Int.natCast_ediv, Nat.mul_div_cancel _ p0]
      have l1 : i % 2 ^ b < ms.length := by rw [lx]; exact Nat.mod_lt _ p0
      have l2 : i / 2 ^ b < ns.length := by rw [← lx]; exact Nat.div_lt_of_lt_mul (by rw [Nat.mul_comm]; exact hi')
      refine ⟨_, rfl, _, rfl, a, _, _, _, rfl, rfl, SqT.of (S2 _ _ ha), rfl, b, rfl, rfl, by omega, _, _, rfl, rfl, _, _, rfl, rfl, ?_⟩
      show tSeq _ _ _ [some (.ref a), some (.ref a'), some (.int (s' : Int)), some (.ref D), some (.int (0 + (i : Int))), some (.int (Builtin.bitAnd (0 + (i : Int)) (((2 ^ b : Nat) : Int) - 1))), x, y, none, none] _
      rw [elow]
      have hm : ms[i % 2 ^ b]? = some (ms.getD (i % 2 ^ b) none) := by
        rw [List.getD_eq_getElem?_getD, List.getElem?_eq_getElem l1]
        rfl
      have hnn : ns[i / 2 ^ b]? = some (ns.getD (i / 2 ^ b) none) := by
        rw [List.getD_eq_getElem?_getD, List.getElem?_eq_getElem l2]
        rfl
      have hbm : (besM s' ms ns)[i]? = some (putB s' (ms.getD (i % 2 ^ b) none) (ns.getD (i / 2 ^ b) none)) := by
        rw [besM_get (by omega) ns i hi', lx]
      generalize ms.getD (i % 2 ^ b) none = m1 at hm hbm
      generalize ns.getD (i / 2 ^ b) none = m2 at hnn hbm
      refine ⟨_, rfl, a, _, _, .ref q, rfl, rfl, SqT.of (S2 _ _ ha), rfl, _, rfl, q, _, _, mv m1, rfl, rfl, SqL.of (S2 _ _ hq), atI_nat (by rw [List.getElem?_map, hm]; rfl), _, rfl, a', _, _, .ref q', rfl, rfl, SqT.of (S2 _ _ ha'), rfl, _, rfl, _, rfl, _, _, rfl, rfl, _, rfl, a, _, _, _, rfl, rfl, SqT.of (S2 _ _ ha), rfl, b, rfl, rfl, by omega, _, _, rfl, rfl, ?_, q', _, _, mv m2, rfl, rfl, SqL.of (S2 _ _ hq'), ?_, ?_⟩
      · exact ⟨by omega, by have := pow8 hb; omega⟩
      · rw [ehigh]
        exact atI_nat (by rw [List.getElem?_map, hnn]; rfl)
      have fin : ∀ {H6 : Hp} {u v x y : Option V}, Same H' H6 → rAppend (.ref D) [mv (putB s' m1 m2)] H6 fun _ H'' => Same H H'' ∧ H'' D = some (.lst (((besM s' ms ns).take (i + 1)).map mv)) ∧ ∃ u' v' x' y' : Option V, [some (V.ref a), some (.ref a'), some (.int (s' : Int)), some (.ref D), u, v, x, y, none, none] = [some (.ref a), some (.ref a'), some (.int (s' : Int)), some (.ref D), u', v', x', y', none, none] := fun {H6 u v x y} S6 => by
        refine ⟨D, _, _, rfl, rfl, S6 _ _ hD2, by rw [List.length_map, List.length_take, sizeLine_eq]; omega, fun o e1 e2 => ?_, ?_, _, _, _, _, rfl⟩
        · rw [upd_ne (ne_of_none e2 hD)]
          exact S6 _ _ (S2 _ _ e2)
        · rw [upd_same, List.take_add_one, hbm, List.map_append]
          rfl
      refine ⟨_, _, rfl, _, rfl, .inl ⟨rfl, _, SqL.of hD2⟩, ?_⟩
      refine ⟨_, rfl, _, rfl, by show 2 ≤ sizeLine; decide, fun t ht => ⟨t, [mv m1, mv m2], rfl, .inr (SqT.of upd_same), rfl, ?_, _, rfl, ?_⟩⟩
      · cases m1 <;> cases m2 <;> rfl
      have St := same_new (o := .tup [mv m1, mv m2]) ht
      cases m1 with
      | none => exact iteT (fin St)
      | some x1 =>
        cases m2 with
        | none => exact iteT (fin St)
        | some x2 =>
          have f1 := hx x1 (List.mem_of_getElem? hm)
          have f2 := hy x2 (List.mem_of_getElem? hnn)
          refine iteF ?_
          refine ⟨_, rfl, _, rfl, _, rfl, _, _, rfl, rfl, .inl ⟨by omega, by omega⟩, _, _, rfl, rfl, ?_⟩
          exact fin St
    · rintro σ H' ⟨S2, hD2, u, v, x, y, rfl⟩
      rw [List.take_of_length_le (by rw [bl]; exact Nat.le_refl _)] at hD2
      have lst_row : ∀ (k : Nat) (rs : List (Option Nat)) (i : Nat) (H' : Hp) (D1 : Addr) (m : Option Nat), rs[i]? = some m → rs.length ≤ 256 → H' D1 = some (.lst (((rs.take i).filter (isGrt k)).map mv)) → (isGrt k m = true → ∃ acc, H' D1 = some (.lst acc) ∧ acc.length < sizeLine ∧ (upd H' D1 (.lst (acc ++ [mv m]))) D1 = some (.lst (((rs.take (i + 1)).filter (isGrt k)).map mv))) ∧ (isGrt k m = false → H' D1 = some (.lst (((rs.take (i + 1)).filter (isGrt k)).map mv))) := fun k rs i H' D1 m e hl e1 => by
        rw [List.take_add_one, e, List.filter_append, List.map_append]
        refine ⟨fun z => ⟨_, e1, ?_, ?_⟩, fun z => ?_⟩
        · rw [List.length_map, sizeLine_eq]
          have := List.length_filter_le (isGrt k) (rs.take i)
          rw [List.length_take] at this
          omega
        · rw [upd_same]
          simp [z]
        · rw [e1]
          simp [z]
      refine ⟨_, rfl, a, _, _, .ref q, rfl, rfl, SqT.of (S2 _ _ ha), rfl, q, rfl, ⟨_, SqL.of (S2 _ _ hq)⟩, fun D1 hD1 => ?_⟩
      refine lc_list (K := K) (a := q) (xs := ms.map mv) (fun i H6 => Same H' H6 ∧ H6 D1 = some (.lst (((ms.take i).filter (isGrt s')).map mv))) ⟨same_new hD1, upd_same⟩ (fun i H6 _ h => SqL.of (h.1 _ _ (S2 _ _ hq))) ?_ ?_
      · rintro i y H6 hy6 ⟨S6, h6⟩
        obtain ⟨m, hm, rfl⟩ := mem hy6
        obtain ⟨r1, r2⟩ := lst_row s' ms i H6 D1 m hm (by have := pow8 hb; omega) h6
        cases m with
        | none =>
          refine ⟨rfl, _, rfl, rfl, _, rfl, iteF ?_⟩
          exact ⟨S6, r2 rfl⟩
        | some n =>
          refine ⟨rfl, _, rfl, rfl, _, rfl, iteT ?_⟩
          refine ⟨_, rfl, _, rfl, _, _, rfl, rfl, _, rfl, ?_⟩
          refine iteB (fun c => ?_) (fun c => ?_)
          · have c := of_decide_eq_true c
            obtain ⟨acc, q1, q2, q3⟩ := r1 (decide_eq_true (by omega))
            refine ⟨_, rfl, acc, q1, q2, fun o e1 e2 => ?_, q3⟩
            rw [upd_ne (ne_of_none e2 hD1)]
            exact S6 _ _ e2
          · have c := of_decide_eq_false c
            exact ⟨S6, r2 (decide_eq_false (by omega))⟩
      rintro H6 ⟨S6, h6⟩
      rw [List.length_map, List.take_length] at h6
      refine ⟨_, rfl, D, rfl, ⟨_, SqL.of (S6 _ _ hD2)⟩, fun D2 hD2' => ?_⟩
      refine lc_list (K := K) (a := D) (xs := (besM s' ms ns).map mv) (fun i H7 => Same H6 H7 ∧ H7 D2 = some (.lst ((((besM s' ms ns).take i).filter (isGrt 64)).map mv))) ⟨same_new hD2', upd_same⟩ (fun i H7 _ h => SqL.of (h.1 _ _ (S6 _ _ hD2))) ?_ ?_
      · rintro i y H7 hy7 ⟨S7, h7⟩
        obtain ⟨m, hm, rfl⟩ := mem hy7
        obtain ⟨r1, r2⟩ := lst_row 64 (besM s' ms ns) i H7 D2 m hm (by omega) h7
        cases m with
        | none =>
          refine ⟨rfl, _, rfl, rfl, _, rfl, iteF ?_⟩
          exact ⟨S7, r2 rfl⟩
        | some n =>
          refine ⟨rfl, _, rfl, rfl, _, rfl, iteT ?_⟩
          refine ⟨_, rfl, _, _, rfl, rfl, _, rfl, ?_⟩
          refine iteB (fun c => ?_) (fun c => ?_)
          · have c := of_decide_eq_true c
            obtain ⟨acc, q1, q2, q3⟩ := r1 (decide_eq_true (by omega))
            refine ⟨_, rfl, acc, q1, q2, fun o e1 e2 => ?_, q3⟩
            rw [upd_ne (ne_of_none e2 hD2')]
            exact S7 _ _ e2
          · have c := of_decide_eq_false c
            exact ⟨S7, r2 (decide_eq_false (by omega))⟩
      rintro H7 ⟨S7, h7⟩
      rw [List.length_map, List.take_length] at h7
      have S67 := S2.trans (S6.trans S7)
      have hD7 := S7 _ _ (S6 _ _ hD2)
      refine ⟨D1, D2, _, _, rfl, rfl, S7 _ _ h6, h7, ?_, fun l hl => ?_⟩
      · rw [List.length_map, List.length_map, sizeLine_eq]
        have f1 := List.length_filter_le (isGrt s') ms
        have f2 := List.length_filter_le (isGrt 64) (besM s' ms ns)
        have := pow8 hb
        omega
      rw [← List.map_append]
      have S8 := same_new (o := .lst ((ms.filter (isGrt s') ++ (besM s' ms ns).filter (isGrt 64)).map mv)) hl
      have h8 := upd_same (H := H7) (a := l) (o := .lst ((ms.filter (isGrt s') ++ (besM s' ms ns).filter (isGrt 64)).map mv))
      have eg : (grt s' ms || grt 64 (besM s' ms ns)) = !decide (ms.filter (isGrt s') ++ (besM s' ms ns).filter (isGrt 64) = []) := by
        unfold grt
        cases z1 : ms.filter (isGrt s') with
        | nil =>
          have n1 : ms.any (isGrt s') = false := by
            rw [List.any_eq_false]
            exact List.filter_eq_nil_iff.mp z1
          cases z2 : (besM s' ms ns).filter (isGrt 64) with
          | nil =>
            have n2 : (besM s' ms ns).any (isGrt 64) = false := by
              rw [List.any_eq_false]
              exact List.filter_eq_nil_iff.mp z2
            simp [n1, n2]
          | cons x r =>
            have hx := List.mem_filter.mp (z2 ▸ List.mem_cons_self : x ∈ (besM s' ms ns).filter (isGrt 64))
            have n2 : (besM s' ms ns).any (isGrt 64) = true := List.any_eq_true.mpr ⟨x, hx⟩
            simp [n2]
        | cons x r =>
          have hx := List.mem_filter.mp (z1 ▸ List.mem_cons_self : x ∈ ms.filter (isGrt s'))
          have n1 : ms.any (isGrt s') = true := List.any_eq_true.mpr ⟨x, hx⟩
          simp [n1]
      generalize ms.filter (isGrt s') ++ (besM s' ms ns).filter (isGrt 64) = gs at S8 h8 eg ⊢
      refine ⟨_, rfl, by show 0 ≤ sizeLine; decide, fun e he => ?_⟩
      have Se := same_new (o := .lst []) he
      refine ⟨.list (gs.map md), .list (([] : List (Option Nat)).map md), Dp.lst (SqL.of (Se _ _ h8)) (dp_means gs), Dp.lst (SqL.of upd_same) .nil, shaped_lst gs, shaped_lst [], _, rfl, ?_⟩
      rw [eqv_lst]
      have S9 := S67.trans (S8.trans Se)
      have hD9 := Se _ _ (S8 _ _ hD7)
      generalize upd (upd H7 l (.lst (gs.map mv))) e (.lst []) = H9 at S9 hD9 ⊢
      refine ite2 (fun c => ?_) (fun c => ?_)
      · rw [c] at eg
        refine ⟨_, rfl, by show 2 ≤ sizeLine; decide, fun t ht => ?_⟩
        have Sz := same_new (o := .tup [.str "states", .ref D]) ht
        exact k t D _ (S9.trans Sz) (by unfold partOf; rw [eg]; exact upd_same) (Sz _ _ hD9)
      · have c : (!decide (gs = [])) = false := Bool.eq_false_iff.mpr c
        rw [c] at eg
        refine ⟨_, rfl, by show 2 ≤ sizeLine; decide, fun t ht => ?_⟩
        have Sz := same_new (o := .tup [.non, .ref D]) ht
        exact k t D _ (S9.trans Sz) (by unfold partOf; rw [eg]; exact upd_same) (Sz _ _ hD9)
end
end K25
namespace K25
open PySem PySem.Spec PyProof.Rows L2 OB SkE LamX
/-- what the law's reader of errors asks of an error's class -/
structure ErrR (K : PySem.W.Frag) (CF C : Addr) : Prop where
  xf : XfC K C
  ec : ExcC K C
  ex : PySem.W.exmOne K (.ref C) (.ref CF) = some true
  no : PySem.W.findIn K (.ref C) "part" = some none
structure Kinds (K : PySem.W.Frag) (mg : Str → Option Value) (CF CL CN CM : Addr) : Prop where
  gF : mg "FlipError" = some (.ref CF)
  gL : mg "BadLayout" = some (.ref CL)
  gN : mg "BadNumber" = some (.ref CN)
  gM : mg "Misfit" = some (.ref CM)
  rL : ErrR K CF CL
  rN : ErrR K CF CN
  rM : ErrR K CF CM
  kLL : PySem.W.kitOne K (.ref CL) (.ref CL) = some true
  kLN : PySem.W.kitOne K (.ref CL) (.ref CN) = some false
  kLM : PySem.W.kitOne K (.ref CL) (.ref CM) = some false
  kNL : PySem.W.kitOne K (.ref CN) (.ref CL) = some false
  kNN : PySem.W.kitOne K (.ref CN) (.ref CN) = some true
  kNM : PySem.W.kitOne K (.ref CN) (.ref CM) = some false
  kML : PySem.W.kitOne K (.ref CM) (.ref CL) = some false
  kMN : PySem.W.kitOne K (.ref CM) (.ref CN) = some false
  kMM : PySem.W.kitOne K (.ref CM) (.ref CM) = some true
/-- what is heard of the kinds -/
def hear (C CL CN : Addr) (part : Str) : Str := (if C = CL then "BadLayout" else if C = CN then "BadNumber" else "Misfit") ++ " " ++ part
def TTheard (CL CN CM : Addr) : List V → (XK → Hp → VK → Prop) → Hp → VK → Prop := fun vs tl H Q => vs = [] ∧
  tl (fun cls d H' => ∃ (dd : Addr) (part : Str), d = some dd ∧ part.length ≤ 1000 ∧ H' dd = some (.xd [(("part" : Str), .str part)]) ∧
    ((cls = .ref CL ∧ ∀ H'', Same H' H'' → Q (.str ("BadLayout" ++ " " ++ part)) H'') ∨ (cls = .ref CN ∧ ∀ H'', Same H' H'' → Q (.str ("BadNumber" ++ " " ++ part)) H'') ∨ (cls = .ref CM ∧ ∀ H'', Same H' H'' → Q (.str ("Misfit" ++ " " ++ part)) H'')))
    H (fun _ H' => ∀ H'', Same H' H'' → Q .non H'')
section
theorem sc__law_heard : FnScope ["ask", "caught", "error", "kinds"] ["ask"] (defScope s__law_heard) := ⟨rfl, rfl, rfl, by decide +kernel, rfl, by decide +kernel, by decide +kernel⟩
abbrev N__law_heard : List Str := ["ask", "caught", "error", "kinds"]
theorem heard_gives {X : Cx} {g CF CL CN CM : Addr} {cdg : Value} {q : Str} {kk : Nat} (Z : Kinds X.K X.mg CF CL CN CM) (T : Blt X.mg) : Gives X ["ask", "caught", "error", "kinds"] "_law_heard" (defScope s__law_heard) g cdg (defBody s__law_heard) "ask" q kk (TTheard CL CN CM) := by
  intro f c' vs s H Q tl hr act hc mono h
  obtain ⟨rfl, h⟩ := h
  have g_FlipError := Z.gF
  have g_BadLayout := Z.gL
  have g_BadNumber := Z.gN
  have g_Misfit := Z.gM
  refine ⟨_, (pss_cons (ps_set (i := 1) sc__law_heard.nd rfl (Or.inl rfl) pe_non)
  (pss_cons (ps_try_keep (i := 2) (j := 1) (Wout := fun _ _ _ _ => False) rfl rfl rfl sc__law_heard.nd rfl rfl rfl rfl ⟨by rfl, by decide, .inl g_FlipError⟩ L2.takes0 (fun W pn xe tk _ => (pss_one (ps_expr (act W pn xe _ _ tk)))))
  (pss_cons (ps_if (pt_cmpR op_isN (pv 1) pe_non (nomark _)) (pss_one (ps_ret pe_non)) pss_nil)
  (pss_cons (ps_set (i := 3) sc__law_heard.nd rfl (Or.inl rfl) (pe_lst (pa_cons (pe_callB (call_or call_isX call_isi) (by rfl) T.n_isinstance (by decide +kernel) (pa_cons (pv 1) (pa_cons (pe_glob (v := .ref _) (by rfl) g_BadLayout rfl) pa_nil))) (pa_cons (pe_callB (call_or call_isX call_isi) (by rfl) T.n_isinstance (by decide +kernel) (pa_cons (pv 1) (pa_cons (pe_glob (v := .ref _) (by rfl) g_BadNumber rfl) pa_nil))) (pa_cons (pe_callB (call_or call_isX call_isi) (by rfl) T.n_isinstance (by decide +kernel) (pa_cons (pv 1) (pa_cons (pe_glob (v := .ref _) (by rfl) g_Misfit rfl) pa_nil))) pa_nil)))))
  (pss_one (ps_ret (pe_ifExp (pt_cmpR op_in_seq pe_bl (pv 3) (by rfl)) (pe_op op_add_str (pe_op op_add_str (pe_ix ix_list (pe_lst (pa_cons pe_str (pa_cons pe_str (pa_cons pe_str pa_nil)))) (pe_bm PySem.F.plainAttrs_list PySem.F.slot_list_index PySem.F.type_list_index mt_index (pv 3) (pa_cons pe_bl pa_nil)) (fun _ _ => rfl)) pe_str) (pe_xa (pv 1))) pe_str))))))), ?_⟩
  refine ⟨rfl, hc, ?_⟩
  refine mono _ _ _ _ _ ?_ ?_ h
  rotate_left
  · intro v H' k
    exact ⟨_, rfl, rfl, _, rfl, iteT (k _ fun a o e => e)⟩
  · rintro cls d H' ⟨dd, part, rfl, hl, hd, ⟨rfl, k⟩ | ⟨rfl, k⟩ | ⟨rfl, k⟩⟩
    · refine ⟨true, Z.rL.ex, fun _ a ha => ?_, fun z => nomatch z⟩
      have nad : dd ≠ a := ne_of_none hd ha
      have hd1 : (upd H' a (ExA (.ref CL) (some dd) a)) dd = some (.xd [(("part" : Str), .str part)]) := by
        rw [upd_ne nad]
        exact hd
      have Sa := same_new (o := ExA (.ref CL) (some dd) a) ha
      have ea := upd_same (H := H') (a := a) (o := ExA (.ref CL) (some dd) a)
      refine ⟨_, rfl, rfl, _, rfl, iteF ?_⟩
      refine ⟨_, rfl, .inl ⟨a, CL, some dd, .ref CL, .ref CL, true, rfl, Z.rL.ec, upd_same, (fun z e => by cases e; exact ⟨_, hd1⟩), .own CL, Z.kLL, _, rfl, .inl ⟨a, CL, some dd, .ref CN, .ref CN, false, rfl, Z.rL.ec, upd_same, (fun z e => by cases e; exact ⟨_, hd1⟩), .own CN, Z.kLN, _, rfl, .inl ⟨a, CL, some dd, .ref CM, .ref CM, false, rfl, Z.rL.ec, upd_same, (fun z e => by cases e; exact ⟨_, hd1⟩), .own CM, Z.kLM, (by show 3 ≤ sizeLine; decide), fun kn hkn => ?_⟩⟩⟩⟩
      have Sk := same_new (o := .lst [.bl true, .bl false, .bl false]) hkn
      have ek := upd_same (H := upd H' a (ExA (.ref CL) (some dd) a)) (a := kn) (o := .lst [.bl true, .bl false, .bl false])
      refine ⟨_, rfl, kn, _, rfl, .inl (SqL.of ek), rfl, rfl, _, rfl, iteT ?_⟩
      refine ⟨(by show 3 ≤ sizeLine; decide), fun ls hls => ?_⟩
      have Sl := same_new (o := .lst [.str "BadLayout", .str "BadNumber", .str "Misfit"]) hls
      have el := upd_same (H := upd (upd H' a (ExA (.ref CL) (some dd) a)) kn (.lst [.bl true, .bl false, .bl false])) (a := ls) (o := .lst [.str "BadLayout", .str "BadNumber", .str "Misfit"])
      have ST := Sa.trans (Sk.trans Sl)
      have ek2 := Sl _ _ ek
      have ea2 := Sl _ _ (Sk _ _ ea)
      have hd2 := ST _ _ hd
      refine ⟨_, rfl, .inl ⟨rfl, _, SqL.of ek2⟩, kn, _, .bl true, 0, .bl true, rfl, rfl, SqL.of ek2, rfl, rfl, rfl, rfl, (fun m z hm e => by omega), ?_⟩
      refine ⟨ls, _, _, .str "BadLayout", rfl, rfl, SqL.of el, rfl, _, _, rfl, rfl, (by decide +kernel), ?_⟩
      refine ⟨_, rfl, a, CL, dd, _, _, rfl, Z.rL.xf, Z.rL.no, ea2, hd2, rfl, _, _, rfl, rfl, ?_, k _ ST⟩
      have := (show ("BadLayout" ++ " " : Str).length ≤ 20 by decide +kernel)
      rw [sizeLine_eq]
      have : ("BadLayout" ++ " " : Str).length + part.length ≤ 1020 := by omega
      exact Nat.le_trans this (by decide)
    · refine ⟨true, Z.rN.ex, fun _ a ha => ?_, fun z => nomatch z⟩
      have nad : dd ≠ a := ne_of_none hd ha
      have hd1 : (upd H' a (ExA (.ref CN) (some dd) a)) dd = some (.xd [(("part" : Str), .str part)]) := by
        rw [upd_ne nad]
        exact hd
      have Sa := same_new (o := ExA (.ref CN) (some dd) a) ha
      have ea := upd_same (H := H') (a := a) (o := ExA (.ref CN) (some dd) a)
      refine ⟨_, rfl, rfl, _, rfl, iteF ?_⟩
      refine ⟨_, rfl, .inl ⟨a, CN, some dd, .ref CL, .ref CL, false, rfl, Z.rN.ec, upd_same, (fun z e => by cases e; exact ⟨_, hd1⟩), .own CL, Z.kNL, _, rfl, .inl ⟨a, CN, some dd, .ref CN, .ref CN, true, rfl, Z.rN.ec, upd_same, (fun z e => by cases e; exact ⟨_, hd1⟩), .own CN, Z.kNN, _, rfl, .inl ⟨a, CN, some dd, .ref CM, .ref CM, false, rfl, Z.rN.ec, upd_same, (fun z e => by cases e; exact ⟨_, hd1⟩), .own CM, Z.kNM, (by show 3 ≤ sizeLine; decide), fun kn hkn => ?_⟩⟩⟩⟩
      have Sk := same_new (o := .lst [.bl false, .bl true, .bl false]) hkn
      have ek := upd_same (H := upd H' a (ExA (.ref CN) (some dd) a)) (a := kn) (o := .lst [.bl false, .bl true, .bl false])
      refine ⟨_, rfl, kn, _, rfl, .inl (SqL.of ek), rfl, rfl, _, rfl, iteT ?_⟩
      refine ⟨(by show 3 ≤ sizeLine; decide), fun ls hls => ?_⟩
      have Sl := same_new (o := .lst [.str "BadLayout", .str "BadNumber", .str "Misfit"]) hls
      have el := upd_same (H := upd (upd H' a (ExA (.ref CN) (some dd) a)) kn (.lst [.bl false, .bl true, .bl false])) (a := ls) (o := .lst [.str "BadLayout", .str "BadNumber", .str "Misfit"])
      have ST := Sa.trans (Sk.trans Sl)
      have ek2 := Sl _ _ ek
      have ea2 := Sl _ _ (Sk _ _ ea)
      have hd2 := ST _ _ hd
      refine ⟨_, rfl, .inl ⟨rfl, _, SqL.of ek2⟩, kn, _, .bl true, 1, .bl true, rfl, rfl, SqL.of ek2, rfl, rfl, rfl, rfl, (fun m z hm e => by match m, hm, e with
        | 0, _, e => cases e; rfl), ?_⟩
      refine ⟨ls, _, _, .str "BadNumber", rfl, rfl, SqL.of el, rfl, _, _, rfl, rfl, (by decide +kernel), ?_⟩
      refine ⟨_, rfl, a, CN, dd, _, _, rfl, Z.rN.xf, Z.rN.no, ea2, hd2, rfl, _, _, rfl, rfl, ?_, k _ ST⟩
      have := (show ("BadNumber" ++ " " : Str).length ≤ 20 by decide +kernel)
      rw [sizeLine_eq]
      have : ("BadNumber" ++ " " : Str).length + part.length ≤ 1020 := by omega
      exact Nat.le_trans this (by decide)
    · refine ⟨true, Z.rM.ex, fun _ a ha => ?_, fun z => nomatch z⟩
      have nad : dd ≠ a := ne_of_none hd ha
      have hd1 : (upd H' a (ExA (.ref CM) (some dd) a)) dd = some (.xd [(("part" : Str), .str part)]) := by
        rw [upd_ne nad]
        exact hd
      have Sa := same_new (o := ExA (.ref CM) (some dd) a) ha
      have ea := upd_same (H := H') (a := a) (o := ExA (.ref CM) (some dd) a)
      refine ⟨_, rfl, rfl, _, rfl, iteF ?_⟩
      refine ⟨_, rfl, .inl ⟨a, CM, some dd, .ref CL, .ref CL, false, rfl, Z.rM.ec, upd_same, (fun z e => by cases e; exact ⟨_, hd1⟩), .own CL, Z.kML, _, rfl, .inl ⟨a, CM, some dd, .ref CN, .ref CN, false, rfl, Z.rM.ec, upd_same, (fun z e => by cases e; exact ⟨_, hd1⟩), .own CN, Z.kMN, _, rfl, .inl ⟨a, CM, some dd, .ref CM, .ref CM, true, rfl, Z.rM.ec, upd_same, (fun z e => by cases e; exact ⟨_, hd1⟩), .own CM, Z.kMM, (by show 3 ≤ sizeLine; decide), fun kn hkn => ?_⟩⟩⟩⟩
      have Sk := same_new (o := .lst [.bl false, .bl false, .bl true]) hkn
      have ek := upd_same (H := upd H' a (ExA (.ref CM) (some dd) a)) (a := kn) (o := .lst [.bl false, .bl false, .bl true])
      refine ⟨_, rfl, kn, _, rfl, .inl (SqL.of ek), rfl, rfl, _, rfl, iteT ?_⟩
      refine ⟨(by show 3 ≤ sizeLine; decide), fun ls hls => ?_⟩
      have Sl := same_new (o := .lst [.str "BadLayout", .str "BadNumber", .str "Misfit"]) hls
      have el := upd_same (H := upd (upd H' a (ExA (.ref CM) (some dd) a)) kn (.lst [.bl false, .bl false, .bl true])) (a := ls) (o := .lst [.str "BadLayout", .str "BadNumber", .str "Misfit"])
      have ST := Sa.trans (Sk.trans Sl)
      have ek2 := Sl _ _ ek
      have ea2 := Sl _ _ (Sk _ _ ea)
      have hd2 := ST _ _ hd
      refine ⟨_, rfl, .inl ⟨rfl, _, SqL.of ek2⟩, kn, _, .bl true, 2, .bl true, rfl, rfl, SqL.of ek2, rfl, rfl, rfl, rfl, (fun m z hm e => by match m, hm, e with
        | 0, _, e => cases e; rfl
        | 1, _, e => cases e; rfl), ?_⟩
      refine ⟨ls, _, _, .str "Misfit", rfl, rfl, SqL.of el, rfl, _, _, rfl, rfl, (by decide +kernel), ?_⟩
      refine ⟨_, rfl, a, CM, dd, _, _, rfl, Z.rM.xf, Z.rM.no, ea2, hd2, rfl, _, _, rfl, rfl, ?_, k _ ST⟩
      have := (show ("Misfit" ++ " " : Str).length ≤ 20 by decide +kernel)
      rw [sizeLine_eq]
      have : ("Misfit" ++ " " : Str).length + part.length ≤ 1020 := by omega
      exact Nat.le_trans this (by decide)
end
end K25
namespace K25
open PySem PySem.Spec PyProof.Rows L2 OB SkE LamX
theorem putB_assoc (s1 s2 : Nat) (l y h : Option Nat) : putB (s1 * s2) (putB s1 l y) h = putB s1 l (putB s2 y h) := by
  cases l <;> cases y <;> cases h <;> try rfl
  rename_i a b c
  show some (a + s1 * b + s1 * s2 * c) = some (a + s1 * (b + s2 * c))
  rw [Nat.mul_add, Nat.mul_assoc, Nat.add_assoc]
/-- three beside one another: whichever two come first -/
theorem besM_assoc (s1 s2 : Nat) (m1 m2 m3 : List (Option Nat)) : besM (s1 * s2) (besM s1 m1 m2) m3 = besM s1 m1 (besM s2 m2 m3) := by
  unfold besM
  rw [List.flatMap_assoc]
  refine congrArg (fun f => List.flatMap f m3) (funext fun h => ?_)
  rw [List.map_flatMap, List.flatMap_map]
  refine congrArg (fun f => List.flatMap f m2) (funext fun y => ?_)
  rw [List.map_map]
  exact congrArg (fun f => List.map f m1) (funext fun l => putB_assoc s1 s2 l y h)
theorem besM_small {s1 s2 : Nat} {ms ns : List (Option Nat)} (h1 : ∀ x, some x ∈ ms → x < s1) (h2 : ∀ x, some x ∈ ns → x < s2) : ∀ x, some x ∈ besM s1 ms ns → x < s1 * s2 := fun x hx => by
  obtain ⟨h, hh, hx⟩ := List.mem_flatMap.mp hx
  obtain ⟨l, hl, e⟩ := List.mem_map.mp hx
  cases l with
  | none => cases e
  | some a =>
    cases h with
    | none => cases e
    | some b =>
      have e : a + s1 * b = x := Option.some.inj e
      have ha := h1 a hl
      have hb := h2 b hh
      have : s1 * (b + 1) ≤ s1 * s2 := Nat.mul_le_mul_left _ hb
      rw [Nat.mul_add, Nat.mul_one] at this
      omega
theorem grt_no {k : Nat} {ms : List (Option Nat)} (h : ∀ x, some x ∈ ms → x < k) : grt k ms = false := by
  unfold grt
  rw [List.any_eq_false]
  intro m hm
  cases m with
  | none => show ¬ (false = true); decide
  | some n =>
    have := h n hm
    show ¬ (decide (k ≤ n) = true)
    rw [decide_eq_true_eq]
    omega
theorem besM_ok {b b' s : Nat} {ms ns : List (Option Nat)} (l1 : ms.length = 2 ^ b) (l2 : ns.length = 2 ^ b') (h1 : 1 ≤ b + b') (h8 : b + b' ≤ 8) (g : grt 64 (besM s ms ns) = false) : LayOk (b + b') (besM s ms ns) :=
  ⟨h1, h8, by rw [besM_len, l1, l2, ← Nat.pow_add, Nat.add_comm], fun n hn => by have := grt_none g n hn; omega⟩
end K25
namespace K25
open PySem PySem.Spec PyProof.Rows L2 OB SkE LamX
def spThree : Sp := fun vs H Q _ => ∃ (p b : Addr) (n : Nat), vs = [.ref p] ∧ Orch H p b n ∧ n < 800000 ∧ ∀ H', Q (.bl true) H'
section
variable {P : Program} {w : World} {K : PySem.W.Frag} {mg : Str → Option Value} {base : Heap}
theorem sc__law_three_right : FnScope ["fold", "rows", "turn", "some", "bits", "states", "two", "three", "one"] ["fold"] (defScope s__law_three_right) := ⟨rfl, rfl, rfl, by decide +kernel, rfl, by decide +kernel, by decide +kernel⟩
abbrev N__law_three_right : List Str := ["fold", "rows", "turn", "some", "bits", "states", "two", "three", "one"]
theorem ok__law_three_right {f f1 f2 f3 fI fE C CB CM CN : Addr} {fd fd1 fd2 fd3 fdI fdE : FuncData} (F : Fun K "_law_three_right" "_law_three_right" s__law_three_right f fd) (T : Blt mg) (O_Layout : OwnC K mg "Layout" C fI)
    (D__law_herd : Df K mg "_law_herd" s__law_herd ["fold", "many"] f1 fd1) (D__law_means : Df K mg "_law_means" s__law_means ["fold", "bits", "states"] f2 fd2) (G__law_means : FnOk P w K mg base CX0 2 f2 fd2 ["fold", "bits", "states"] spMeans) (D_beside_layout : Df K mg "beside_layout" s_beside_layout ["one", "other", "states"] f3 fd3) (GX_beside_layout : FnOk P w K mg base (L2.CX P w) 6 f3 fd3 ["one", "other", "states"] (spBeside K C CB CM CN))
    (b_Layout_init : L2.Binds K fdI ["self", "bits", "means"] []) (G_Layout_init : FnOk P w K mg base CX0 4 fI fdI ["self", "bits", "means"] (spLayInit C)) (EQ_Layout : OwnEqC K C fE) (b_Layout_eq : L2.Binds K fdE ["self", "other"] []) (G_Layout_eq : FnOk P w K mg base CX0 1 fE fdE ["self", "other"] (spLayEq K C)) :
    FnOk P w K mg base CX0 8 f fd ["fold"] spThree := by
  have G_beside_layout := calm_of GX_beside_layout
  have G__law_herd : FnOk P w K mg base CX0 1 f1 fd1 ["fold", "many"] spDraw := ok__law_herd D__law_herd.F T
  refine F.ok sc__law_three_right (fun vs H Q E h => ?_) (fun cdv A outer s H vs Q E hr h => ?_)
  · obtain ⟨p, b, n, rfl, _⟩ := h
    rfl
  · obtain ⟨p, b, n, rfl, O, hn, k⟩ := h
    refine ⟨_, (pss_cons (ps_setLc (i := 1) (own := [("turn", 2)]) (g := (gName 2)) (tt := tYes) rfl sc__law_three_right.nd rfl rfl (sw_true rfl rfl rfl (by decide +kernel)) (pi_range1 (by rfl) T.n_range (pa_cons pe_int pa_nil)) (blkOk_by (N := N__law_three_right) (own := [("turn", 2)]) (sc := defScope s__law_three_right) (by decide +kernel)) (fun _ _ _ _ _ => (pg_name (i := 2) sc__law_three_right.nd rfl (Or.inl rfl))) (fun _ _ _ _ _ => pts_nil) (fun _ _ _ _ _ => (pe_tup (pa_cons (pe_op op_add pe_int (pe_call G__law_herd (hr.mono (by decide)) (by rfl) D__law_herd.g D__law_herd.F.kp D__law_herd.b .nil pass0 (pa_cons (pv 0) (pa_cons pe_int pa_nil)))) (pa_cons (pe_op op_add pe_int (pe_call G__law_herd (hr.mono (by decide)) (by rfl) D__law_herd.g D__law_herd.F.kp D__law_herd.b .nil pass0 (pa_cons (pv 0) (pa_cons pe_int pa_nil)))) pa_nil)))))
  (pss_cons (ps_setLc (i := 3) (own := [("bits", 4), ("states", 5)]) (g := (gTup K 2 (gCons (gName 4) (gCons (gName 5) gNil)))) (tt := tYes) rfl sc__law_three_right.nd rfl rfl (sw_true rfl rfl rfl (by decide +kernel)) (pi_list (pv 1)) (blkOk_by (N := N__law_three_right) (own := [("bits", 4), ("states", 5)]) (sc := defScope s__law_three_right) (by decide +kernel)) (fun _ _ _ _ _ => (pg_tup (by rfl) (pgs_cons (pg_name (i := 4) sc__law_three_right.nd rfl (Or.inl rfl)) (pgs_cons (pg_name (i := 5) sc__law_three_right.nd rfl (Or.inl rfl)) pgs_nil)))) (fun _ _ _ _ _ => pts_nil) (fun _ _ _ _ _ => (pe_make O_Layout.made G_Layout_init (hr.mono (by decide)) (by rfl) O_Layout.g b_Layout_init .nil pass0 (pa_cons (pv 4) (pa_cons (pe_call G__law_means (hr.mono (by decide)) (by rfl) D__law_means.g D__law_means.F.kp D__law_means.b .nil pass0 (pa_cons (pv 0) (pa_cons (pv 4) (pa_cons (pv 5) pa_nil)))) pa_nil)))))
  (pss_cons (ps_par (i := 6) (j := 7) (by rfl) sc__law_three_right.nd rfl rfl (by decide) rfl rfl (pa_cons (pe_ix ix_tup (pe_ix ix_list (pv 1) pe_int (fun _ _ => rfl)) pe_int (fun _ _ => rfl)) (pa_cons (pe_ix ix_tup (pe_ix ix_list (pv 1) pe_int (fun _ _ => rfl)) pe_int (fun _ _ => rfl)) pa_nil)) (by rfl))
  (pss_cons (ps_set (i := 8) sc__law_three_right.nd rfl (Or.inl rfl) (pe_call G_beside_layout (hr.mono (by decide)) (by rfl) D_beside_layout.g D_beside_layout.F.kp D_beside_layout.b .nil pass0 (pa_cons (pe_call G_beside_layout (hr.mono (by decide)) (by rfl) D_beside_layout.g D_beside_layout.F.kp D_beside_layout.b .nil pass0 (pa_cons (pe_ix ix_list (pv 3) pe_int (fun _ _ => rfl)) (pa_cons (pe_ix ix_list (pv 3) pe_int (fun _ _ => rfl)) (pa_cons (pv 6) pa_nil)))) (pa_cons (pe_ix ix_list (pv 3) pe_int (fun _ _ => rfl)) (pa_cons (pe_op op_mul (pv 6) (pv 7)) pa_nil)))))
  (pss_one (ps_ret (pe_cmpR (op_eqO G_Layout_eq EQ_Layout b_Layout_eq pass0 (hr.mono (by decide))) (pv 8) (pe_call G_beside_layout (hr.mono (by decide)) (by rfl) D_beside_layout.g D_beside_layout.F.kp D_beside_layout.b .nil pass0 (pa_cons (pe_ix ix_list (pv 3) pe_int (fun _ _ => rfl)) (pa_cons (pe_call G_beside_layout (hr.mono (by decide)) (by rfl) D_beside_layout.g D_beside_layout.F.kp D_beside_layout.b .nil pass0 (pa_cons (pe_ix ix_list (pv 3) pe_int (fun _ _ => rfl)) (pa_cons (pe_ix ix_list (pv 3) pe_int (fun _ _ => rfl)) (pa_cons (pv 7) pa_nil)))) (pa_cons (pv 6) pa_nil)))) (nomark _)))))))), ?_⟩
    obtain ⟨up, hup⟩ := O.pn
    obtain ⟨ub, hub⟩ := O.bn
    refine ⟨3, rfl, by decide, by decide, fun D hD => ?_⟩
    have nDp : D ≠ p := (ne_of_none hup hD).symm
    have nDb : b ≠ D := ne_of_none hub hD
    refine lc_range (n := 3) (fun i H' => ∃ rs : List (Addr × Nat × Nat), rs.length = i ∧ (∀ r ∈ rs, 1 ≤ r.2.1 ∧ r.2.1 ≤ 2 ∧ 2 ≤ r.2.2 ∧ r.2.2 ≤ 3 ∧ r.1 ≠ p ∧ H' r.1 = some (.tup [.int (r.2.1 : Int), .int (r.2.2 : Int)])) ∧ H' D = some (.lst (rs.map fun r => V.ref r.1)) ∧ Orch H' p b (n + 2 * i)) ⟨[], rfl, (fun r hr => by cases hr), upd_same, O.same (same_new hD)⟩ ?_ ?_
    · rintro i H2 hi ⟨rs, e1, e2, e3, O2⟩
      refine ⟨rfl, _, rfl, p, b, _, 2, rfl, O2, by omega, by decide, by decide, fun r H3 r0 r1 O3 B3 => ⟨_, _, rfl, rfl, _, rfl, p, b, _, 2, rfl, O3, by omega, by decide, by decide, fun r' H4 q0 q1 O4 B4 => ⟨_, _, rfl, rfl, by show 2 ≤ sizeLine; decide, fun t ht => ?_⟩⟩⟩
      obtain ⟨r, rfl⟩ := Int.eq_ofNat_of_zero_le r0
      obtain ⟨r', rfl⟩ := Int.eq_ofNat_of_zero_le q0
      have St := same_new (o := .tup [.int (1 + (r : Int)), .int (2 + (r' : Int))]) ht
      have B5 := (B3.trans B4).trans (But.of St)
      have hD5 := B5 _ _ e3 nDp
      have et := upd_same (H := H4) (a := t) (o := .tup [.int (1 + (r : Int)), .int (2 + (r' : Int))])
      have O5 := O4.same St
      obtain ⟨up4, hup4⟩ := O4.pn
      have ntp : t ≠ p := (ne_of_none hup4 ht).symm
      show ∃ acc, (upd H4 t (.tup [.int (1 + (r : Int)), .int (2 + (r' : Int))])) D = some (.lst acc) ∧ _
      generalize upd H4 t (.tup [.int (1 + (r : Int)), .int (2 + (r' : Int))]) = H5 at B5 hD5 et O5 ⊢
      refine ⟨_, hD5, by rw [List.length_map, sizeLine_eq]; omega, rs ++ [(t, 1 + r, 2 + r')], by rw [List.length_append, e1]; rfl, fun x hx => ?_, by rw [upd_same, List.map_append]; rfl, (O5.mono (by omega)).keep (fun u e => by rw [upd_ne nDp.symm]; exact e) (fun u e => by rw [upd_ne nDb]; exact e)⟩
      rcases List.mem_append.mp hx with h | h
      · obtain ⟨x1, x2, x3, x4, x5, x6⟩ := e2 x h
        have x7 := B5 _ _ x6 x5
        refine ⟨x1, x2, x3, x4, x5, ?_⟩
        rw [upd_ne (ne_of x7 hD5 (by intro z; cases z))]
        exact x7
      · cases List.mem_singleton.mp h
        refine ⟨by show 1 ≤ 1 + r; omega, by show 1 + r ≤ 2; omega, by show 2 ≤ 2 + r'; omega, by show 2 + r' ≤ 3; omega, ntp, ?_⟩
        show (upd H5 D _) t = _
        rw [upd_ne (ne_of et hD5 (by intro z; cases z)), et]
        rfl
    rintro H2 ⟨rs, e1, e2, e3, O2⟩
    refine ⟨_, rfl, D, rfl, ⟨_, SqL.of e3⟩, fun D2 hD2 => ?_⟩
    have nD2p : D2 ≠ p := by
      obtain ⟨u2, hu2⟩ := O2.pn
      exact (ne_of_none hu2 hD2).symm
    have nD2b : b ≠ D2 := by
      obtain ⟨u2, hu2⟩ := O2.bn
      exact ne_of_none hu2 hD2
    refine lc_list (K := K) (a := D) (xs := rs.map fun r => V.ref r.1) (fun j H' => ∃ os : List (Addr × List (Option Nat)), os.length = j ∧ (∀ (m : Nat) (o : Addr × List (Option Nat)), os[m]? = some o → ∃ r : Addr × Nat × Nat, rs[m]? = some r ∧ IsLay H' C o.1 r.2.1 o.2 ∧ LayOk r.2.1 o.2 ∧ ∀ x, some x ∈ o.2 → x < r.2.2) ∧ But p H2 H' ∧ H' D2 = some (.lst (os.map fun o => V.ref o.1)) ∧ Orch H' p b (n + 6 + 100 * j)) ⟨[], rfl, (fun m o h => by cases h), But.of (same_new hD2), upd_same, O2.same (same_new hD2)⟩ (fun j H' _ ⟨os, _, _, h, _⟩ => SqL.of (h _ _ e3 nDp)) ?_ ?_
    · rintro j x H3 hx ⟨os, o1, o2, o3, o4, o5⟩
      obtain ⟨r, hr2, rfl⟩ : ∃ r, rs[j]? = some r ∧ x = .ref r.1 := by
        rw [List.getElem?_map] at hx
        cases e : rs[j]? with
        | none => rw [e] at hx; cases hx
        | some r => rw [e] at hx; exact ⟨r, rfl, (Option.some.inj hx).symm⟩
      have hj := (List.getElem?_eq_some_iff.mp hr2).1
      obtain ⟨x1, x2, x3, x4, x5, x6⟩ := e2 r (List.mem_of_getElem? hr2)
      refine ⟨r.1, _, rfl, SqT.of (o3 _ _ x6 x5), rfl, _, _, rfl, _, _, rfl, rfl, rfl, _, rfl, _, rfl, _, rfl, _, rfl, p, b, _, r.2.1, r.2.2, rfl, o5, by omega, by omega, by omega, by omega, fun q ms H4 hq h4 dr O4 B4 => ?_⟩
      have ok : LayOk r.2.1 ms := ⟨x1, by omega, dr.1, fun y hy => by have := dr.2 y hy; omega⟩
      intro x dx nx ndx nex
      refine make_lay ok (.inl h4) nx ndx fun H5 S5 hl => ?_
      have B5 := B4.trans (But.of S5)
      have h5 := B5 _ _ o4 nD2p
      have bt : ∀ o, But D2 H5 (upd H5 D2 o) := fun o a u e na => by rw [upd_ne na]; exact e
      refine ⟨_, h5, by rw [List.length_map, sizeLine_eq]; omega, os ++ [(x, ms)], by rw [List.length_append, o1]; rfl, fun m o hm => ?_, fun a u e na => ?_, by rw [upd_same, List.map_append]; rfl, (((O4.same S5).mono (by omega)).keep (fun u e => by rw [upd_ne nD2p.symm]; exact e) (fun u e => by rw [upd_ne nD2b]; exact e))⟩
      · by_cases c : m < os.length
        · rw [List.getElem?_append_left c] at hm
          obtain ⟨r', g1, g2, g3, g4⟩ := o2 m o hm
          have g5 : IsLay H5 C o.1 r'.2.1 o.2 := by
            obtain ⟨_, _, _, hp', _⟩ := id o5
            exact g2.but B5 hp'
          exact ⟨r', g1, g5.but (bt _) h5, g3, g4⟩
        · rw [List.getElem?_append_right (by omega)] at hm
          have : m - os.length = 0 := by
            have := (List.getElem?_eq_some_iff.mp hm).1
            simp at this
            omega
          rw [this] at hm
          cases hm
          have em : m = j := by omega
          subst em
          exact ⟨r, hr2, hl.but (bt _) h5, ok, dr.2⟩
      · rw [upd_ne (ne_of_none e hD2)]
        exact B5 _ _ (o3 _ _ e na) na
    rintro H3 ⟨os, o1, o2, o3, o4, o5⟩
    rw [List.length_map, e1] at o1
    have e3' := o3 _ _ e3 nDp
    have three : ∀ {α : Type} (l : List α), l.length = 3 → ∃ a b c, l = [a, b, c] := fun l h => match l, h with
      | [a, b, c], _ => ⟨a, b, c, rfl⟩
    obtain ⟨r0, r1, r2, rfl⟩ := three rs e1
    obtain ⟨a0, a1, a2, rfl⟩ := three os o1
    all_goals
      obtain ⟨x1, x2, x3, x4, x5, x6⟩ := e2 r0 (by simp)
      obtain ⟨y1, y2, y3, y4, y5, y6⟩ := e2 r1 (by simp)
      obtain ⟨z1, z2, z3, z4, z5, z6⟩ := e2 r2 (by simp)
      have x7 := o3 _ _ x6 x5
      have y7 := o3 _ _ y6 y5
      obtain ⟨_, h0, L0, K0, W0⟩ := o2 0 a0 rfl
      cases h0
      obtain ⟨_, h1, L1, K1, W1⟩ := o2 1 a1 rfl
      cases h1
      obtain ⟨_, h2, L2, K2, W2⟩ := o2 2 a2 rfl
      cases h2
      obtain ⟨q0, b0, s0⟩ := r0
      obtain ⟨q1, b1, s1⟩ := r1
      obtain ⟨q2, b2, s2⟩ := r2
      obtain ⟨c0, m0⟩ := a0
      obtain ⟨c1, m1⟩ := a1
      obtain ⟨c2, m2⟩ := a2
      simp only at x1 x2 x3 x4 y1 y2 y3 y4 z1 z2 z3 z4 W0 W1 W2
      have p01 : s0 * s1 ≤ 9 := Nat.mul_le_mul x4 y4
      have p12 : s1 * s2 ≤ 9 := Nat.mul_le_mul y4 z4
      have p012 : s0 * s1 * s2 ≤ 27 := Nat.mul_le_mul p01 z4
      have p012' : s0 * (s1 * s2) ≤ 27 := Nat.mul_le_mul x4 p12
      have q01 : 1 ≤ s0 * s1 := Nat.mul_pos (by omega) (by omega)
      have V01 := besM_small W0 W1
      have V12 := besM_small W1 W2
      have V012 := besM_small V01 W2
      have V012' := besM_small W0 V12
      refine ⟨_, rfl, D, _, _, .ref q0, rfl, rfl, SqL.of e3', rfl, q0, _, _, .int (s0 : Int), rfl, rfl, SqT.of x7, rfl, _, rfl, D, _, _, .ref q1, rfl, rfl, SqL.of e3', rfl, q1, _, _, .int (s1 : Int), rfl, rfl, SqT.of y7, rfl, _, _, rfl, ?_⟩
      have no : ∀ {k : Nat} {l r : List (Option Nat)}, grt k l = false → grt 64 r = false → (grt k l || grt 64 r) = false := fun h1 h2 => by rw [h1, h2]; rfl
      refine ⟨_, rfl, D2, _, _, .ref c0, rfl, rfl, SqL.of o4, rfl, _, rfl, D2, _, _, .ref c1, rfl, rfl, SqL.of o4, rfl, _, rfl, _, _, _, rfl, .inr ⟨c0, _, _, rfl, L0, K0, .inr ⟨c1, _, _, rfl, L1, K1, .inr ⟨s0, rfl, by omega, by omega, .inr ⟨by show b0 + b1 ≤ 8; omega, .inr ⟨no (grt_no W0) (grt_no fun x hx => by have := V01 x hx; omega), fun t1 H4 f1 S4 T1 => ?_⟩⟩⟩⟩⟩⟩
      have G1 : LayOk (b0 + b1) (besM s0 m0 m1) := besM_ok K0.len K1.len (by omega) (by omega) (grt_no fun x hx => by have := V01 x hx; omega)
      refine ⟨_, rfl, D2, _, _, .ref c2, rfl, rfl, SqL.of (S4 _ _ o4), rfl, _, rfl, _, rfl, _, _, rfl, rfl, .inl ⟨by omega, by omega⟩, _, _, _, rfl, .inr ⟨t1, _, _, rfl, T1, G1, .inr ⟨c2, _, _, rfl, L2.same S4, K2, .inr ⟨s0 * s1, congrArg V.int (Int.natCast_mul s0 s1).symm, by omega, by omega, .inr ⟨by show b0 + b1 + b2 ≤ 8; omega, .inr ⟨no (grt_no V01) (grt_no fun x hx => by have := V012 x hx; omega), fun t2 H5 f2 S5 T2 => ?_⟩⟩⟩⟩⟩⟩
      have S35 := S4.trans S5
      refine ⟨_, rfl, _, rfl, D2, _, _, .ref c0, rfl, rfl, SqL.of (S35 _ _ o4), rfl, _, rfl, D2, _, _, .ref c1, rfl, rfl, SqL.of (S35 _ _ o4), rfl, _, rfl, D2, _, _, .ref c2, rfl, rfl, SqL.of (S35 _ _ o4), rfl, _, rfl, _, _, _, rfl, .inr ⟨c1, _, _, rfl, L1.same S35, K1, .inr ⟨c2, _, _, rfl, L2.same S35, K2, .inr ⟨s1, rfl, by omega, by omega, .inr ⟨by show b1 + b2 ≤ 8; omega, .inr ⟨no (grt_no W1) (grt_no fun x hx => by have := V12 x hx; omega), fun t3 H6 f3 S6 T3 => ?_⟩⟩⟩⟩⟩⟩
      have G3 : LayOk (b1 + b2) (besM s1 m1 m2) := besM_ok K1.len K2.len (by omega) (by omega) (grt_no fun x hx => by have := V12 x hx; omega)
      refine ⟨_, rfl, _, _, _, rfl, .inr ⟨c0, _, _, rfl, L0.same (S35.trans S6), K0, .inr ⟨t3, _, _, rfl, T3, G3, .inr ⟨s0, rfl, by omega, by omega, .inr ⟨by show b0 + (b1 + b2) ≤ 8; omega, .inr ⟨no (grt_no W0) (grt_no fun x hx => by have := V012' x hx; omega), fun t4 H7 f4 S7 T4 => ?_⟩⟩⟩⟩⟩⟩
      refine eq_lay (T2.same (S6.trans S7)) T4 ?_
      show Q (.bl (decide (b0 + b1 + b2 = b0 + (b1 + b2) ∧ besM (s0 * s1) (besM s0 m0 m1) m2 = besM s0 m0 (besM s1 m1 m2)))) H7
      rw [show decide (b0 + b1 + b2 = b0 + (b1 + b2) ∧ besM (s0 * s1) (besM s0 m0 m1) m2 = besM s0 m0 (besM s1 m1 m2)) = true from decide_eq_true ⟨Nat.add_assoc _ _ _, besM_assoc _ _ _ _ _⟩]
      exact k H7
end
end K25
/-! Lambdas by generator: what they bind, and that a call's reading grows with what is wanted. -/
namespace OB
open PySem PySem.Spec PyProof.Rows L2 LamX
def MTA (t : TA) : Prop := ∀ σ H (Q1 Q2 : List V → Hp → Prop), (∀ vs H, Q1 vs H → Q2 vs H) → t σ H Q1 → t σ H Q2
def MTE (t : TE) : Prop := ∀ σ H (Q1 Q2 : VK), (∀ v H, Q1 v H → Q2 v H) → t σ H Q1 → t σ H Q2
theorem mta_nil : MTA tNil := fun σ H Q1 Q2 h z => h _ _ z
theorem mta_cons {a : TE} {r : TA} (ha : MTE a) (hr : MTA r) : MTA (tCons a r) := fun σ H Q1 Q2 h z => ha σ H _ _ (fun x H1 z1 => hr σ H1 _ _ (fun xs H2 z2 => h _ _ z2) z1) z
theorem mte_var {i : Nat} : MTE (tVar i) := fun σ H Q1 Q2 h ⟨v, e, z⟩ => ⟨v, e, h _ _ z⟩
theorem mte_c {v : V} : MTE (tC v) := fun σ H Q1 Q2 h z => h _ _ z
theorem mte_lst {t : TA} (ht : MTA t) : MTE (tLst t) := fun σ H Q1 Q2 h z => ht σ H _ _ (fun xs H1 ⟨l, z1⟩ => ⟨l, fun p hp => h _ _ (z1 p hp)⟩) z
theorem mte_tup {t : TA} (ht : MTA t) : MTE (tTup t) := fun σ H Q1 Q2 h z => ht σ H _ _ (fun xs H1 ⟨l, z1⟩ => ⟨l, fun p hp => h _ _ (z1 p hp)⟩) z
def SpMono (sp : Sp) : Prop := ∀ vs H (Q1 Q2 : VK) (E1 E2 : XK), (∀ c d H, E1 c d H → E2 c d H) → (∀ v H, Q1 v H → Q2 v H) → sp vs H Q1 E1 → sp vs H Q2 E2
theorem mono_S {sp : Sp} {t : TA} (hs : SpMono sp) (ht : MTA t) : ∀ σ : L2.St, MonoL fun E H' Q' => tCallS sp (WE fun cls d _ H => E cls d H) t σ H' Q' :=
  fun σ E1 E2 H Q1 Q2 hE hQ z => ht σ H _ _ (fun vs H1 z1 => hs _ _ _ _ _ _ (fun c d H => hE c d H) (fun v H => hQ v H) z1) z
theorem mono_KS {sp : Sp} {gV : List V → List V → List V} {t : TA} (hs : SpMono sp) (ht : MTA t) : ∀ σ : L2.St, MonoL fun E H' Q' => tCallKS sp gV (WE fun cls d _ H => E cls d H) tNil t σ H' Q' :=
  fun σ E1 E2 H Q1 Q2 hE hQ z => ht σ H _ _ (fun vs H1 z1 => hs _ _ _ _ _ _ (fun c d H => hE c d H) (fun v H => hQ v H) z1) z
theorem bind_0 {pr : Arguments} (h : ∀ (q : Str) (body : Expr) (scope : Scope) (cl : List (Str × Addr)) (pm cv ctv : Value), bindArgs (lFn q pr body scope cl .none pm cv ctv) ⟨[], []⟩ = pure []) : ∀ ds : List Value, Vals (([] : List Int).map V.int) ds → LamB pr [] ds := fun ds rd => by
  cases rd
  exact lamB0 h
theorem bind_1 {pr : Arguments} {a : Str} {n : Int} (h : ∀ (d : Value) (q : Str) (body : Expr) (scope : Scope) (cl : List (Str × Addr)) (T : Addr) (pm cv ctv : Value), ∃ k, bindArgs (lFn q pr body scope cl (.ref T) pm cv ctv) ⟨[], []⟩ = seqItems? (.ref T) >>= k ∧ k (some #[d]) = pure [(a, d)]) :
    ∀ ds : List Value, Vals (([n] : List Int).map V.int) ds → LamB pr [a] ds := fun ds rd => by
  cases rd with
  | cons r rr =>
    cases rr
    exact lamB1 (h _)
theorem hu_0 {P1 : Addr} {q1 : Str} : ∀ p ∈ [(P1, q1)], p.1 = P1 → p.2 = q1 := fun p hp _ => congrArg Prod.snd (List.mem_singleton.mp hp)
theorem hu_1 {P1 P2 : Addr} {q1 q2 : Str} (n : P1 ≠ P2) : ∀ p ∈ [(P1, q1), (P2, q2)], p.1 = P1 → p.2 = q1 := fun p hp e => by
  rcases List.mem_cons.mp hp with rfl | hp
  · rfl
  · rw [List.mem_singleton.mp hp] at e
    exact absurd e.symm n
theorem hu_2 {P1 P2 : Addr} {q1 q2 : Str} (n : P1 ≠ P2) : ∀ p ∈ [(P1, q1), (P2, q2)], p.1 = P2 → p.2 = q2 := fun p hp e => by
  rcases List.mem_cons.mp hp with rfl | hp
  · exact absurd e n
  · exact congrArg Prod.snd (List.mem_singleton.mp hp)
end OB
/-! repr of None, of a truth or of an int. -/
namespace OB
open PySem PySem.Spec PyProof.Rows L2
section
variable {X : Cx}
def rvT : V → Str
  | .non => "None"
  | .int i => toString i
  | .bl b => if b then "True" else "False"
  | _ => ""
def rReprV : List V → Hp → VK → Prop := fun xs H Q => ∃ v : V, xs = [v] ∧ (v = .non ∨ (∃ i, v = .int i ∧ i.natAbs.log2 < 1920) ∨ ∃ b, v = .bl b) ∧ Q (.str (rvT v)) H
theorem call_reprV : CallR X (.builtin "repr") rReprV := by
  intro pins s σ H xs us Q I r h
  obtain ⟨v, rfl, hv, q⟩ := h
  cases r with
  | cons r rr =>
    cases rr
    rcases hv with rfl | ⟨i, rfl, hz⟩ | ⟨b, rfl⟩
    · cases r
      exact PySem.P.repr_of_none ⟨.str _, H, I.tok _, ⟨_, rfl⟩, q⟩
    · obtain ⟨t, rfl⟩ := r
      exact PySem.P.repr_of_int hz ⟨.str _, H, I.tok _, ⟨_, rfl⟩, q⟩
    · cases r
      exact PySem.P.repr_of_bool ⟨.str _, H, I.tok _, ⟨_, rfl⟩, q⟩
end
end OB
namespace K25
open PySem PySem.Spec PyProof.Rows L2 OB SkE LamX
def LQl : Str := (envOfC "law" (defScope s_law) 0 0 .none).qual ++ "<lambda>"
def LQp : Str := (envOfC "_law_pair_right" (defScope s__law_pair_right) 0 0 .none).qual ++ "<lambda>"
def spNeedWord' (C : Addr) : Sp := fun vs H Q _ => ∃ (x : Addr) (b : Nat) (ms : List (Option Nat)) (w : Nat), vs = [.ref x, .int (w : Int)] ∧ IsLay H C x b ms ∧ w < ms.length ∧ Q .non H
def spMeaning (C : Addr) : Sp := fun vs H Q _ => ∃ (x : Addr) (b : Nat) (ms : List (Option Nat)) (w : Nat) (m : Option Nat), vs = [.ref x, .int (w : Int)] ∧ IsLay H C x b ms ∧ ms[w]? = some m ∧ Q (mv m) H
theorem beside_mono {K : PySem.W.Frag} {C CB CM CN : Addr} : SpMono (spBeside K C CB CM CN) := fun vs H Q1 Q2 E1 E2 hE hQ h => by
  obtain ⟨x, y, z, e, h⟩ := h
  refine ⟨x, y, z, e, ?_⟩
  rcases h with ⟨n, r⟩ | ⟨a, b, ms, e1, h1, h2, h⟩
  · exact .inl ⟨n, fun d hd => hE _ _ _ (r d hd)⟩
  refine .inr ⟨a, b, ms, e1, h1, h2, ?_⟩
  rcases h with ⟨n, r⟩ | ⟨a', b', ns, e2, g1, g2, h⟩
  · exact .inl ⟨n, fun d hd => hE _ _ _ (r d hd)⟩
  refine .inr ⟨a', b', ns, e2, g1, g2, ?_⟩
  rcases h with ⟨n, r⟩ | ⟨s, e3, s1, s2, h⟩
  · exact .inl ⟨n, fun d hd => hE _ _ _ (r d hd)⟩
  refine .inr ⟨s, e3, s1, s2, ?_⟩
  rcases h with ⟨n, r⟩ | ⟨n, h⟩
  · exact .inl ⟨n, fun d hd => hE _ _ _ (r d hd)⟩
  refine .inr ⟨n, ?_⟩
  rcases h with ⟨n, r⟩ | ⟨n, q⟩
  · exact .inl ⟨n, fun H' S d hd => hE _ _ _ (r H' S d hd)⟩
  · exact .inr ⟨n, fun t H' f S L => hQ _ _ (q t H' f S L)⟩
section
variable {P : Program} {w : World} {K : PySem.W.Frag} {mg : Str → Option Value} {base : Heap}
theorem sc_need_word_of : FnScope ["layout", "word"] ["layout", "word"] (defScope s_need_word_of) := ⟨rfl, rfl, rfl, by decide +kernel, rfl, by decide +kernel, by decide +kernel⟩
abbrev N_need_word_of : List Str := ["layout", "word"]
theorem ok_need_word_of {f f1 f2 fI C : Addr} {fd fd1 fd2 : FuncData} (F : Fun K "need_word_of" "need_word_of" s_need_word_of f fd) (T : Blt mg) (O_Layout : OwnC K mg "Layout" C fI) (n2 : NoAttr K C "means") (D_is_within : Df K mg "is_within" s_is_within ["value", "least", "most"] f1 fd1) (D_is_integer : Df K mg "is_integer" s_is_integer ["value"] f2 fd2) : FnOk P w K mg base CX0 3 f fd ["layout", "word"] (spNeedWord' C) := by
  have G_is_within : FnOk P w K mg base CX0 2 f1 fd1 ["value", "least", "most"] (spWithin K) := ok_is_within D_is_within.F D_is_integer T
  refine F.ok sc_need_word_of (fun vs H Q E h => ?_) (fun cdv A outer s H vs Q E hr h => ?_)
  · obtain ⟨x, b, ms, i, rfl, _⟩ := h
    rfl
  · obtain ⟨x, b, ms, i, rfl, ⟨dx, fs, t, h1, h2, h3, h4⟩, hi, k⟩ := h
    refine ⟨_, (pss_one (ps_if (pt_not (pt_val (pe_call G_is_within (hr.mono (by decide)) (by rfl) D_is_within.g D_is_within.F.kp D_is_within.b .nil pass0 (pa_cons (pv 1) (pa_cons pe_int (pa_cons (pe_op op_sub (pe_callB call_len_seq (by rfl) T.n_len (by decide +kernel) (pa_cons (pe_fld (pv 0) rfl) pa_nil)) pe_int) pa_nil)))))) (pss_one ps_never) pss_nil)), ?_⟩
    refine ⟨_, rfl, _, rfl, x, C, dx, _, _, rfl, h1, O_Layout.cl, n2, h3, t, _, rfl, .inr (SqT.of h4), _, _, rfl, rfl, _, some 0, some (((ms.map mv).length : Int) - 1), true, rfl, isI_int _, _, rfl, ?_⟩
    rw [List.length_map, in_bounds (by omega) (by omega)]
    exact iteF k
theorem sc_meaning_of : FnScope ["layout", "word"] ["layout", "word"] (defScope s_meaning_of) := ⟨rfl, rfl, rfl, by decide +kernel, rfl, by decide +kernel, by decide +kernel⟩
abbrev N_meaning_of : List Str := ["layout", "word"]
theorem ok_meaning_of {f f1 f2 f3 f4 fI C CB : Addr} {fd fd1 fd2 fd3 fd4 : FuncData} (F : Fun K "meaning_of" "meaning_of" s_meaning_of f fd) (T : Blt mg) (O_Layout : OwnC K mg "Layout" C fI) (n2 : NoAttr K C "means") (D_need_layout : Df K mg "need_layout" s_need_layout ["value", "part"] f1 fd1) (GX_need_layout : FnOk P w K mg base (L2.CX P w) 4 f1 fd1 ["value", "part"] (spNeedLayX K C CB)) (D_need_word_of : Df K mg "need_word_of" s_need_word_of ["layout", "word"] f2 fd2) (D_is_within : Df K mg "is_within" s_is_within ["value", "least", "most"] f3 fd3) (D_is_integer : Df K mg "is_integer" s_is_integer ["value"] f4 fd4) : FnOk P w K mg base CX0 6 f fd ["layout", "word"] (spMeaning C) := by
  have G_need_layout := calm_of GX_need_layout
  have G_need_word_of : FnOk P w K mg base CX0 3 f2 fd2 ["layout", "word"] (spNeedWord' C) := ok_need_word_of D_need_word_of.F T O_Layout n2 D_is_within D_is_integer
  refine F.ok sc_meaning_of (fun vs H Q E h => ?_) (fun cdv A outer s H vs Q E hr h => ?_)
  · obtain ⟨x, b, ms, i, m, rfl, _⟩ := h
    rfl
  · obtain ⟨x, b, ms, i, m, rfl, hx, hm, k⟩ := h
    refine ⟨_, (pss_cons (ps_expr (pe_call G_need_layout (hr.mono (by decide)) (by rfl) D_need_layout.g D_need_layout.F.kp D_need_layout.b .nil pass0 (pa_cons (pv 0) (pa_cons pe_str pa_nil))))
  (pss_cons (ps_expr (pe_call G_need_word_of (hr.mono (by decide)) (by rfl) D_need_word_of.g D_need_word_of.F.kp D_need_word_of.b .nil pass0 (pa_cons (pv 0) (pa_cons (pv 1) pa_nil))))
  (pss_one (ps_ret (pe_ix ix_tup (pe_fld (pv 0) rfl) (pv 1) (fun _ _ => rfl)))))), ?_⟩
    have hi := (List.getElem?_eq_some_iff.mp hm).1
    refine ⟨_, rfl, _, "layout", rfl, .inr ⟨x, b, ms, rfl, hx, _, rfl, _, rfl, x, b, ms, i, rfl, hx, hi, ?_⟩⟩
    obtain ⟨dx, fs, t, h1, h2, h3, h4⟩ := hx
    exact ⟨_, rfl, x, C, dx, _, _, rfl, h1, O_Layout.cl, n2, h3, _, rfl, t, _, _, mv m, rfl, rfl, SqT.of h4, atI_nat (by rw [List.getElem?_map, hm]; rfl), k⟩
end
end K25
namespace K25
open PySem PySem.Spec PyProof.Rows L2 OB SkE LamX
abbrev TBs (Pl Pp : Addr) : List (Addr × Str) := [(Pl, LQl), (Pp, LQp)]
def spPair (Pl Pp : Addr) : Sp := fun vs H Q _ => ∃ (p f0 : Addr) (n : Nat) (a a' q q' : Addr) (b b' s : Nat) (ms ns : List (Option Nat)), vs = [.ref p, .ref a, .ref a', .int (s : Int)] ∧ Orch H p f0 n ∧ n + 10 < 1000000 ∧ Tabs (TBs Pl Pp) H ∧
  H a = some (.tup [.int (b : Int), .ref q]) ∧ H a' = some (.tup [.int (b' : Int), .ref q']) ∧ H q = some (.lst (ms.map mv)) ∧ H q' = some (.lst (ns.map mv)) ∧ LayOk b ms ∧ LayOk b' ns ∧ 1 ≤ s ∧ s ≤ 64 ∧
  ∀ H', Orch H' p f0 (n + 1) → Tabs (TBs Pl Pp) H' → Q (.bl true) H'
theorem join_chars : ∀ l : List Str, (∀ y ∈ l, ∀ c ∈ y.cps.toList, c < 256) → ∀ c ∈ (Txt.join " " l).cps.toList, c < 256
  | [], _ => by decide +kernel
  | [a], h => by
    rw [TL.join_eq]
    exact h a List.mem_cons_self
  | a :: b :: r, h => by
    have ih := join_chars (b :: r) fun y hy => h y (List.mem_cons_of_mem _ hy)
    rw [TL.join_eq] at ih ⊢
    intro c hc
    have hc : c ∈ TL.tl (a ++ " " ++ Str.join " " (b :: r)) := hc
    rw [TL.tl_append, TL.tl_append, List.mem_append, List.mem_append] at hc
    rcases hc with (hc | hc) | hc
    · exact h a List.mem_cons_self c hc
    · have e : TL.tl (" " : Str) = [32] := by decide +kernel
      rw [e, List.mem_singleton] at hc
      omega
    · exact ih c hc
theorem lay_chars {b : Nat} {ms : List (Option Nat)} (ok : LayOk b ms) : ∀ c ∈ (layText b ms).cps.toList, c < 16 ^ 8 := fun c hc => by
  have := join_chars _ (fun y hy => ?_) c hc
  · have : (256 : Nat) < 16 ^ 8 := by decide
    omega
  · rcases List.mem_cons.mp hy with rfl | hy
    · exact fun c hc => ((ds_small b (by have := ok.b8; omega)).2.2.2.2.2.2.2 c hc).2
    · obtain ⟨m, hm, rfl⟩ := List.mem_map.mp hy
      cases m with
      | none => show ∀ c ∈ (Str.ofString "-").cps.toList, c < 256; decide +kernel
      | some n =>
        have := ok.small n hm
        exact fun c hc => ((ds_small n (by omega)).2.2.2.2.2.2.2 c hc).2
theorem lay_strOk {b : Nat} {ms : List (Option Nat)} (ok : LayOk b ms) : PyData.strOk (layText b ms) = true := by
  unfold PyData.strOk
  rw [Array.all_eq_true']
  intro c hc
  have : c < 256 := join_chars _ (fun y hy => by
    rcases List.mem_cons.mp hy with rfl | hy
    · exact fun c hc => ((ds_small b (by have := ok.b8; omega)).2.2.2.2.2.2.2 c hc).2
    · obtain ⟨m, hm, rfl⟩ := List.mem_map.mp hy
      cases m with
      | none => show ∀ c ∈ (Str.ofString "-").cps.toList, c < 256; decide +kernel
      | some n =>
        have := ok.small n hm
        exact fun c hc => ((ds_small n (by omega)).2.2.2.2.2.2.2 c hc).2) c (Array.mem_toList_iff.mpr hc)
  exact decide_eq_true (by omega)
theorem lay_ext {H H' : Hp} {C x : Addr} {b : Nat} {ms : List (Option Nat)} (h : IsLay H C x b ms) (e : ExtN H H') : IsLay H' C x b ms := by
  obtain ⟨dx, fs, t, h1, h2, h3, h4⟩ := h
  exact ⟨dx, fs, t, e _ _ h1 (fun _ z => nomatch z), h2, h3, e _ _ h4 (fun _ z => nomatch z)⟩
def datM (b : Nat) (ms : List (Option Nat)) : PyData := .tuple [.int (b : Int), .tuple (ms.map md)]
theorem nice_md : ∀ ms : List (Option Nat), (∀ n, some n ∈ ms → n ≤ 63) → niceAll (ms.map md) = true
  | [], _ => by simp [niceAll]
  | m :: r, h => by
    have h2 := nice_md r fun x hx => h x (List.mem_cons_of_mem _ hx)
    cases m with
    | none => simp [niceAll, nice, md, h2]
    | some n =>
      have h1 : ((n : Nat) : Int).natAbs.log2 < 1920 := log_small (by have := h n List.mem_cons_self; omega)
      simp [niceAll, nice, md, h2]
      simpa using h1
theorem sz_md : ∀ ms : List (Option Nat), szAll (ms.map md) ≤ 1923 * ms.length
  | [] => by simp [szAll]
  | m :: r => by
    have := sz_md r
    have : sz (md m) ≤ 1921 := by cases m <;> simp [md, sz]
    simp only [List.map_cons, szAll, List.length_cons]
    omega
theorem datM_ok {b : Nat} {ms : List (Option Nat)} (ok : LayOk b ms) : nice (datM b ms) = true ∧ (datM b ms).canLay0 = true ∧ (datM b ms).depth ≤ 60 ∧ sz (datM b ms) ≤ 16000000 := by
  have n1 := nice_md ms ok.small
  have n2 : ((b : Nat) : Int).natAbs.log2 < 1920 := log_small (by have := ok.b8; omega)
  obtain ⟨f1, f2⟩ := flat_means ms
  refine ⟨?_, ?_, ?_, ?_⟩
  · simp only [datM, nice, niceAll, n1, decide_eq_true n2, Bool.and_self]
  · simp only [datM, PyData.canLay0, PyData.canLayAll0, f1, Bool.and_self]
  · simp only [datM, PyData.depth, PyData.depthAll]
    omega
  · have e := sz_md ms
    have := pow8 ok.b8
    rw [ok.len] at e
    simp only [datM, sz, szAll]
    omega
section
variable {P : Program} {w : World} {K : PySem.W.Frag} {mg : Str → Option Value} {base : Heap}
theorem sc__law_pair_right : FnScope ["fold", "one", "other", "states", "first", "second", "kept", "part", "means", "heard", "told", "word"] ["fold", "one", "other", "states"] (defScope s__law_pair_right) := ⟨rfl, rfl, rfl, by decide +kernel, rfl, by decide +kernel, by decide +kernel⟩
abbrev N__law_pair_right : List Str := ["fold", "one", "other", "states", "first", "second", "kept", "part", "means", "heard", "told", "word"]
theorem ok__law_pair_right {f f1 f2 f3 f4 f5 fI fE fS C CF CB CM CN c Pl Pp : Addr} {fd1 fd2 fd3 fd4 fd5 fdI fdE fdS : FuncData} {oc kV doc pm ct : Value} {od an : Option Addr} {osl : Array (Option Value)} (T : Blt mg)
    (lk : K.lookup f = some ⟨oc, od, .func (PySem.W.fnOf "_law_pair_right" "_law_pair_right" (defArgs s__law_pair_right) (defBody s__law_pair_right) (defScope s__law_pair_right) .none kV doc pm an (.ref c) ct), osl⟩) (hcd : PySem.W.codeIn K (.ref c) "_law_pair_right" = true)
    (TB : TabB base mg c Pp) (nlp : Pl ≠ Pp) (Z : Kinds K mg CF CB CN CM) (O_Layout : OwnC K mg "Layout" C fI) (n1 : NoAttr K C "bits") (n2 : NoAttr K C "means")
    (D__law_heard : Df K mg "_law_heard" s__law_heard ["ask"] f1 fd1) (D__law_due : Df K mg "_law_due" s__law_due ["one", "other", "states"] f2 fd2) (D__law_herd : Df K mg "_law_herd" s__law_herd ["fold", "many"] f3 fd3) (D_beside_layout : Df K mg "beside_layout" s_beside_layout ["one", "other", "states"] f4 fd4) (GX_beside_layout : FnOk P w K mg base (L2.CX P w) 6 f4 fd4 ["one", "other", "states"] (spBeside K C CB CM CN)) (D_meaning_of : Df K mg "meaning_of" s_meaning_of ["layout", "word"] f5 fd5) (G_meaning_of : FnOk P w K mg base CX0 6 f5 fd5 ["layout", "word"] (spMeaning C))
    (b_Layout_init : L2.Binds K fdI ["self", "bits", "means"] []) (G_Layout_init : FnOk P w K mg base CX0 4 fI fdI ["self", "bits", "means"] (spLayInit C)) (EQ_Layout : OwnEqC K C fE) (b_Layout_eq : L2.Binds K fdE ["self", "other"] []) (G_Layout_eq : FnOk P w K mg base CX0 1 fE fdE ["self", "other"] (spLayEq K C))
    (ST_Layout : OwnStrC K C fS) (b_Layout_str : L2.Binds K fdS ["self"] []) (G_Layout_str : FnOk P w K mg base CX0 1 fS fdS ["self"] (spLayStr C)) :
    FnG P w K mg base CX0 12 f (PySem.W.fnOf "_law_pair_right" "_law_pair_right" (defArgs s__law_pair_right) (defBody s__law_pair_right) (defScope s__law_pair_right) .none kV doc pm an (.ref c) ct) ["fold", "one", "other", "states"] (spPair Pl Pp) := by
  have G_beside_layout := calm_of GX_beside_layout
  have G__law_herd : FnOk P w K mg base CX0 1 f3 fd3 ["fold", "many"] spDraw := ok__law_herd D__law_herd.F T
  have G__law_due : FnOk P w K mg base CX0 2 f2 fd2 ["one", "other", "states"] spDue := ok__law_due D__law_due.F T
  have kb_beside_layout : KBinds K fd4 ["one", "other", "states"] ["states", "other", "one"] (kg [2, 1, 0]) (kg [2, 1, 0]) := kbinds D_beside_layout.F (fun _ _ _ _ _ _ us ws hl => by
    rcases us with _ | ⟨a, us⟩
    · rcases ws with _ | ⟨x0, _ | ⟨x1, _ | ⟨x2, ws⟩⟩⟩ <;> first | rfl | exact absurd (show 0 = 3 from hl) (by decide) | exact absurd (show 1 = 3 from hl) (by decide) | exact absurd (show 2 = 3 from hl) (by decide)
    · exact absurd (show 0 = 3 from hl) (by decide)) kg_vals
  obtain ⟨ocH, odH, kVH, docH, pmH, anH, cdvH, ctH, oslH, eH, lkH, hcH⟩ := D__law_heard.F.ex
  subst eH
  refine fnG_of lk hcd sc__law_pair_right (fun vs H Q E h => ?_) fun A outer s H vs Q E hgd hr h => ?_
  · obtain ⟨p, f0, n, a, a', q, q', b, b', s', ms, ns, rfl, _⟩ := h
    rfl
  · obtain ⟨p, f0, n, a, a', q, q', b, b', s', ms, ns, rfl, O, hn, TA, ha, ha', hq, hq', okx, oky, s1, s2, k⟩ := h
    have t0 : ∃ t, PSs (cxOf CX0 P w K mg base ["fold", "one", "other", "states", "first", "second", "kept", "part", "means", "heard", "told", "word"] "_law_pair_right" (defScope s__law_pair_right) f (.ref c) A outer s H E).nox (defBody s__law_pair_right) t ∧ t { nx := fun _ H' => Q .non H', rt := Q } (L2.start ["fold", "one", "other", "states", "first", "second", "kept", "part", "means", "heard", "told", "word"] [.ref p, .ref a, .ref a', .int (s' : Int)]) H := by
      refine ⟨_, (pss_cons (ps_asg (pe_tup (pa_cons (pe_make O_Layout.made G_Layout_init (hr.mono (by decide)) (by rfl) O_Layout.g b_Layout_init .nil pass0 (pa_cons (pe_ix ix_tup (pv 1) pe_int (fun _ _ => rfl)) (pa_cons (pe_ix ix_tup (pv 1) pe_int (fun _ _ => rfl)) pa_nil))) (pa_cons (pe_make O_Layout.made G_Layout_init (hr.mono (by decide)) (by rfl) O_Layout.g b_Layout_init .nil pass0 (pa_cons (pe_ix ix_tup (pv 2) pe_int (fun _ _ => rfl)) (pa_cons (pe_ix ix_tup (pv 2) pe_int (fun _ _ => rfl)) pa_nil))) pa_nil))) (pg_tup (by rfl) (pgs_cons (pg_name (i := 4) sc__law_pair_right.nd rfl (Or.inr rfl)) (pgs_cons (pg_name (i := 5) sc__law_pair_right.nd rfl (Or.inr rfl)) pgs_nil))))
  (pss_cons (ps_asg (pe_tup (pa_cons (pe_lst (pa_cons (pe_callTy (call_strO G_Layout_str ST_Layout b_Layout_str pass0 (hr.mono (by decide))) (by rfl) T.n_str (by decide +kernel) (pa_cons (pv 4) pa_nil)) (pa_cons (pe_callTy (call_strO G_Layout_str ST_Layout b_Layout_str pass0 (hr.mono (by decide))) (by rfl) T.n_str (by decide +kernel) (pa_cons (pv 5) pa_nil)) pa_nil))) (pa_cons (pe_call G__law_due (hr.mono (by decide)) (by rfl) D__law_due.g D__law_due.F.kp D__law_due.b .nil pass0 (pa_cons (pv 1) (pa_cons (pv 2) (pa_cons (pv 3) pa_nil)))) pa_nil))) (pg_tup (by rfl) (pgs_cons (pg_name (i := 6) sc__law_pair_right.nd rfl (Or.inl rfl)) (pgs_cons (pg_tup (by rfl) (pgs_cons (pg_name (i := 7) sc__law_pair_right.nd rfl (Or.inl rfl)) (pgs_cons (pg_name (i := 8) sc__law_pair_right.nd rfl (Or.inl rfl)) pgs_nil))) pgs_nil))))
  (pss_cons (ps_if (pt_cmpR op_notN (pv 7) pe_non (nomark _)) (pss_cons (ps_set (i := 9) sc__law_pair_right.nd rfl (Or.inl rfl) (pe_lst (pa_cons (pe_lam (T := [(Pl, LQl), (Pp, LQp)]) (vs := []) (TT := TTheard CB CN CM) (k := 7) (nm := []) (dts := []) (t := fun E => tCallS (spBeside K C CB CM CN) (WE fun cls d _ H => E cls d H) (tCons (tVar 4) (tCons (tVar 5) (tCons (tVar 3) tNil)))) (by rfl) D__law_heard.g D__law_heard.F.kp lkH hcH D__law_heard.b sc__law_heard rfl (Or.inl rfl) (heard_gives Z T) TB rfl (List.mem_cons_of_mem _ List.mem_cons_self) (hu_2 nlp) (hr.mono (by decide)) (lamN_by (sc := defScope s__law_pair_right) (N := N__law_pair_right) (by decide +kernel)) (.inl ⟨rfl, rfl⟩) (bind_0 fun _ _ _ _ _ _ _ => rfl) (mono_S beside_mono (mta_cons mte_var (mta_cons mte_var (mta_cons mte_var mta_nil)))) pa_nil (fun _ _ _ => rfl) rfl (fun A outer s H E f c' hr2 => pe_callS GX_beside_layout (hr2.mono (by decide)) (by rfl) D_beside_layout.g D_beside_layout.F.kp D_beside_layout.b (fun σ => passAt (takes_of rfl rfl rfl rfl) σ) (pa_cons (pv 4) (pa_cons (pv 5) (pa_cons (pv 3) pa_nil))))) (pa_cons (pe_lam (T := [(Pl, LQl), (Pp, LQp)]) (vs := []) (TT := TTheard CB CN CM) (k := 7) (nm := ["a1"]) (dts := [0]) (t := fun E => tCallKS (spBeside K C CB CM CN) (kg [2, 1, 0]) (WE fun cls d _ H => E cls d H) tNil (tCons (tVar 3) (tCons (tVar 5) (tCons (tVar 4) tNil)))) (by rfl) D__law_heard.g D__law_heard.F.kp lkH hcH D__law_heard.b sc__law_heard rfl (Or.inl rfl) (heard_gives Z T) TB rfl (List.mem_cons_of_mem _ List.mem_cons_self) (hu_2 nlp) (hr.mono (by decide)) (lamN_by (sc := defScope s__law_pair_right) (N := N__law_pair_right) (by decide +kernel)) (.inr ⟨0, _, _, rfl, rfl⟩) (bind_1 fun _ _ _ _ _ _ _ _ _ => ⟨_, rfl, rfl⟩) (mono_KS beside_mono (mta_cons mte_var (mta_cons mte_var (mta_cons mte_var mta_nil)))) pa_nil (fun _ _ _ => rfl) rfl (fun A outer s H E f c' hr2 => pe_callKoS GX_beside_layout (hr2.mono (by decide)) (by rfl) D_beside_layout.g D_beside_layout.F.kp kb_beside_layout (fun σ => passAt (takes_of rfl rfl rfl rfl) σ) (pk_cons (pv 3) (pk_cons (pv 5) (pk_cons (pv 4) pk_nil))))) pa_nil))))
  (pss_one (ps_ret (pe_cmpR (op_eqD hr.units) (pv 9) (pe_op op_rep (pe_lst (pa_cons (pe_op op_add_str pe_str (pv 7)) pa_nil)) pe_int) (nomark _))))) pss_nil)
  (pss_cons (ps_set (i := 10) sc__law_pair_right.nd rfl (Or.inl rfl) (pe_callKo G_beside_layout (hr.mono (by decide)) (by rfl) D_beside_layout.g D_beside_layout.F.kp kb_beside_layout pass0 (pk_cons (pv 3) (pk_cons (pv 5) (pk_cons (pv 4) pk_nil)))))
  (C8.pss_cut (ps_if (PW.pt (pw_or (pt_not (pt_val (pe_callB call_isi (by rfl) T.n_isinstance (by decide +kernel) (pa_cons (pv 10) (pa_cons (pe_glob (v := .ref _) (by rfl) O_Layout.g rfl) pa_nil))))) (pw_or (pt_cmpR op_ne (pe_callB (call_reprN hgd hr.units) (by rfl) T.n_repr (by decide +kernel) (pa_cons (pe_tup (pa_cons (pe_fld (pv 10) rfl) (pa_cons (pe_fld (pv 10) rfl) pa_nil))) pa_nil)) (pe_callB (call_reprN hgd hr.units) (by rfl) T.n_repr (by decide +kernel) (pa_cons (pe_tup (pa_cons (pe_op op_add (pe_ix ix_tup (pv 1) pe_int (fun _ _ => rfl)) (pe_ix ix_tup (pv 2) pe_int (fun _ _ => rfl))) (pa_cons (pe_callTy call_tuple_of (by rfl) T.n_tuple (by decide +kernel) (pa_cons (pv 8) pa_nil)) pa_nil))) pa_nil)) (nomark _)) (pw_or1 (pt_cmpR (op_neO G_Layout_eq EQ_Layout b_Layout_eq pass0 (hr.mono (by decide))) (pv 10) (pe_call G_beside_layout (hr.mono (by decide)) (by rfl) D_beside_layout.g D_beside_layout.F.kp D_beside_layout.b .nil pass0 (pa_cons (pv 4) (pa_cons (pv 5) (pa_cons (pv 3) pa_nil)))) (nomark _)))))) (pss_one (ps_ret pe_bl)) pss_nil)
  (pss_cons (ps_set (i := 11) sc__law_pair_right.nd rfl (Or.inl rfl) (pe_call G__law_herd (hr.mono (by decide)) (by rfl) D__law_herd.g D__law_herd.F.kp D__law_herd.b .nil pass0 (pa_cons (pv 0) (pa_cons (pe_callB call_len_seq (by rfl) T.n_len (by decide +kernel) (pa_cons (pv 8) pa_nil)) pa_nil))))
  (pss_one (ps_ret (pe_and (pe_cmpR op_eq (pe_callB call_reprV (by rfl) T.n_repr (by decide +kernel) (pa_cons (pe_call G_meaning_of (hr.mono (by decide)) (by rfl) D_meaning_of.g D_meaning_of.F.kp D_meaning_of.b .nil pass0 (pa_cons (pv 10) (pa_cons (pv 11) pa_nil))) pa_nil)) (pe_callB call_reprV (by rfl) T.n_repr (by decide +kernel) (pa_cons (pe_ix ix_list (pv 8) (pv 11) (fun _ _ => rfl)) pa_nil)) (nomark _)) (pe_one (pe_cmpR (op_eqD hr.units) (pe_lst (pa_cons (pe_callTy (call_strO G_Layout_str ST_Layout b_Layout_str pass0 (hr.mono (by decide))) (by rfl) T.n_str (by decide +kernel) (pa_cons (pv 4) pa_nil)) (pa_cons (pe_callTy (call_strO G_Layout_str ST_Layout b_Layout_str pass0 (hr.mono (by decide))) (by rfl) T.n_str (by decide +kernel) (pa_cons (pv 5) pa_nil)) pa_nil))) (pv 6) (nomark _)))))))))))), ?_⟩
      refine ⟨_, rfl, a, _, _, _, rfl, rfl, SqT.of ha, rfl, _, rfl, a, _, _, .ref q, rfl, rfl, SqT.of ha, rfl, ?_⟩
      intro x dx nx ndx nex
      refine make_lay okx (.inl hq) nx ndx fun H1 S1 L1 => ?_
      refine ⟨_, rfl, a', _, _, _, rfl, rfl, SqT.of (S1 _ _ ha'), rfl, _, rfl, a', _, _, .ref q', rfl, rfl, SqT.of (S1 _ _ ha'), rfl, ?_⟩
      intro y dy ny ndy ney
      refine make_lay oky (.inl (S1 _ _ hq')) ny ndy fun H2 S2 L2 => ?_
      refine ⟨by show 2 ≤ sizeLine; decide, fun t0 ht0 => ⟨t0, _, rfl, SqT.of upd_same, rfl, _, _, rfl, _, _, rfl, rfl, ?_⟩⟩
      have S3 := same_new (o := .tup [V.ref x, .ref y]) ht0
      have SA := S1.trans (S2.trans S3)
      have LX := L1.same (S2.trans S3)
      have LY := L2.same S3
      have O1 := O.same SA
      have T1 := TA.ext SA
      have ha1 := SA _ _ ha
      have ha1' := SA _ _ ha'
      have hq1 := SA _ _ hq
      have hq1' := SA _ _ hq'
      generalize upd H2 t0 (.tup [V.ref x, .ref y]) = H3 at LX LY O1 T1 ha1 ha1' hq1 hq1' ⊢
      clear SA S1 S2 S3 L1 L2 ha ha' hq hq' O TA nx ndx nex ny ndy ney
      obtain ⟨dx1, fs1, tx, g1, g2, g3, g4⟩ := id LX
      obtain ⟨dy1, fs2, ty, e1, e2, e3, e4⟩ := id LY
      refine ⟨_, rfl, x, dx1, fs1, rfl, g1, x, _, _, rfl, LX, okx, fun H4 S4 => ⟨_, rfl, _, rfl, y, dy1, fs2, rfl, S4 _ _ e1, y, _, _, rfl, LY.same S4, oky, fun H5 S5 => ⟨_, rfl, by show 2 ≤ sizeLine; decide, fun l hl => ?_⟩⟩⟩
      have S6 := same_new (o := .lst [.str (layText b ms), .str (layText b' ns)]) hl
      have hl6 := upd_same (H := H5) (a := l) (o := .lst [.str (layText b ms), .str (layText b' ns)])
      have S36 := S4.trans (S5.trans S6)
      generalize upd H5 l (.lst [.str (layText b ms), .str (layText b' ns)]) = H6 at S36 hl6 ⊢
      have LX6 := LX.same S36
      have LY6 := LY.same S36
      have O6 := O1.same S36
      have T6 := T1.ext S36
      have ha6 := S36 _ _ ha1
      have ha6' := S36 _ _ ha1'
      clear S4 S5 S6 hl
      refine ⟨_, rfl, _, rfl, _, rfl, a, a', q, q', b, b', s', ms, ns, rfl, ha6, ha6', S36 _ _ hq1, S36 _ _ hq1', okx.len, oky.len, okx.b8, oky.b8, s1, s2, fun n hn => by have := okx.small n hn; omega, fun n hn => by have := oky.small n hn; omega, ?_⟩
      clear S36 hq1 hq1' ha1 ha1' O1 T1 LX LY g1 g2 g3 g4 e1 e2 e3 e4
      by_cases c8 : 8 < b + b'
      · refine .inl ⟨c8, fun t H7 S7 ht => ⟨by show 2 ≤ sizeLine; decide, fun t1 ht1 => ?_⟩⟩
        · skip
          have zz : ("Misfit" ++ " " ++ "bits" : Str) = "Misfit " ++ "bits" := by decide +kernel
          have St := same_new (o := .tup [V.ref l, .ref t]) ht1
          have ht2 := St _ _ ht
          have S8 := S7.trans St
          have O8 := O6.same S8
          have T8 := T6.ext S8
          have LX8 := LX6.same S8
          have LY8 := LY6.same S8
          have h18 := upd_same (H := H7) (a := t1) (o := .tup [V.ref l, .ref t])
          refine ⟨t1, _, rfl, SqT.of h18, rfl, _, _, rfl, _, _, rfl, ⟨t, _, rfl, SqT.of ht2, rfl, _, _, rfl, _, _, rfl, rfl, ?_⟩⟩
          generalize upd H7 t1 (.tup [V.ref l, .ref t]) = H8 at O8 T8 LX8 LY8 ⊢
          clear St S8 h18 ht2 ht S7
          refine ⟨rfl, _, rfl, rfl, _, rfl, iteT ?_⟩
          refine ⟨T8, fun Ha ea Ta => ⟨rfl, _, rfl, _, rfl, _, rfl, ?_⟩⟩
          refine ⟨_, _, _, rfl, .inr ⟨x, b, ms, rfl, lay_ext LX8 ea, okx, .inr ⟨y, b', ns, rfl, lay_ext LY8 ea, oky, .inr ⟨s', rfl, s1, s2, .inl ⟨c8, fun d hd => ⟨d, "bits", rfl, by decide +kernel, upd_same, .inr (.inr ⟨rfl, fun Hc Sc => ?_⟩)⟩⟩⟩⟩⟩⟩
          have Sb : Same Ha Ha := fun _ _ e => e
          have Sd := Sb.trans ((same_new hd).trans Sc)
          have T9 := Ta.ext Sd
          have O9 := (orch_extN O8 ea).same Sd
          have LX9 := (lay_ext LX8 ea).same Sd
          have LY9 := (lay_ext LY8 ea).same Sd
          refine ⟨T9, fun Ha2 ea2 Ta2 => ⟨rfl, _, rfl, _, rfl, _, rfl, ?_⟩⟩
          refine ⟨_, _, _, rfl, .inr ⟨x, b, ms, rfl, lay_ext LX9 ea2, okx, .inr ⟨y, b', ns, rfl, lay_ext LY9 ea2, oky, .inr ⟨s', rfl, s1, s2, .inl ⟨c8, fun d2 hd2 => ⟨d2, "bits", rfl, by decide +kernel, upd_same, .inr (.inr ⟨rfl, fun Hc2 Sc2 => ?_⟩)⟩⟩⟩⟩⟩⟩
          have Sb2 : Same Ha2 Ha2 := fun _ _ e => e
          have Sd2 := Sb2.trans ((same_new hd2).trans Sc2)
          have T10 := Ta2.ext Sd2
          have O10 := (orch_extN O9 ea2).same Sd2
          rw [zz]
          refine ⟨by show 2 ≤ sizeLine; decide, fun lh hlh => ?_⟩
          have U1 := same_new (o := .lst [V.str ("Misfit " ++ "bits"), .str ("Misfit " ++ "bits")]) hlh
          have g1 := upd_same (H := Hc2) (a := lh) (o := .lst [V.str ("Misfit " ++ "bits"), .str ("Misfit " ++ "bits")])
          refine ⟨_, rfl, _, rfl, _, _, rfl, rfl, by rw [sizeLine_eq]; decide +kernel, by show 1 ≤ sizeLine; decide, fun l2 hl2 => ?_⟩
          have U2 := same_new (o := .lst [V.str ("Misfit " ++ "bits")]) hl2
          refine ⟨l2, 2, _, rfl, rfl, upd_same, by decide, by decide, (by show 1 * 2 ≤ sizeLine; decide), fun l3 hl3 => ?_⟩
          have U3 := same_new (o := .lst (List.replicate (Int.toNat 2) [V.str ("Misfit " ++ "bits")]).flatten) hl3
          have UU := U1.trans (U2.trans U3)
          have g3 := U3 _ _ (U2 _ _ g1)
          have O11 := (O10.same UU).mono (show n ≤ n + 1 by omega)
          have T11 := T10.ext UU
          refine ⟨.list [.str ("Misfit " ++ "bits"), .str ("Misfit " ++ "bits")], .list [.str ("Misfit " ++ "bits"), .str ("Misfit " ++ "bits")], Dp.lst (SqL.of g3) (.cons (.str _) (.cons (.str _) .nil)), Dp.lst (SqL.of upd_same) (.cons (.str _) (.cons (.str _) .nil)), (by decide +kernel), (by decide +kernel), ?_⟩
          rw [SeqAt.eqv_refl _ (by decide +kernel)]
          exact k _ O11 T11
      by_cases cg : (grt s' ms || grt 64 (besM s' ms ns)) = true
      · refine .inr ⟨by omega, fun t D H7 S7 ht hD => ⟨by show 2 ≤ sizeLine; decide, fun t1 ht1 => ?_⟩⟩
        rw [show partOf b b' s' ms ns = .str "states" by unfold partOf; rw [cg]; rfl] at ht
        · skip
          have zz : ("Misfit" ++ " " ++ "states" : Str) = "Misfit " ++ "states" := by decide +kernel
          have St := same_new (o := .tup [V.ref l, .ref t]) ht1
          have ht2 := St _ _ ht
          have S8 := S7.trans St
          have O8 := O6.same S8
          have T8 := T6.ext S8
          have LX8 := LX6.same S8
          have LY8 := LY6.same S8
          have h18 := upd_same (H := H7) (a := t1) (o := .tup [V.ref l, .ref t])
          refine ⟨t1, _, rfl, SqT.of h18, rfl, _, _, rfl, _, _, rfl, ⟨t, _, rfl, SqT.of ht2, rfl, _, _, rfl, _, _, rfl, rfl, ?_⟩⟩
          generalize upd H7 t1 (.tup [V.ref l, .ref t]) = H8 at O8 T8 LX8 LY8 ⊢
          clear St S8 h18 ht2 ht S7
          refine ⟨rfl, _, rfl, rfl, _, rfl, iteT ?_⟩
          refine ⟨T8, fun Ha ea Ta => ⟨rfl, _, rfl, _, rfl, _, rfl, ?_⟩⟩
          refine ⟨_, _, _, rfl, .inr ⟨x, b, ms, rfl, lay_ext LX8 ea, okx, .inr ⟨y, b', ns, rfl, lay_ext LY8 ea, oky, .inr ⟨s', rfl, s1, s2, .inr ⟨by omega, .inl ⟨cg, fun Hb Sb d hd => ⟨d, "states", rfl, by decide +kernel, upd_same, .inr (.inr ⟨rfl, fun Hc Sc => ?_⟩)⟩⟩⟩⟩⟩⟩⟩
          have Sd := Sb.trans ((same_new hd).trans Sc)
          have T9 := Ta.ext Sd
          have O9 := (orch_extN O8 ea).same Sd
          have LX9 := (lay_ext LX8 ea).same Sd
          have LY9 := (lay_ext LY8 ea).same Sd
          refine ⟨T9, fun Ha2 ea2 Ta2 => ⟨rfl, _, rfl, _, rfl, _, rfl, ?_⟩⟩
          refine ⟨_, _, _, rfl, .inr ⟨x, b, ms, rfl, lay_ext LX9 ea2, okx, .inr ⟨y, b', ns, rfl, lay_ext LY9 ea2, oky, .inr ⟨s', rfl, s1, s2, .inr ⟨by omega, .inl ⟨cg, fun Hb2 Sb2 d2 hd2 => ⟨d2, "states", rfl, by decide +kernel, upd_same, .inr (.inr ⟨rfl, fun Hc2 Sc2 => ?_⟩)⟩⟩⟩⟩⟩⟩⟩
          have Sd2 := Sb2.trans ((same_new hd2).trans Sc2)
          have T10 := Ta2.ext Sd2
          have O10 := (orch_extN O9 ea2).same Sd2
          rw [zz]
          refine ⟨by show 2 ≤ sizeLine; decide, fun lh hlh => ?_⟩
          have U1 := same_new (o := .lst [V.str ("Misfit " ++ "states"), .str ("Misfit " ++ "states")]) hlh
          have g1 := upd_same (H := Hc2) (a := lh) (o := .lst [V.str ("Misfit " ++ "states"), .str ("Misfit " ++ "states")])
          refine ⟨_, rfl, _, rfl, _, _, rfl, rfl, by rw [sizeLine_eq]; decide +kernel, by show 1 ≤ sizeLine; decide, fun l2 hl2 => ?_⟩
          have U2 := same_new (o := .lst [V.str ("Misfit " ++ "states")]) hl2
          refine ⟨l2, 2, _, rfl, rfl, upd_same, by decide, by decide, (by show 1 * 2 ≤ sizeLine; decide), fun l3 hl3 => ?_⟩
          have U3 := same_new (o := .lst (List.replicate (Int.toNat 2) [V.str ("Misfit " ++ "states")]).flatten) hl3
          have UU := U1.trans (U2.trans U3)
          have g3 := U3 _ _ (U2 _ _ g1)
          have O11 := (O10.same UU).mono (show n ≤ n + 1 by omega)
          have T11 := T10.ext UU
          refine ⟨.list [.str ("Misfit " ++ "states"), .str ("Misfit " ++ "states")], .list [.str ("Misfit " ++ "states"), .str ("Misfit " ++ "states")], Dp.lst (SqL.of g3) (.cons (.str _) (.cons (.str _) .nil)), Dp.lst (SqL.of upd_same) (.cons (.str _) (.cons (.str _) .nil)), (by decide +kernel), (by decide +kernel), ?_⟩
          rw [SeqAt.eqv_refl _ (by decide +kernel)]
          exact k _ O11 T11
      have cg : (grt s' ms || grt 64 (besM s' ms ns)) = false := Bool.eq_false_iff.mpr cg
      refine .inr ⟨by omega, fun t D H7 S7 ht hD => ⟨by show 2 ≤ sizeLine; decide, fun t1 ht1 => ?_⟩⟩
      rw [show partOf b b' s' ms ns = .non by unfold partOf; rw [cg]; rfl] at ht
      have St := same_new (o := .tup [V.ref l, .ref t]) ht1
      have ht2 := St _ _ ht
      have S8 := S7.trans St
      have O8 := O6.same S8
      have T8 := T6.ext S8
      have LX8 := LX6.same S8
      have LY8 := LY6.same S8
      have hD8 := St _ _ hD
      have hl8 := S8 _ _ hl6
      have ha8 := S8 _ _ ha6
      have ha8' := S8 _ _ ha6'
      have h18 := upd_same (H := H7) (a := t1) (o := .tup [V.ref l, .ref t])
      refine ⟨t1, _, rfl, SqT.of h18, rfl, _, _, rfl, _, _, rfl, ⟨t, _, rfl, SqT.of ht2, rfl, _, _, rfl, _, _, rfl, rfl, ?_⟩⟩
      generalize upd H7 t1 (.tup [V.ref l, .ref t]) = H8 at O8 T8 LX8 LY8 hD8 hl8 ha8 ha8' ⊢
      clear St S8 h18 ht2 ht S7 hl6 ha6 ha6' LX6 LY6 O6 T6 hD
      refine ⟨rfl, _, rfl, rfl, _, rfl, iteF ?_⟩
      have G64 := (Bool.or_eq_false_iff.mp cg).2
      have okb : LayOk (b + b') (besM s' ms ns) := besM_ok okx.len oky.len (by have := okx.b1; omega) (by omega) G64
      refine ⟨_, rfl, _, rfl, _, rfl, _, _, _, rfl, .inr ⟨x, b, ms, rfl, LX8, okx, .inr ⟨y, b', ns, rfl, LY8, oky, .inr ⟨s', rfl, s1, s2, .inr ⟨by omega, .inr ⟨cg, fun t2 H9 f2 S9 L9 => ?_⟩⟩⟩⟩⟩⟩
      have O9 := O8.same S9
      have T9 := T8.ext S9
      have LX9 := LX8.same S9
      have LY9 := LY8.same S9
      have hD9 := S9 _ _ hD8
      have hl9 := S9 _ _ hl8
      have ha9 := S9 _ _ ha8
      have ha9' := S9 _ _ ha8'
      clear S9 O8 T8 LX8 LY8 hD8 hl8 ha8 ha8'
      generalize emm : besM s' ms ns = mm at *
      refine ⟨fun σ' H' => σ' = [some (.ref p), some (.ref a), some (.ref a'), some (.int (s' : Int)), some (.ref x), some (.ref y), some (.ref l), some .non, some (.ref D), none, some (.ref t2), none] ∧ Same H9 H', ?_, ?_⟩
      · obtain ⟨dx, fs, t3, h1, h2, h3, h4⟩ := id L9
        obtain ⟨k1, k2, k3, k4⟩ := datM_ok okb
        have dd : ∀ {H' : Hp} {a c : Addr}, H' a = some (.tup [.int ((b + b' : Nat) : Int), .ref c]) → H' c = some (.tup (mm.map mv)) → Dp K H' (.ref a) (datM (b + b') mm) := fun h1 h2 => Dp.tup (SqT.of h1) (.cons (.int _) (.cons (Dp.tup (SqT.of h2) (dp_means _)) .nil))
        generalize datM (b + b') mm = dt at dd k1 k2 k3 k4
        refine ⟨_, rfl, _, .ref C, .ref C, .ref C, true, rfl, .own C, O_Layout.ty h1, O_Layout.self, true, rfl, iteF ?_⟩
        refine ⟨_, rfl, t2, C, dx, _, _, rfl, h1, O_Layout.cl, n1, h2, _, rfl, t2, C, dx, _, _, rfl, h1, O_Layout.cl, n2, h3, by show 2 ≤ sizeLine; decide, fun t4 ht4 => ?_⟩
        have U1 := same_new (o := .tup [.int ((b + b' : Nat) : Int), .ref t3]) ht4
        refine ⟨t4, dt, rfl, dd upd_same (U1 _ _ h4), k1, k2, k3, k4, ?_⟩
        refine ⟨_, rfl, a, _, _, _, rfl, rfl, SqT.of (U1 _ _ ha9), rfl, _, rfl, a', _, _, _, rfl, rfl, SqT.of (U1 _ _ ha9'), rfl, _, _, rfl, rfl, _, rfl, D, _, rfl, .inl ⟨SqL.of (U1 _ _ hD9), fun m hm => ?_⟩⟩
        have U2 := U1.trans (same_new (o := .tup (mm.map mv)) hm)
        have hm2 := upd_same (H := upd H9 t4 (.tup [.int ((b + b' : Nat) : Int), .ref t3])) (a := m) (o := .tup (mm.map mv))
        refine ⟨by show 2 ≤ sizeLine; decide, fun t5 ht5 => ?_⟩
        have V3 := same_new (o := .tup [V.int ((b : Int) + (b' : Int)), .ref m]) ht5
        refine ⟨t5, dt, rfl, dd (by rw [Int.natCast_add]; exact upd_same) (V3 _ _ hm2), k1, k2, k3, k4, rfl, _, rfl, ?_⟩
        have U3 := U2.trans V3
        refine iteB (fun c => absurd c (by simp)) (fun _ => ?_)
        refine ⟨_, rfl, _, rfl, _, rfl, _, rfl, _, _, _, rfl, .inr ⟨x, b, ms, rfl, LX9.same U3, okx, .inr ⟨y, b', ns, rfl, LY9.same U3, oky, .inr ⟨s', rfl, s1, s2, .inr ⟨by omega, .inr ⟨by rw [emm]; exact cg, fun t6 H10 f6 S10 L10 => ?_⟩⟩⟩⟩⟩⟩
        rw [emm] at L10
        refine ne_lay (L9.same (U3.trans S10)) L10 ⟨_, rfl, ?_⟩
        rw [ne_same]
        exact iteF ⟨rfl, U3.trans S10⟩
      · rintro σ' H10 ⟨rfl, S10⟩
        have O10 := O9.same S10
        have T10 := T9.ext S10
        have L10 := L9.same S10
        have LX10 := LX9.same S10
        have LY10 := LY9.same S10
        have hD10 := S10 _ _ hD9
        have hl10 := S10 _ _ hl9
        have ml : (mm.map mv).length = 2 ^ (b + b') := by rw [List.length_map]; exact okb.len
        have p0 := M07.two_pos (b + b')
        have p8 : 2 ^ (b + b') ≤ 256 := Nat.le_trans (Nat.pow_le_pow_right (by decide) okb.b8) (by decide)
        refine ⟨_, rfl, _, rfl, D, _, rfl, .inl (SqL.of hD10), p, f0, _, ((2 ^ (b + b') : Nat) : Int), ?_, O10, by omega, by omega, by omega, fun r H11 r0 r1 O11 B11 => ?_⟩
        · rw [ml]
          rfl
        have T11 := tabs_orchN T10 B11 O10
        obtain ⟨_, _, _, hp0, _⟩ := id O10
        have L11 := L10.but B11 hp0
        have LX11 := LX10.but B11 hp0
        have LY11 := LY10.but B11 hp0
        have nDp : D ≠ p := fun e => by
          rw [e, hp0] at hD10
          have z := Option.some.inj hD10
          injection z with z
          cases mm with
          | nil => cases z
          | cons m r => cases m <;> (injection z with z1; cases z1)
        have nlp2 : l ≠ p := fun e => by
          rw [e, hp0] at hl10
          have z := Option.some.inj hl10
          injection z with z
          injection z with z1
          cases z1
        have hD11 := B11 _ _ hD10 nDp
        have hl11 := B11 _ _ hl10 nlp2
        obtain ⟨i, rfl⟩ := Int.eq_ofNat_of_zero_le r0
        have il : i < mm.length := by rw [okb.len]; omega
        have hm : mm[i]? = some mm[i] := List.getElem?_eq_getElem il
        generalize mm[i] = m at hm
        have sm := okb.small
        have mk : mv m = .non ∨ (∃ z, mv m = .int z ∧ z.natAbs.log2 < 1920) ∨ ∃ c, mv m = .bl c := by
          cases m with
          | none => exact .inl rfl
          | some n =>
            have := sm n (List.mem_of_getElem? hm)
            exact .inr (.inl ⟨_, rfl, log_small (by omega)⟩)
        refine ⟨_, rfl, _, rfl, t2, _, mm, i, m, rfl, L11, hm, _, rfl, mk, _, rfl, _, rfl, D, _, _, mv m, rfl, rfl, SqL.of hD11, atI_nat (by rw [List.getElem?_map, hm]; rfl), _, rfl, mk, rfl, ?_⟩
        refine ⟨_, rfl, ?_⟩
        refine iteB (fun _ => ?_) (fun c => absurd c (by simp))
        obtain ⟨dx1, fs1, tx, g1, g2, g3, g4⟩ := id LX11
        obtain ⟨dy1, fs2, ty, e1, e2, e3, e4⟩ := id LY11
        refine ⟨_, rfl, x, dx1, fs1, rfl, g1, x, _, _, rfl, LX11, okx, fun H12 S12 => ⟨_, rfl, _, rfl, y, dy1, fs2, rfl, S12 _ _ e1, y, _, _, rfl, LY11.same S12, oky, fun H13 S13 => ⟨_, rfl, by show 2 ≤ sizeLine; decide, fun l2 hl2 => ?_⟩⟩⟩
        have S14 := same_new (o := .lst [.str (layText b ms), .str (layText b' ns)]) hl2
        have SZ := S12.trans (S13.trans S14)
        have so1 := lay_strOk okx
        have so2 := lay_strOk oky
        have shp : SeqAt.shaped (.list [.str (layText b ms), .str (layText b' ns)]) = true := by simp [SeqAt.shaped, PyData.canLay0, PyData.canLayAll0, PyData.depth, PyData.depthAll, so1, so2]
        refine ⟨_, rfl, .list [.str (layText b ms), .str (layText b' ns)], .list [.str (layText b ms), .str (layText b' ns)], Dp.lst (SqL.of upd_same) (.cons (.str _) (.cons (.str _) .nil)), Dp.lst (SqL.of (SZ _ _ hl11)) (.cons (.str _) (.cons (.str _) .nil)), shp, shp, ?_⟩
        rw [SeqAt.eqv_refl _ (by simp [PyData.canLay0, PyData.canLayAll0, so1, so2])]
        exact k _ (O11.same SZ) (T11.ext SZ)
    obtain ⟨t, h1, h2⟩ := t0
    exact ⟨t, h1.nox, h2⟩
end
end K25
namespace K25
open PySem PySem.Spec PyProof.Rows L2 OB SkE LamX
def spLaw (K : PySem.W.Frag) (Pl Pp : Addr) : Sp := fun vs H Q _ => ∃ (a : Addr) (ns : List Int), vs = [.ref a] ∧ SqL K H a (ns.map V.int) ∧ ns.length ≤ 63 ∧ H Pl = some (.tbl #[]) ∧ H Pp = some (.tbl #[]) ∧ ∀ H', Q (.bl true) H'
theorem pick_int {ks : List Int} {j : Nat} {x : V} (h : (ks.map V.int)[j]? = some x) : ∃ k ∈ ks, x = V.int k := by
  rw [List.getElem?_map] at h
  cases e : ks[j]? with
  | none => rw [e] at h; cases h
  | some k => rw [e] at h; exact ⟨k, List.mem_of_getElem? e, (Option.some.inj h).symm⟩
theorem nat9 {k : Int} (h : k.natAbs < 1000) : k.natAbs < 2 ^ 9000 := Nat.lt_of_lt_of_le h (by decide)
theorem two_of {α : Type} : ∀ {l : List α}, l.length = 2 → ∃ a b, l = [a, b]
  | [a, b], _ => ⟨a, b, rfl⟩
/-- what stands between two steps of the law -/
structure Mid (T : List (Addr × Str)) (p b n : Nat) (H : Hp) : Prop where
  o : Orch H p b n
  t : Tabs T H
theorem Mid.same {T : List (Addr × Str)} {p b n : Nat} {H H' : Hp} (m : Mid T p b n H) (s : Same H H') : Mid T p b n H' := ⟨m.o.same s, m.t.ext s⟩
theorem Mid.draw {T : List (Addr × Str)} {p b n k : Nat} {H H' : Hp} (m : Mid T p b n H) (o : Orch H' p b k) (B : But p H H') : Mid T p b k H' := ⟨o, tabs_orchN m.t B m.o⟩
theorem Mid.mono {T : List (Addr × Str)} {p b n k : Nat} {H : Hp} (m : Mid T p b n H) (h : n ≤ k) : Mid T p b k H := ⟨m.o.mono h, m.t⟩
theorem Mid.put {T : List (Addr × Str)} {p b n : Nat} {H : Hp} {D : Addr} {xs ys : List V} (m : Mid T p b n H) (hD : H D = some (.lst xs)) (n1 : D ≠ p) (n2 : b ≠ D) : Mid T p b n (upd H D (.lst ys)) :=
  ⟨m.o.keep (fun u e => by rw [upd_ne n1.symm]; exact e) (fun u e => by rw [upd_ne n2]; exact e), tabs_butN m.t but_at hD⟩
theorem Mid.pD {T : List (Addr × Str)} {p b n : Nat} {H : Hp} {D : Addr} (m : Mid T p b n H) (h : H D = none) : D ≠ p := by
  obtain ⟨u, hu⟩ := m.o.pn
  exact (ne_of_none hu h).symm
theorem Mid.bD {T : List (Addr × Str)} {p b n : Nat} {H : Hp} {D : Addr} (m : Mid T p b n H) (h : H D = none) : b ≠ D := by
  obtain ⟨u, hu⟩ := m.o.bn
  exact ne_of_none hu h
theorem Mid.ext {T : List (Addr × Str)} {p b n : Nat} {H H' : Hp} (m : Mid T p b n H) (e : ExtN H H') (t : Tabs T H') : Mid T p b n H' := ⟨orch_extN m.o e, t⟩
theorem but_put {p D : Addr} {H H' : Hp} {o : HO} (hD : H D = none) (B : But p H H') : But p H (upd H' D o) := fun a u e na => by
  rw [upd_ne (ne_of_none e hD)]
  exact B _ _ e na
/-- a layout's bits and meanings, laid down beside one another -/
structure Row (p D : Addr) (H : Hp) (o : Addr × Addr × Nat × List (Option Nat)) : Prop where
  t : H o.1 = some (.tup [.int (o.2.2.1 : Int), .ref o.2.1])
  q : H o.2.1 = some (.lst (o.2.2.2.map mv))
  tp : o.1 ≠ p
  qp : o.2.1 ≠ p
  qD : o.2.1 ≠ D
  ok : LayOk o.2.2.1 o.2.2.2
section
variable {P : Program} {w : World} {K : PySem.W.Frag} {mg : Str → Option Value} {base : Heap}
theorem sc_law : FnScope ["script", "fold", "turn", "many", "side", "bits", "one", "other", "states", "none", "odd", "good", "wide", "heard"] ["script"] (defScope s_law) := ⟨rfl, rfl, rfl, by decide +kernel, rfl, by decide +kernel, by decide +kernel⟩
abbrev N_law : List Str := ["script", "fold", "turn", "many", "side", "bits", "one", "other", "states", "none", "odd", "good", "wide", "heard"]
theorem ok_law {f f1 f2 f3 f4 f5 f6 f7 f8 fI C CF CB CM CN c Pl Pp : Addr} {fd1 fd2 fd3 fd4 fd5 fd6 fd7 fd8 fdI : FuncData} {oc kV doc pm ct : Value} {od an : Option Addr} {osl : Array (Option Value)} (T : Blt mg)
    (lk : K.lookup f = some ⟨oc, od, .func (PySem.W.fnOf "law" "law" (defArgs s_law) (defBody s_law) (defScope s_law) .none kV doc pm an (.ref c) ct), osl⟩) (hcd : PySem.W.codeIn K (.ref c) "law" = true)
    (TB : TabB base mg c Pl) (nlp : Pl ≠ Pp) (Z : Kinds K mg CF CB CN CM) (O_Layout : OwnC K mg "Layout" C fI)
    (D__law_fold : Df K mg "_law_fold" s__law_fold ["script"] f1 fd1) (G__law_fold : FnOk P w K mg base CX0 1 f1 fd1 ["script"] (spLot K)) (D__law_herd : Df K mg "_law_herd" s__law_herd ["fold", "many"] f2 fd2) (D__law_one : Df K mg "_law_one" s__law_one ["fold", "some"] f3 fd3) (D__law_heard : Df K mg "_law_heard" s__law_heard ["ask"] f4 fd4) (D__law_means : Df K mg "_law_means" s__law_means ["fold", "bits", "states"] f5 fd5) (G__law_means : FnOk P w K mg base CX0 2 f5 fd5 ["fold", "bits", "states"] spMeans)
    (D_beside_layout : Df K mg "beside_layout" s_beside_layout ["one", "other", "states"] f6 fd6) (GX_beside_layout : FnOk P w K mg base (L2.CX P w) 6 f6 fd6 ["one", "other", "states"] (spBeside K C CB CM CN)) (D__law_pair_right : Df K mg "_law_pair_right" s__law_pair_right ["fold", "one", "other", "states"] f7 fd7) (G__law_pair_right : FnG P w K mg base CX0 12 f7 fd7 ["fold", "one", "other", "states"] (spPair Pl Pp))
    (D__law_three_right : Df K mg "_law_three_right" s__law_three_right ["fold"] f8 fd8) (G__law_three_right : FnOk P w K mg base CX0 8 f8 fd8 ["fold"] spThree)
    (b_Layout_init : L2.Binds K fdI ["self", "bits", "means"] []) (G_Layout_init : FnOk P w K mg base CX0 4 fI fdI ["self", "bits", "means"] (spLayInit C)) :
    FnG P w K mg base CX0 14 f (PySem.W.fnOf "law" "law" (defArgs s_law) (defBody s_law) (defScope s_law) .none kV doc pm an (.ref c) ct) ["script"] (spLaw K Pl Pp) := by
  have G_beside_layout := calm_of GX_beside_layout
  have G__law_herd : FnOk P w K mg base CX0 1 f2 fd2 ["fold", "many"] spDraw := ok__law_herd D__law_herd.F T
  have G__law_one : FnOk P w K mg base CX0 2 f3 fd3 ["fold", "some"] spOne := ok__law_one D__law_one.F T D__law_herd
  obtain ⟨ocH, odH, kVH, docH, pmH, anH, cdvH, ctH, oslH, eH, lkH, hcH⟩ := D__law_heard.F.ex
  subst eH
  refine fnG_of lk hcd sc_law (fun vs H Q E h => ?_) fun A outer s H vs Q E hgd hr h => ?_
  · obtain ⟨a, ns, rfl, _⟩ := h
    rfl
  · obtain ⟨a, ns, rfl, hS, hl, hPl, hPp, k⟩ := h
    have t0 : ∃ t, PSs (cxOf CX0 P w K mg base ["script", "fold", "turn", "many", "side", "bits", "one", "other", "states", "none", "odd", "good", "wide", "heard"] "law" (defScope s_law) f (.ref c) A outer s H E).nox (defBody s_law) t ∧ t { nx := fun _ H' => Q .non H', rt := Q } (L2.start ["script", "fold", "turn", "many", "side", "bits", "one", "other", "states", "none", "odd", "good", "wide", "heard"] [.ref a]) H := by
      refine ⟨_, (pss_cons (ps_set (i := 1) sc_law.nd rfl (Or.inr rfl) (pe_call G__law_fold (hr.mono (by decide)) (by rfl) D__law_fold.g D__law_fold.F.kp D__law_fold.b .nil pass0 (pa_cons (pv 0) pa_nil)))
  (pss_cons (ps_for PassesOwn.never rfl (pi_range1 (by rfl) T.n_range (pa_cons pe_int pa_nil)) (pg_name (i := 2) sc_law.nd rfl (Or.inl rfl)) (pss_cons (ps_set (i := 3) sc_law.nd rfl (Or.inr rfl) (pe_lc (own := [("side", 4)]) (g := (gName 4)) (tt := tYes) rfl sc_law.nd (pi_range1 (by rfl) T.n_range (pa_cons pe_int pa_nil)) (blkOk_by (N := N_law) (own := [("side", 4)]) (sc := defScope s_law) (by decide +kernel)) (fun _ _ _ _ _ => (pg_name (i := 4) sc_law.nd rfl (Or.inl rfl))) (fun _ _ _ _ _ => pts_nil) (fun _ _ _ _ _ => (pe_op op_add pe_int (pe_call G__law_herd (hr.mono (by decide)) (by rfl) D__law_herd.g D__law_herd.F.kp D__law_herd.b .nil pass0 (pa_cons (pv 1) (pa_cons (pe_call G__law_one (hr.mono (by decide)) (by rfl) D__law_one.g D__law_one.F.kp D__law_one.b .nil pass0 (pa_cons (pv 1) (pa_cons (pe_lst (pa_cons pe_int (pa_cons pe_int (pa_cons pe_int (pa_cons pe_int pa_nil))))) pa_nil))) pa_nil)))))))
  (pss_cons (ps_set (i := 5) sc_law.nd rfl (Or.inr rfl) (pe_lc (own := [("side", 4)]) (g := (gName 4)) (tt := tYes) rfl sc_law.nd (pi_range1 (by rfl) T.n_range (pa_cons pe_int pa_nil)) (blkOk_by (N := N_law) (own := [("side", 4)]) (sc := defScope s_law) (by decide +kernel)) (fun _ _ _ _ _ => (pg_name (i := 4) sc_law.nd rfl (Or.inl rfl))) (fun _ _ _ _ _ => pts_nil) (fun _ _ _ _ _ => (pe_op op_add pe_int (pe_call G__law_herd (hr.mono (by decide)) (by rfl) D__law_herd.g D__law_herd.F.kp D__law_herd.b .nil pass0 (pa_cons (pv 1) (pa_cons (pe_call G__law_one (hr.mono (by decide)) (by rfl) D__law_one.g D__law_one.F.kp D__law_one.b .nil pass0 (pa_cons (pv 1) (pa_cons (pe_lst (pa_cons pe_int (pa_cons pe_int (pa_cons pe_int pa_nil)))) pa_nil))) pa_nil)))))))
  (pss_cons (ps_asg (pe_lc (own := [("side", 4)]) (g := (gName 4)) (tt := tYes) (te := tTup (tCons (tOp (rIxL K) (tVar 5) (tVar 4)) (tCons (tCall spMeans [] E0 (tCons (tVar 1) (tCons (tOp (rIxL K) (tVar 5) (tVar 4)) (tCons (tOp (rIxL K) (tVar 3) (tVar 4)) tNil)))) tNil))) rfl sc_law.nd (pi_range1 (by rfl) T.n_range (pa_cons pe_int pa_nil)) (blkOk_by (N := N_law) (own := [("side", 4)]) (sc := defScope s_law) (by decide +kernel)) (fun _ _ _ _ _ => (pg_name (i := 4) sc_law.nd rfl (Or.inl rfl))) (fun _ _ _ _ _ => pts_nil) (fun _ _ _ _ _ => (pe_tup (pa_cons (pe_ix ix_list (pv 5) (pv 4) (fun _ _ => rfl)) (pa_cons (pe_call G__law_means (hr.mono (by decide)) (by rfl) D__law_means.g D__law_means.F.kp D__law_means.b .nil pass0 (pa_cons (pv 1) (pa_cons (pe_ix ix_list (pv 5) (pv 4) (fun _ _ => rfl)) (pa_cons (pe_ix ix_list (pv 3) (pv 4) (fun _ _ => rfl)) pa_nil)))) pa_nil))))) (pg_unl (by rfl) (pgs_cons (pg_name (i := 6) sc_law.nd rfl (Or.inl rfl)) (pgs_cons (pg_name (i := 7) sc_law.nd rfl (Or.inl rfl)) pgs_nil))))
  (pss_cons (ps_set (i := 8) sc_law.nd rfl (Or.inl rfl) (pe_call G__law_one (hr.mono (by decide)) (by rfl) D__law_one.g D__law_one.F.kp D__law_one.b .nil pass0 (pa_cons (pv 1) (pa_cons (pe_lst (pa_cons (pe_ix ix_list (pv 3) pe_int (fun _ _ => rfl)) (pa_cons (pe_ix ix_list (pv 3) pe_int (fun _ _ => rfl)) (pa_cons pe_int (pa_cons (pe_op op_add (pe_ix ix_list (pv 3) pe_int (fun _ _ => rfl)) (pe_call G__law_herd (hr.mono (by decide)) (by rfl) D__law_herd.g D__law_herd.F.kp D__law_herd.b .nil pass0 (pa_cons (pv 1) (pa_cons pe_int pa_nil)))) (pa_cons (pe_callB (call_max2 rfl) (by rfl) T.n_max (by decide +kernel) (pa_cons pe_int (pa_cons (pe_op op_sub (pe_ix ix_list (pv 3) pe_int (fun _ _ => rfl)) pe_int) pa_nil))) (pa_cons pe_int (pa_cons pe_int pa_nil)))))))) pa_nil))))
  (pss_one (ps_if (pt_not (pt_val (pe_callG G__law_pair_right hgd (hr.mono (by decide)) (by rfl) D__law_pair_right.g D__law_pair_right.F.kp D__law_pair_right.b .nil pass0 (pa_cons (pv 1) (pa_cons (pv 6) (pa_cons (pv 7) (pa_cons (pe_callB (call_min2 rfl) (by rfl) T.n_min (by decide +kernel) (pa_cons pe_int (pa_cons (pv 8) pa_nil))) pa_nil))))))) (pss_one (ps_ret pe_bl)) pss_nil)))))))
  (pss_cons (ps_asg (pe_tup (pa_cons (pe_call G__law_one (hr.mono (by decide)) (by rfl) D__law_one.g D__law_one.F.kp D__law_one.b .nil pass0 (pa_cons (pv 1) (pa_cons (pe_lst (pa_cons pe_non (pa_cons pe_int (pa_cons pe_str (pa_cons (pe_tup (pa_cons pe_int (pa_cons (pe_tup (pa_cons pe_int (pa_cons pe_int pa_nil))) pa_nil))) (pa_cons (pe_lst (pa_cons pe_int (pa_cons pe_int pa_nil))) (pa_cons pe_bl pa_nil))))))) pa_nil))) (pa_cons (pe_call G__law_one (hr.mono (by decide)) (by rfl) D__law_one.g D__law_one.F.kp D__law_one.b .nil pass0 (pa_cons (pv 1) (pa_cons (pe_lst (pa_cons pe_int (pa_cons pe_int (pa_cons (pe_un un_neg pe_int) (pa_cons pe_non (pa_cons pe_bl (pa_cons pe_str (pa_cons (pe_op op_pow pe_int pe_int) pa_nil)))))))) pa_nil))) pa_nil))) (pg_tup (by rfl) (pgs_cons (pg_name (i := 9) sc_law.nd rfl (Or.inr rfl)) (pgs_cons (pg_name (i := 10) sc_law.nd rfl (Or.inr rfl)) pgs_nil))))
  (pss_cons (ps_asg (pe_tup (pa_cons (pe_make O_Layout.made G_Layout_init (hr.mono (by decide)) (by rfl) O_Layout.g b_Layout_init .nil pass0 (pa_cons pe_int (pa_cons (pe_lst (pa_cons pe_int (pa_cons pe_int pa_nil))) pa_nil))) (pa_cons (pe_make O_Layout.made G_Layout_init (hr.mono (by decide)) (by rfl) O_Layout.g b_Layout_init .nil pass0 (pa_cons pe_int (pa_cons (pe_op op_rep (pe_lst (pa_cons pe_int pa_nil)) pe_int) pa_nil))) pa_nil))) (pg_tup (by rfl) (pgs_cons (pg_name (i := 11) sc_law.nd rfl (Or.inr rfl)) (pgs_cons (pg_name (i := 12) sc_law.nd rfl (Or.inr rfl)) pgs_nil))))
  (pss_cons (ps_set (i := 13) sc_law.nd rfl (Or.inl rfl) (pe_lst (pa_cons (pe_lam (T := [(Pl, LQl), (Pp, LQp)]) (vs := []) (TT := TTheard CB CN CM) (k := 7) (nm := []) (dts := []) (t := fun E => tCallS (spBeside K C CB CM CN) (WE fun cls d _ H => E cls d H) (tCons (tVar 9) (tCons (tVar 9) (tCons (tVar 10) tNil)))) (by rfl) D__law_heard.g D__law_heard.F.kp lkH hcH D__law_heard.b sc__law_heard rfl (Or.inl rfl) (heard_gives Z T) TB rfl List.mem_cons_self (hu_1 nlp) (hr.mono (by decide)) (lamN_by (sc := defScope s_law) (N := N_law) (by decide +kernel)) (.inl ⟨rfl, rfl⟩) (bind_0 fun _ _ _ _ _ _ _ => rfl) (mono_S beside_mono (mta_cons mte_var (mta_cons mte_var (mta_cons mte_var mta_nil)))) pa_nil (fun _ _ _ => rfl) rfl (fun A outer s H E f c' hr2 => pe_callS GX_beside_layout (hr2.mono (by decide)) (by rfl) D_beside_layout.g D_beside_layout.F.kp D_beside_layout.b (fun σ => passAt (takes_of rfl rfl rfl rfl) σ) (pa_cons (pv 9) (pa_cons (pv 9) (pa_cons (pv 10) pa_nil))))) (pa_cons (pe_lam (T := [(Pl, LQl), (Pp, LQp)]) (vs := []) (TT := TTheard CB CN CM) (k := 7) (nm := ["a1"]) (dts := [0]) (t := fun E => tCallS (spBeside K C CB CM CN) (WE fun cls d _ H => E cls d H) (tCons (tVar 11) (tCons (tVar 9) (tCons (tVar 10) tNil)))) (by rfl) D__law_heard.g D__law_heard.F.kp lkH hcH D__law_heard.b sc__law_heard rfl (Or.inl rfl) (heard_gives Z T) TB rfl List.mem_cons_self (hu_1 nlp) (hr.mono (by decide)) (lamN_by (sc := defScope s_law) (N := N_law) (by decide +kernel)) (.inr ⟨0, _, _, rfl, rfl⟩) (bind_1 fun _ _ _ _ _ _ _ _ _ => ⟨_, rfl, rfl⟩) (mono_S beside_mono (mta_cons mte_var (mta_cons mte_var (mta_cons mte_var mta_nil)))) pa_nil (fun _ _ _ => rfl) rfl (fun A outer s H E f c' hr2 => pe_callS GX_beside_layout (hr2.mono (by decide)) (by rfl) D_beside_layout.g D_beside_layout.F.kp D_beside_layout.b (fun σ => passAt (takes_of rfl rfl rfl rfl) σ) (pa_cons (pv 11) (pa_cons (pv 9) (pa_cons (pv 10) pa_nil))))) (pa_cons (pe_lam (T := [(Pl, LQl), (Pp, LQp)]) (vs := []) (TT := TTheard CB CN CM) (k := 7) (nm := ["a2"]) (dts := [0]) (t := fun E => tCallS (spBeside K C CB CM CN) (WE fun cls d _ H => E cls d H) (tCons (tVar 12) (tCons (tVar 11) (tCons (tVar 10) tNil)))) (by rfl) D__law_heard.g D__law_heard.F.kp lkH hcH D__law_heard.b sc__law_heard rfl (Or.inl rfl) (heard_gives Z T) TB rfl List.mem_cons_self (hu_1 nlp) (hr.mono (by decide)) (lamN_by (sc := defScope s_law) (N := N_law) (by decide +kernel)) (.inr ⟨0, _, _, rfl, rfl⟩) (bind_1 fun _ _ _ _ _ _ _ _ _ => ⟨_, rfl, rfl⟩) (mono_S beside_mono (mta_cons mte_var (mta_cons mte_var (mta_cons mte_var mta_nil)))) pa_nil (fun _ _ _ => rfl) rfl (fun A outer s H E f c' hr2 => pe_callS GX_beside_layout (hr2.mono (by decide)) (by rfl) D_beside_layout.g D_beside_layout.F.kp D_beside_layout.b (fun σ => passAt (takes_of rfl rfl rfl rfl) σ) (pa_cons (pv 12) (pa_cons (pv 11) (pa_cons (pv 10) pa_nil))))) pa_nil)))))
  (pss_one (ps_ret (pe_and (pe_cmpR (op_eqD hr.units) (pv 13) (pe_lst (pa_cons pe_str (pa_cons pe_str (pa_cons pe_str pa_nil)))) (nomark _)) (pe_and (pe_cmpR op_eq (pe_lam (T := [(Pl, LQl), (Pp, LQp)]) (vs := []) (TT := TTheard CB CN CM) (k := 7) (nm := []) (dts := []) (t := fun E => tCallS (spBeside K C CB CM CN) (WE fun cls d _ H => E cls d H) (tCons (tVar 12) (tCons (tVar 11) (tCons (tC (.int 1)) tNil)))) (by rfl) D__law_heard.g D__law_heard.F.kp lkH hcH D__law_heard.b sc__law_heard rfl (Or.inl rfl) (heard_gives Z T) TB rfl List.mem_cons_self (hu_1 nlp) (hr.mono (by decide)) (lamN_by (sc := defScope s_law) (N := N_law) (by decide +kernel)) (.inl ⟨rfl, rfl⟩) (bind_0 fun _ _ _ _ _ _ _ => rfl) (mono_S beside_mono (mta_cons mte_var (mta_cons mte_var (mta_cons mte_c mta_nil)))) pa_nil (fun _ _ _ => rfl) rfl (fun A outer s H E f c' hr2 => pe_callS GX_beside_layout (hr2.mono (by decide)) (by rfl) D_beside_layout.g D_beside_layout.F.kp D_beside_layout.b (fun σ => passAt (takes_of rfl rfl rfl rfl) σ) (pa_cons (pv 12) (pa_cons (pv 11) (pa_cons pe_int pa_nil))))) pe_str (nomark _)) (pe_one (pe_call G__law_three_right (hr.mono (by decide)) (by rfl) D__law_three_right.g D__law_three_right.F.kp D__law_three_right.b .nil pass0 (pa_cons (pv 1) pa_nil)))))))))))), ?_⟩
      refine ⟨_, rfl, a, ns, rfl, hS, hl, fun p b H1 hp hb O S1 => ?_⟩
      have M1 : Mid (TBs Pl Pp) p b 0 H1 := ⟨O, fun x hx => by
        rcases List.mem_cons.mp hx with rfl | hx
        · exact .nil (S1 _ _ hPl)
        · rw [List.mem_singleton.mp hx]
          exact .nil (S1 _ _ hPp)⟩
      refine ⟨3, rfl, by decide, by decide, ?_⟩
      refine for_range (n := 3) (fun i σ H' => Mid (TBs Pl Pp) p b (1000 * i) H' ∧ ∃ u2 u3 u4 u5 u6 u7 u8 : Option V, σ = [some (.ref a), some (.ref p), u2, u3, u4, u5, u6, u7, u8, none, none, none, none, none]) ⟨M1, none, none, none, none, none, none, none, rfl⟩ ?_ ?_
      · rintro i σ H2 hi ⟨M2, u2, u3, u4, u5, u6, u7, u8, rfl⟩
        -- many
        refine ⟨2, rfl, by decide, by decide, fun D hD => ?_⟩
        have Dp := M2.pD hD
        have Db := M2.bD hD
        refine lc_range (n := 2) (fun j H' => ∃ rs : List Nat, rs.length = j ∧ (∀ r ∈ rs, 2 ≤ r ∧ r ≤ 63) ∧ H' D = some (.lst (rs.map fun r : Nat => V.int (r : Int))) ∧ Mid (TBs Pl Pp) p b (1000 * i + 10 * j) H' ∧ But p H2 H') ⟨[], rfl, (fun r hr => by cases hr), upd_same, M2.same (same_new hD), But.of (same_new hD)⟩ ?_ ?_
        · rintro j H3 hj ⟨rs, e1, e2, e3, M3, B3⟩
          refine ⟨rfl, _, rfl, _, rfl, by show 4 ≤ sizeLine; decide, fun l hl => ?_⟩
          have Sl := same_new (o := .lst [V.int 2, .int 5, .int 8, .int 62]) hl
          refine ⟨p, b, l, _, _, rfl, M3.o.same Sl, by omega, upd_same, M3.pD hl, by show 0 < 4; decide, by show 4 ≤ 1000; decide, fun jj x H4 hjj O4 B4 => ?_⟩
          obtain ⟨kk, hk, rfl⟩ := pick_int (ks := [2, 5, 8, 62]) hjj
          have kb : 0 < kk ∧ kk ≤ 62 := by simp at hk; omega
          have M4 := (M3.same Sl).draw O4 B4
          refine ⟨p, b, _, kk, rfl, O4, by omega, by omega, nat9 (by omega), fun r H5 r0 r1 O5 B5 => ⟨_, _, rfl, rfl, ?_⟩⟩
          have M5 := M4.draw O5 B5
          have B35 := (But.of Sl).trans (B4.trans B5)
          obtain ⟨r, rfl⟩ := Int.eq_ofNat_of_zero_le r0
          have h5 := B35 _ _ e3 Dp
          refine ⟨_, h5, by rw [List.length_map, sizeLine_eq]; omega, rs ++ [2 + r], by rw [List.length_append, e1]; rfl, fun x hx => ?_, ?_, (M5.put h5 Dp Db).mono (by omega), but_put hD (B3.trans B35)⟩
          · rcases List.mem_append.mp hx with hx | hx
            · exact e2 x hx
            · rw [List.mem_singleton.mp hx]
              omega
          · rw [upd_same, List.map_append]
            rfl
        rintro H3 ⟨rs, e1, e2, e3, M3, B3⟩
        obtain ⟨m0, m1, rfl⟩ := two_of e1
        have hm0 := e2 m0 (by simp)
        have hm1 := e2 m1 (by simp)
        clear e1 e2
        -- bits
        refine ⟨2, rfl, by decide, by decide, fun D2 hD2 => ?_⟩
        have Dp2 := M3.pD hD2
        have Db2 := M3.bD hD2
        refine lc_range (n := 2) (fun j H' => ∃ rs : List Nat, rs.length = j ∧ (∀ r ∈ rs, 1 ≤ r ∧ r ≤ 5) ∧ H' D2 = some (.lst (rs.map fun r : Nat => V.int (r : Int))) ∧ Mid (TBs Pl Pp) p b (1000 * i + 20 + 10 * j) H' ∧ But p H3 H') ⟨[], rfl, (fun r hr => by cases hr), upd_same, M3.same (same_new hD2), But.of (same_new hD2)⟩ ?_ ?_
        · rintro j H4 hj ⟨rs, e1, e2, e4, M4, B4⟩
          refine ⟨rfl, _, rfl, _, rfl, by show 3 ≤ sizeLine; decide, fun l hl => ?_⟩
          have Sl := same_new (o := .lst [V.int 3, .int 3, .int 5]) hl
          refine ⟨p, b, l, _, _, rfl, M4.o.same Sl, by omega, upd_same, M4.pD hl, by show 0 < 3; decide, by show 3 ≤ 1000; decide, fun jj x H5 hjj O5 B5 => ?_⟩
          obtain ⟨kk, hk, rfl⟩ := pick_int (ks := [3, 3, 5]) hjj
          have kb : 0 < kk ∧ kk ≤ 5 := by simp at hk; omega
          have M5 := (M4.same Sl).draw O5 B5
          refine ⟨p, b, _, kk, rfl, O5, by omega, by omega, nat9 (by omega), fun r H6 r0 r1 O6 B6 => ⟨_, _, rfl, rfl, ?_⟩⟩
          have M6 := M5.draw O6 B6
          have B46 := (But.of Sl).trans (B5.trans B6)
          obtain ⟨r, rfl⟩ := Int.eq_ofNat_of_zero_le r0
          have h6 := B46 _ _ e4 Dp2
          refine ⟨_, h6, by rw [List.length_map, sizeLine_eq]; omega, rs ++ [1 + r], by rw [List.length_append, e1]; rfl, fun x hx => ?_, ?_, (M6.put h6 Dp2 Db2).mono (by omega), but_put hD2 (B4.trans B46)⟩
          · rcases List.mem_append.mp hx with hx | hx
            · exact e2 x hx
            · rw [List.mem_singleton.mp hx]
              omega
          · rw [upd_same, List.map_append]
            rfl
        rintro H4 ⟨rs, e1, e2, e4, M4, B4⟩
        obtain ⟨b0, b1, rfl⟩ := two_of e1
        have hb0 := e2 b0 (by simp)
        have hb1 := e2 b1 (by simp)
        have e3' := B4 _ _ e3 Dp
        clear e1 e2 e3 M3 M2 B3 B4 hD
        refine ⟨2, rfl, by decide, by decide, fun D3 hD3 => ?_⟩
        have Dp3 := M4.pD hD3
        have Db3 := M4.bD hD3
        have pickN : ∀ {x y j : Nat}, j < 2 → ∃ z : Nat, (z = x ∨ z = y) ∧ (([x, y].map fun r : Nat => V.int (r : Int)))[j]? = some (V.int (z : Int)) := fun {x y j} h => match j, h with
          | 0, _ => ⟨x, .inl rfl, rfl⟩
          | 1, _ => ⟨y, .inr rfl, rfl⟩
        refine lc_range (n := 2) (fun j H' => ∃ rs : List (Addr × Addr × Nat × List (Option Nat)), rs.length = j ∧ (∀ r ∈ rs, Row p D3 H' r) ∧ H' D3 = some (.lst (rs.map fun r => V.ref r.1)) ∧ Mid (TBs Pl Pp) p b (1000 * i + 40 + 100 * j) H' ∧ But p H4 H') ⟨[], rfl, (fun r hr => by cases hr), upd_same, M4.same (same_new hD3), But.of (same_new hD3)⟩ ?_ ?_
        · rintro j H5 hj ⟨rs, e1, e2, e5, M5, B5⟩
          obtain ⟨bj, hbj, ebj⟩ := pickN (x := b0) (y := b1) hj
          obtain ⟨mj, hmj, emj⟩ := pickN (x := m0) (y := m1) hj
          have hbj : 1 ≤ bj ∧ bj ≤ 5 := by rcases hbj with rfl | rfl <;> assumption
          have hmj : 2 ≤ mj ∧ mj ≤ 63 := by rcases hmj with rfl | rfl <;> assumption
          have f3 := B5 _ _ e3' Dp
          have f4 := B5 _ _ e4 Dp2
          refine ⟨rfl, _, rfl, _, rfl, D2, _, _, _, rfl, rfl, SqL.of f4, by rw [Int.zero_add]; exact atI_nat ebj, _, rfl, _, rfl, _, rfl, D2, _, _, _, rfl, rfl, SqL.of f4, by rw [Int.zero_add]; exact atI_nat ebj, _, rfl, _, rfl, D, _, _, _, rfl, rfl, SqL.of f3, by rw [Int.zero_add]; exact atI_nat emj, p, b, _, bj, mj, rfl, M5.o, by omega, by omega, by omega, by omega, fun q ms H6 hq h6 dr O6 B6 => ⟨by show 2 ≤ sizeLine; decide, fun t ht => ?_⟩⟩
          have St := same_new (o := .tup [V.int (bj : Int), .ref q]) ht
          have gt := upd_same (H := H6) (a := t) (o := .tup [V.int (bj : Int), .ref q])
          have M6 := (M5.draw O6 B6).same St
          have B7 := B6.trans (But.of St)
          have h7 := St _ _ h6
          have pt : t ≠ p := (M5.draw O6 B6).pD ht
          have pq : q ≠ p := M5.pD hq
          have e7 := B7 _ _ e5 Dp3
          have nqD : q ≠ D3 := (ne_of_none e5 hq).symm
          show ∃ acc, (upd H6 t (.tup [V.int (bj : Int), .ref q])) D3 = some (.lst acc) ∧ _
          generalize upd H6 t (.tup [V.int (bj : Int), .ref q]) = H7 at gt M6 B7 h7 e7 ⊢
          refine ⟨_, e7, by rw [List.length_map, sizeLine_eq]; omega, rs ++ [(t, q, bj, ms)], by rw [List.length_append, e1]; rfl, fun x hx => ?_, ?_, (M6.put e7 Dp3 Db3).mono (by omega), but_put hD3 (B5.trans B7)⟩
          · rcases List.mem_append.mp hx with hx | hx
            · obtain ⟨y1, y2, y3, y4, y5, y6⟩ := e2 x hx
              have z1 := B7 _ _ y1 y3
              exact ⟨by rw [upd_ne (ne_of z1 e7 (by intro z; cases z))]; exact z1, by rw [upd_ne y5]; exact B7 _ _ y2 y4, y3, y4, y5, y6⟩
            · rw [List.mem_singleton.mp hx]
              exact ⟨by rw [upd_ne (ne_of gt e7 (by intro z; cases z))]; exact gt, by rw [upd_ne nqD]; exact h7, pt, pq, nqD, ⟨hbj.1, by show bj ≤ 8; omega, dr.1, fun x hx => by have := dr.2 x hx; omega⟩⟩
          · rw [upd_same, List.map_append]
            rfl
        rintro H5 ⟨rs, e1, e2, e5, M5, B5⟩
        obtain ⟨⟨ta, qa, ba, ms⟩, ⟨tb, qb, bb, ns'⟩, rfl⟩ := two_of e1
        obtain ⟨x1, x2, x3, x4, x5, x6⟩ := e2 (ta, qa, ba, ms) (by simp)
        obtain ⟨y1, y2, y3, y4, y5, y6⟩ := e2 (tb, qb, bb, ns') (by simp)
        simp only at x1 x2 x3 x4 x6 y1 y2 y3 y4 y6
        have e3'' := B5 _ _ e3' Dp
        refine ⟨D3, _, rfl, SqL.of e5, rfl, _, _, rfl, _, _, rfl, rfl, ?_⟩
        clear e1 e2 e5 M4 B5 hD3 Dp3 Db3 x5 y5 e4 pickN Dp2 Db2 hD2 e3'
        -- states
        have at0 : ∀ {z : Nat}, atI ([m0, m1].map fun r : Nat => V.int (r : Int)) 0 = some (V.int (m0 : Int)) := rfl
        refine ⟨_, rfl, _, rfl, D, _, _, _, rfl, rfl, SqL.of e3'', rfl, _, rfl, D, _, _, _, rfl, rfl, SqL.of e3'', rfl, _, rfl, D, _, _, _, rfl, rfl, SqL.of e3'', rfl, _, rfl, p, b, _, 3, rfl, M5.o, by omega, by decide, by decide, fun r H6 r0 r1 O6 B6 => ⟨_, _, rfl, rfl, ?_⟩⟩
        have M6 := M5.draw O6 B6
        have g3 := B6 _ _ e3'' Dp
        refine ⟨_, rfl, D, _, _, _, rfl, rfl, SqL.of g3, rfl, _, _, rfl, rfl, _, _, rfl, by show 7 ≤ sizeLine; decide, fun l hl => ?_⟩
        obtain ⟨mx, emx, q1, q2⟩ : ∃ mx : Int, mx = (if (m0 : Int) - 1 > 1 then (m0 : Int) - 1 else 1) ∧ 1 ≤ mx ∧ mx ≤ 64 := ⟨_, rfl, by split <;> omega, by split <;> omega⟩
        rw [← emx]
        have Sl := same_new (o := .lst [V.int (m0 : Int), .int (m0 : Int), .int 64, .int ((m0 : Int) + r), .int mx, .int 1, .int 2]) hl
        refine ⟨p, b, l, _, _, rfl, M6.o.same Sl, by omega, upd_same, M6.pD hl, by show 0 < 7; decide, by show 7 ≤ 1000; decide, fun jj x H7 hjj O7 B7 => ?_⟩
        obtain ⟨kk, hk, rfl⟩ := pick_int (ks := [(m0 : Int), (m0 : Int), 64, (m0 : Int) + r, mx, 1, 2]) hjj
        have kb : 1 ≤ kk ∧ kk ≤ 70 := by simp at hk; omega
        obtain ⟨s', es', s1, s2⟩ : ∃ s' : Nat, (if kk < 64 then kk else 64) = (s' : Int) ∧ 1 ≤ s' ∧ s' ≤ 64 := ⟨(if kk < 64 then kk else 64).toNat, by split <;> omega, by split <;> omega, by split <;> omega⟩
        have M7 := (M6.same Sl).draw O7 B7
        have B57 := B6.trans ((But.of Sl).trans B7)
        refine ⟨_, rfl, _, rfl, _, rfl, _, rfl, _, _, rfl, ?_⟩
        rw [es']
        refine ⟨p, b, _, ta, tb, qa, qb, ba, bb, s', ms, ns', rfl, M7.o, by omega, M7.t, B57 _ _ x1 x3, B57 _ _ y1 y3, B57 _ _ x2 x4, B57 _ _ y2 y4, x6, y6, s1, s2, fun H8 O8 T8 => ⟨_, rfl, ?_⟩⟩
        exact iteF ⟨⟨O8.mono (by omega), T8⟩, _, _, _, _, _, _, _, rfl⟩
      · rintro σ H2 ⟨M2, u2, u3, u4, u5, u6, u7, u8, rfl⟩
        clear S1 O M1 hS hPl hPp hp hb
        -- none
        refine ⟨_, rfl, by show 2 ≤ sizeLine; decide, fun a1 ha1 => ⟨by show 2 ≤ sizeLine; decide, fun a2 ha2 => ⟨by show 2 ≤ sizeLine; decide, fun a3 ha3 => ⟨by show 6 ≤ sizeLine; decide, fun l hl => ?_⟩⟩⟩⟩
        have s1 := same_new (o := .tup [V.int 0, .int 1]) ha1
        have s2 := same_new (o := .tup [V.int 1, .ref a1]) ha2
        have s3 := same_new (o := .lst [V.int 0, .int 1]) ha3
        have s4 := same_new (o := .lst [V.non, .int 3, .str "1 0 1", .ref a2, .ref a3, .bl true]) hl
        have g2 := s4 _ _ (s3 _ _ (upd_same (H := upd H2 a1 (.tup [V.int 0, .int 1])) (a := a2) (o := .tup [V.int 1, .ref a1])))
        have g3 := s4 _ _ (upd_same (H := upd (upd H2 a1 (.tup [V.int 0, .int 1])) a2 (.tup [V.int 1, .ref a1])) (a := a3) (o := .lst [V.int 0, .int 1]))
        have S := s1.trans (s2.trans (s3.trans s4))
        have M3 := M2.same S
        have n2 := M2.pD (s1.free ha2)
        have n3 := M2.pD ((s1.trans s2).free ha3)
        refine ⟨p, b, l, _, _, rfl, M3.o, by omega, upd_same, M2.pD ((s1.trans (s2.trans s3)).free hl), by show 0 < 6; decide, by show 6 ≤ 1000; decide, fun jj none H3 hjj O3 B3 => ?_⟩
        have M3 := M3.draw O3 B3
        have F3 : Fix [(a2, .tup [V.int 1, .ref a1]), (a3, .lst [V.int 0, .int 1])] H3 := .cons (B3 _ _ g2 n2) rfl (.cons (B3 _ _ g3 n3) rfl .nil)
        have badN : ∀ H', Fix [(a2, .tup [V.int 1, .ref a1]), (a3, .lst [V.int 0, .int 1])] H' → NotO K C H' none := by
          intro H' e
          match jj, hjj with
          | 0, z => cases z; exact O_Layout.non
          | 1, z => cases z; exact O_Layout.int _
          | 2, z => cases z; exact O_Layout.str _
          | 3, z => cases z; exact O_Layout.tup (e.get (o := .tup [V.int 1, .ref a1]) (by simp))
          | 4, z => cases z; exact O_Layout.lst (e.get (o := .lst [V.int 0, .int 1]) (by simp))
          | 5, z => cases z; exact O_Layout.bl _
          | j + 6, z => cases z
        clear hjj s1 s2 s3 s4 g2 g3 S n2 n3
        -- odd
        refine ⟨_, rfl, _, rfl, _, _, rfl, rfl, ⟨by decide, by decide, by decide⟩, by show 7 ≤ sizeLine; decide, fun l2 hl2 => ?_⟩
        have s1 := same_new (o := .lst [V.int 0, .int 65, .int (-1), .non, .bl true, .str "2", .int (10 ^ (25 : Int).toNat)]) hl2
        have M4 := M3.same s1
        refine ⟨p, b, l2, _, _, rfl, M4.o, by omega, upd_same, M3.pD hl2, by show 0 < 7; decide, by show 7 ≤ 1000; decide, fun jj odd H4 hjj O4 B4 => ?_⟩
        have F4 := F3.keep ((Keep.same s1).trans (.but B4 (orch_ref M4.o)))
        have M4 := M4.draw O4 B4
        have badO : ∀ H', Bad K H' odd (some 1) (some 64) := by
          intro H'
          match jj, hjj with
          | 0, z => cases z; exact ⟨true, isI_int _, by decide⟩
          | 1, z => cases z; exact ⟨true, isI_int _, by decide⟩
          | 2, z => cases z; exact ⟨true, isI_int _, by decide⟩
          | 3, z => cases z; exact ⟨false, isI_non, rfl⟩
          | 4, z => cases z; exact ⟨false, isI_bl _, rfl⟩
          | 5, z => cases z; exact ⟨false, isI_str _, rfl⟩
          | 6, z => cases z; exact ⟨true, isI_int _, by decide +kernel⟩
          | j + 7, z => cases z
        clear hjj s1 F3 M3
        refine ⟨by show 2 ≤ sizeLine; decide, fun t0 ht0 => ⟨t0, _, rfl, SqT.of upd_same, rfl, _, _, rfl, _, _, rfl, rfl, ?_⟩⟩
        have s2 := same_new (o := .tup [none, odd]) ht0
        have M5 := M4.same s2
        have F5 := F4.keep (.same s2)
        generalize upd H4 t0 (.tup [none, odd]) = H5 at M5 F5 ⊢
        clear M4 F4 s2
        -- good, wide
        have ok1 : LayOk 1 [some 0, some 1] := ⟨by decide, by decide, rfl, fun n hn => by simp at hn; omega⟩
        have ok8 : LayOk 8 (List.replicate 256 (some 0)) := ⟨by decide, by decide, by rw [List.length_replicate], fun n hn => by have := Option.some.inj (List.eq_of_mem_replicate hn); omega⟩
        refine ⟨by show 2 ≤ sizeLine; decide, fun l3 hl3 => ?_⟩
        have s3 := same_new (o := .lst [V.int 0, .int 1]) hl3
        have g3 := upd_same (H := H5) (a := l3) (o := .lst [V.int 0, .int 1])
        intro x dx nx ndx nex
        refine make_lay ok1 (.inl g3) nx ndx fun H6 S6 L1 => ?_
        refine ⟨by show 1 ≤ sizeLine; decide, fun l4 hl4 => ⟨l4, 256, _, rfl, rfl, upd_same, by decide, by decide, by show 1 * 256 ≤ sizeLine; decide, fun l5 hl5 => ?_⟩⟩
        have s4 := same_new (o := .lst [V.int 0]) hl4
        have s5 := same_new (o := .lst (List.replicate (Int.toNat 256) [V.int 0]).flatten) hl5
        have g5 := upd_same (H := upd H6 l4 (.lst [V.int 0])) (a := l5) (o := .lst (List.replicate (Int.toNat 256) [V.int 0]).flatten)
        rw [show (List.replicate (Int.toNat 256) [V.int 0]).flatten = (List.replicate 256 (some 0)).map mv from by decide +kernel] at g5 s5 ⊢
        intro y dy ny ndy ney
        refine make_lay ok8 (.inl g5) ny ndy fun H7 S7 L8 => ?_
        have S57 := s3.trans (S6.trans (s4.trans (s5.trans S7)))
        have L1 := L1.same (s4.trans (s5.trans S7))
        have M7 := M5.same S57
        have F7 := F5.keep (.same S57)
        refine ⟨by show 2 ≤ sizeLine; decide, fun t1 ht1 => ⟨t1, _, rfl, SqT.of upd_same, rfl, _, _, rfl, _, _, rfl, rfl, ?_⟩⟩
        have s8 := same_new (o := .tup [V.ref x, .ref y]) ht1
        have M8 := M7.same s8
        have F8 := F7.keep (.same s8)
        have X8 := L1.same s8
        have Y8 := L8.same s8
        generalize upd H7 t1 (.tup [V.ref x, .ref y]) = H8 at M8 F8 X8 Y8 ⊢
        clear M7 F7 L1 L8 s8 S57 S6 S7 s3 s4 s5 g3 g5 M5 F5 nx ndx nex ny ndy ney
        -- heard
        have d0 : ∀ {Hx Hy : Hp} {d : Addr} {o : HO}, Hx d = Option.none → Same (upd Hx d o) Hy → Same Hx Hy := fun h s => (same_new h).trans s
        refine ⟨M8.t, fun Ha ea Ta => ⟨rfl, _, rfl, _, rfl, _, rfl, _, _, _, rfl, .inl ⟨badN _ (F8.keep (.ext ea)), fun d hd => ⟨d, "one", rfl, by decide +kernel, upd_same, .inl ⟨rfl, fun Hb Sb => ?_⟩⟩⟩⟩⟩
        have M9 := (M8.ext ea Ta).same (d0 hd Sb)
        have F9 := (F8.keep (.ext ea)).keep (.same (d0 hd Sb))
        have X9 := (lay_ext X8 ea).same (d0 hd Sb)
        have Y9 := (lay_ext Y8 ea).same (d0 hd Sb)
        clear M8 F8 X8 Y8 ea Ta hd Sb
        refine ⟨M9.t, fun Ha ea Ta => ⟨rfl, _, rfl, _, rfl, _, rfl, _, _, _, rfl, .inr ⟨x, 1, _, rfl, lay_ext X9 ea, ok1, .inl ⟨badN _ (F9.keep (.ext ea)), fun d hd => ⟨d, "other", rfl, by decide +kernel, upd_same, .inl ⟨rfl, fun Hb Sb => ?_⟩⟩⟩⟩⟩⟩
        have M10 := (M9.ext ea Ta).same (d0 hd Sb)
        have X10 := (lay_ext X9 ea).same (d0 hd Sb)
        have Y10 := (lay_ext Y9 ea).same (d0 hd Sb)
        clear M9 F9 X9 Y9 ea Ta hd Sb
        refine ⟨M10.t, fun Ha ea Ta => ⟨rfl, _, rfl, _, rfl, _, rfl, _, _, _, rfl, .inr ⟨y, 8, _, rfl, lay_ext Y10 ea, ok8, .inr ⟨x, 1, _, rfl, lay_ext X10 ea, ok1, .inl ⟨badO _, fun d hd => ⟨d, "states", rfl, by decide +kernel, upd_same, .inr (.inl ⟨rfl, fun Hb Sb => ?_⟩)⟩⟩⟩⟩⟩⟩
        have M11 := (M10.ext ea Ta).same (d0 hd Sb)
        have X11 := (lay_ext X10 ea).same (d0 hd Sb)
        have Y11 := (lay_ext Y10 ea).same (d0 hd Sb)
        clear M10 X10 Y10 ea Ta hd Sb
        rw [show ("BadLayout" ++ " " ++ "one" : Str) = "BadLayout one" by decide +kernel, show ("BadLayout" ++ " " ++ "other" : Str) = "BadLayout other" by decide +kernel, show ("BadNumber" ++ " " ++ "states" : Str) = "BadNumber states" by decide +kernel]
        refine ⟨by show 3 ≤ sizeLine; decide, fun lh hlh => ?_⟩
        have s9 := same_new (o := .lst [V.str "BadLayout one", .str "BadLayout other", .str "BadNumber states"]) hlh
        have g9 := upd_same (H := Hb) (a := lh) (o := .lst [V.str "BadLayout one", .str "BadLayout other", .str "BadNumber states"])
        refine ⟨_, rfl, by show 3 ≤ sizeLine; decide, fun lw hlw => ?_⟩
        have s10 := same_new (o := .lst [V.str "BadLayout one", .str "BadLayout other", .str "BadNumber states"]) hlw
        have M12 := M11.same (s9.trans s10)
        have X12 := X11.same (s9.trans s10)
        have Y12 := Y11.same (s9.trans s10)
        refine ⟨.list [.str "BadLayout one", .str "BadLayout other", .str "BadNumber states"], .list [.str "BadLayout one", .str "BadLayout other", .str "BadNumber states"], Dp.lst (SqL.of (s10 _ _ g9)) (.cons (.str _) (.cons (.str _) (.cons (.str _) .nil))), Dp.lst (SqL.of upd_same) (.cons (.str _) (.cons (.str _) (.cons (.str _) .nil))), (by decide +kernel), (by decide +kernel), ?_⟩
        rw [SeqAt.eqv_refl _ (by decide +kernel)]
        refine ⟨_, rfl, iteT ?_⟩
        refine ⟨M12.t, fun Ha ea Ta => ⟨rfl, _, rfl, _, rfl, _, _, _, rfl, .inr ⟨y, 8, _, rfl, lay_ext Y12 ea, ok8, .inr ⟨x, 1, _, rfl, lay_ext X12 ea, ok1, .inr ⟨1, rfl, by decide, by decide, .inl ⟨by decide, fun d hd => ⟨d, "bits", rfl, by decide +kernel, upd_same, .inr (.inr ⟨rfl, fun Hb Sb => ?_⟩)⟩⟩⟩⟩⟩⟩⟩
        have M13 := (M12.ext ea Ta).same (d0 hd Sb)
        refine ⟨rfl, _, rfl, ?_⟩
        rw [show decide (V.str ("Misfit" ++ " " ++ "bits") = V.str (Str.ofString "Misfit bits")) = true from decide_eq_true (congrArg V.str (by decide +kernel))]
        refine iteT ?_
        exact ⟨_, rfl, p, b, _, rfl, M13.o, by omega, k⟩
    obtain ⟨t, h1, h2⟩ := t0
    exact ⟨t, h1.nox, h2⟩
end
end K25
namespace K25
open PySem PySem.Spec PyProof.Rows L2 OB SkE LamX ClX
theorem all_mk {l : PySem.W.OpenLaw} {w : World} {K : PySem.W.Frag} {h : Heap} {mg : Str → Option Value} {fa f_is_integer f_is_within f_is_list f_need_number f_items_of f_integer_of f_item_at f_integer_at f_need_end f__is_meaning f__meaning_at f_need_layout f_need_word_of f_meaning_of f_beside_layout f__put_beside f__means_from f__law_fold f__law_herd f__law_one f__law_heard f__law_means f__law_due f__law_pair_right f__law_three_right f_law CF C_BadNumber fi_BadNumber N_BadNumber C_BadWord fi_BadWord N_BadWord C_BadLayout fi_BadLayout N_BadLayout C_Misfit fi_Misfit N_Misfit C_BadText fi_BadText N_BadText C_Layout f_Layout_init f_Layout_eq f_Layout_str f_Layout_read p_Layout_read c1 Pt1 c2 Pt2 : Addr} {cd_is_integer oc_is_integer kV_is_integer dc_is_integer pm_is_integer ct_is_integer cd_is_within oc_is_within kV_is_within dc_is_within pm_is_within ct_is_within cd_is_list oc_is_list kV_is_list dc_is_list pm_is_list ct_is_list cd_need_number oc_need_number kV_need_number dc_need_number pm_need_number ct_need_number cd_items_of oc_items_of kV_items_of dc_items_of pm_items_of ct_items_of cd_integer_of oc_integer_of kV_integer_of dc_integer_of pm_integer_of ct_integer_of cd_item_at oc_item_at kV_item_at dc_item_at pm_item_at ct_item_at cd_integer_at oc_integer_at kV_integer_at dc_integer_at pm_integer_at ct_integer_at cd_need_end oc_need_end kV_need_end dc_need_end pm_need_end ct_need_end cd__is_meaning oc__is_meaning kV__is_meaning dc__is_meaning pm__is_meaning ct__is_meaning cd__meaning_at oc__meaning_at kV__meaning_at dc__meaning_at pm__meaning_at ct__meaning_at cd_need_layout oc_need_layout kV_need_layout dc_need_layout pm_need_layout ct_need_layout cd_need_word_of oc_need_word_of kV_need_word_of dc_need_word_of pm_need_word_of ct_need_word_of cd_meaning_of oc_meaning_of kV_meaning_of dc_meaning_of pm_meaning_of ct_meaning_of cd_beside_layout oc_beside_layout kV_beside_layout dc_beside_layout pm_beside_layout ct_beside_layout cd__put_beside oc__put_beside kV__put_beside dc__put_beside pm__put_beside ct__put_beside cd__means_from oc__means_from kV__means_from dc__means_from pm__means_from ct__means_from cd__law_fold oc__law_fold kV__law_fold dc__law_fold pm__law_fold ct__law_fold cd__law_herd oc__law_herd kV__law_herd dc__law_herd pm__law_herd ct__law_herd cd__law_one oc__law_one kV__law_one dc__law_one pm__law_one ct__law_one cd__law_heard oc__law_heard kV__law_heard dc__law_heard pm__law_heard ct__law_heard cd__law_means oc__law_means kV__law_means dc__law_means pm__law_means ct__law_means cd__law_due oc__law_due kV__law_due dc__law_due pm__law_due ct__law_due oc__law_pair_right kV__law_pair_right dc__law_pair_right pm__law_pair_right ct__law_pair_right cd__law_three_right oc__law_three_right kV__law_three_right dc__law_three_right pm__law_three_right ct__law_three_right oc_law kV_law dc_law pm_law ct_law oi_BadNumber kVi_BadNumber dci_BadNumber pmi_BadNumber cti_BadNumber cdi_BadNumber oi_BadWord kVi_BadWord dci_BadWord pmi_BadWord cti_BadWord cdi_BadWord oi_BadLayout kVi_BadLayout dci_BadLayout pmi_BadLayout cti_BadLayout cdi_BadLayout oi_Misfit kVi_Misfit dci_Misfit pmi_Misfit cti_Misfit cdi_Misfit oi_BadText kVi_BadText dci_BadText pmi_BadText cti_BadText cdi_BadText oc_Layout_init kV_Layout_init dc_Layout_init pm_Layout_init cd_Layout_init ct_Layout_init oc_Layout_eq kV_Layout_eq dc_Layout_eq pm_Layout_eq cd_Layout_eq ct_Layout_eq oc_Layout_str kV_Layout_str dc_Layout_str pm_Layout_str cd_Layout_str ct_Layout_str oc_Layout_read kV_Layout_read dc_Layout_read pm_Layout_read cd_Layout_read ct_Layout_read : Value} {od_is_integer an_is_integer od_is_within an_is_within od_is_list an_is_list od_need_number an_need_number od_items_of an_items_of od_integer_of an_integer_of od_item_at an_item_at od_integer_at an_integer_at od_need_end an_need_end od__is_meaning an__is_meaning od__meaning_at an__meaning_at od_need_layout an_need_layout od_need_word_of an_need_word_of od_meaning_of an_meaning_of od_beside_layout an_beside_layout od__put_beside an__put_beside od__means_from an__means_from od__law_fold an__law_fold od__law_herd an__law_herd od__law_one an__law_one od__law_heard an__law_heard od__law_means an__law_means od__law_due an__law_due od__law_pair_right an__law_pair_right od__law_three_right an__law_three_right od_law an_law odi_BadNumber ani_BadNumber dd_BadNumber odi_BadWord ani_BadWord dd_BadWord odi_BadLayout ani_BadLayout dd_BadLayout odi_Misfit ani_Misfit dd_Misfit odi_BadText ani_BadText dd_BadText od_Layout_init an_Layout_init od_Layout_eq an_Layout_eq od_Layout_str an_Layout_str od_Layout_read an_Layout_read odC1 odC2 : Option Addr} {sl_is_integer sl_is_within sl_is_list sl_need_number sl_items_of sl_integer_of sl_item_at sl_integer_at sl_need_end sl__is_meaning sl__meaning_at sl_need_layout sl_need_word_of sl_meaning_of sl_beside_layout sl__put_beside sl__means_from sl__law_fold sl__law_herd sl__law_one sl__law_heard sl__law_means sl__law_due sl__law_pair_right sl__law_three_right sl_law sli_BadNumber sli_BadWord sli_BadLayout sli_Misfit sli_BadText sl_Layout_init sl_Layout_eq sl_Layout_str sl_Layout_read slC1 slC2 : Array (Option Value)} {vsC1 vsC2 : Array Value} {t_MOST_DIGITS t_MOST_BITS t_MOST_STATE t_NOTHING t_MOST_STATES : Tok}{rs_Layout_read : List Value} {nm_BadNumber q_BadNumber : Str} {bs_BadNumber sub_BadNumber : List Value} {sn_BadNumber : List Str} {ab_BadNumber : Bool} {col_BadNumber : Option Bool} {m0_BadNumber m1_BadNumber m2_BadNumber m3_BadNumber m5_BadNumber : Option Value} {nm_BadWord q_BadWord : Str} {bs_BadWord sub_BadWord : List Value} {sn_BadWord : List Str} {ab_BadWord : Bool} {col_BadWord : Option Bool} {m0_BadWord m1_BadWord m2_BadWord m3_BadWord m5_BadWord : Option Value} {nm_BadLayout q_BadLayout : Str} {bs_BadLayout sub_BadLayout : List Value} {sn_BadLayout : List Str} {ab_BadLayout : Bool} {col_BadLayout : Option Bool} {m0_BadLayout m1_BadLayout m2_BadLayout m3_BadLayout m5_BadLayout : Option Value} {nm_Misfit q_Misfit : Str} {bs_Misfit sub_Misfit : List Value} {sn_Misfit : List Str} {ab_Misfit : Bool} {col_Misfit : Option Bool} {m0_Misfit m1_Misfit m2_Misfit m3_Misfit m5_Misfit : Option Value} {nm_BadText q_BadText : Str} {bs_BadText sub_BadText : List Value} {sn_BadText : List Str} {ab_BadText : Bool} {col_BadText : Option Bool} {m0_BadText m1_BadText m2_BadText m3_BadText m5_BadText : Option Value}
    (X : K.In h) (G : h.Ns mainGlobals mg) (hfa : mg "law" = some (.ref fa))
    (a_is_integer : PySem.W.nsIn K mainGlobals "is_integer" = some (some (.ref f_is_integer)))
    (l_is_integer : K.lookup f_is_integer = some ⟨oc_is_integer, od_is_integer, .func (PySem.W.fnOf "is_integer" "is_integer" (defArgs s_is_integer) (defBody s_is_integer) (defScope s_is_integer) .none kV_is_integer dc_is_integer pm_is_integer an_is_integer cd_is_integer ct_is_integer), sl_is_integer⟩)
    (c_is_integer : PySem.W.codeIn K cd_is_integer "is_integer" = true)
    (k_is_integer : PySem.W.keepIn K (.ref f_is_integer) = true)
    (a_is_within : PySem.W.nsIn K mainGlobals "is_within" = some (some (.ref f_is_within)))
    (l_is_within : K.lookup f_is_within = some ⟨oc_is_within, od_is_within, .func (PySem.W.fnOf "is_within" "is_within" (defArgs s_is_within) (defBody s_is_within) (defScope s_is_within) .none kV_is_within dc_is_within pm_is_within an_is_within cd_is_within ct_is_within), sl_is_within⟩)
    (c_is_within : PySem.W.codeIn K cd_is_within "is_within" = true)
    (k_is_within : PySem.W.keepIn K (.ref f_is_within) = true)
    (a_is_list : PySem.W.nsIn K mainGlobals "is_list" = some (some (.ref f_is_list)))
    (l_is_list : K.lookup f_is_list = some ⟨oc_is_list, od_is_list, .func (PySem.W.fnOf "is_list" "is_list" (defArgs s_is_list) (defBody s_is_list) (defScope s_is_list) .none kV_is_list dc_is_list pm_is_list an_is_list cd_is_list ct_is_list), sl_is_list⟩)
    (c_is_list : PySem.W.codeIn K cd_is_list "is_list" = true)
    (k_is_list : PySem.W.keepIn K (.ref f_is_list) = true)
    (a_need_number : PySem.W.nsIn K mainGlobals "need_number" = some (some (.ref f_need_number)))
    (l_need_number : K.lookup f_need_number = some ⟨oc_need_number, od_need_number, .func (PySem.W.fnOf "need_number" "need_number" (defArgs s_need_number) (defBody s_need_number) (defScope s_need_number) .none kV_need_number dc_need_number pm_need_number an_need_number cd_need_number ct_need_number), sl_need_number⟩)
    (c_need_number : PySem.W.codeIn K cd_need_number "need_number" = true)
    (k_need_number : PySem.W.keepIn K (.ref f_need_number) = true)
    (a_items_of : PySem.W.nsIn K mainGlobals "items_of" = some (some (.ref f_items_of)))
    (l_items_of : K.lookup f_items_of = some ⟨oc_items_of, od_items_of, .func (PySem.W.fnOf "items_of" "items_of" (defArgs s_items_of) (defBody s_items_of) (defScope s_items_of) .none kV_items_of dc_items_of pm_items_of an_items_of cd_items_of ct_items_of), sl_items_of⟩)
    (c_items_of : PySem.W.codeIn K cd_items_of "items_of" = true)
    (k_items_of : PySem.W.keepIn K (.ref f_items_of) = true)
    (a_integer_of : PySem.W.nsIn K mainGlobals "integer_of" = some (some (.ref f_integer_of)))
    (l_integer_of : K.lookup f_integer_of = some ⟨oc_integer_of, od_integer_of, .func (PySem.W.fnOf "integer_of" "integer_of" (defArgs s_integer_of) (defBody s_integer_of) (defScope s_integer_of) .none kV_integer_of dc_integer_of pm_integer_of an_integer_of cd_integer_of ct_integer_of), sl_integer_of⟩)
    (c_integer_of : PySem.W.codeIn K cd_integer_of "integer_of" = true)
    (k_integer_of : PySem.W.keepIn K (.ref f_integer_of) = true)
    (a_item_at : PySem.W.nsIn K mainGlobals "item_at" = some (some (.ref f_item_at)))
    (l_item_at : K.lookup f_item_at = some ⟨oc_item_at, od_item_at, .func (PySem.W.fnOf "item_at" "item_at" (defArgs s_item_at) (defBody s_item_at) (defScope s_item_at) .none kV_item_at dc_item_at pm_item_at an_item_at cd_item_at ct_item_at), sl_item_at⟩)
    (c_item_at : PySem.W.codeIn K cd_item_at "item_at" = true)
    (k_item_at : PySem.W.keepIn K (.ref f_item_at) = true)
    (a_integer_at : PySem.W.nsIn K mainGlobals "integer_at" = some (some (.ref f_integer_at)))
    (l_integer_at : K.lookup f_integer_at = some ⟨oc_integer_at, od_integer_at, .func (PySem.W.fnOf "integer_at" "integer_at" (defArgs s_integer_at) (defBody s_integer_at) (defScope s_integer_at) .none kV_integer_at dc_integer_at pm_integer_at an_integer_at cd_integer_at ct_integer_at), sl_integer_at⟩)
    (c_integer_at : PySem.W.codeIn K cd_integer_at "integer_at" = true)
    (k_integer_at : PySem.W.keepIn K (.ref f_integer_at) = true)
    (a_need_end : PySem.W.nsIn K mainGlobals "need_end" = some (some (.ref f_need_end)))
    (l_need_end : K.lookup f_need_end = some ⟨oc_need_end, od_need_end, .func (PySem.W.fnOf "need_end" "need_end" (defArgs s_need_end) (defBody s_need_end) (defScope s_need_end) .none kV_need_end dc_need_end pm_need_end an_need_end cd_need_end ct_need_end), sl_need_end⟩)
    (c_need_end : PySem.W.codeIn K cd_need_end "need_end" = true)
    (k_need_end : PySem.W.keepIn K (.ref f_need_end) = true)
    (a__is_meaning : PySem.W.nsIn K mainGlobals "_is_meaning" = some (some (.ref f__is_meaning)))
    (l__is_meaning : K.lookup f__is_meaning = some ⟨oc__is_meaning, od__is_meaning, .func (PySem.W.fnOf "_is_meaning" "_is_meaning" (defArgs s__is_meaning) (defBody s__is_meaning) (defScope s__is_meaning) .none kV__is_meaning dc__is_meaning pm__is_meaning an__is_meaning cd__is_meaning ct__is_meaning), sl__is_meaning⟩)
    (c__is_meaning : PySem.W.codeIn K cd__is_meaning "_is_meaning" = true)
    (k__is_meaning : PySem.W.keepIn K (.ref f__is_meaning) = true)
    (a__meaning_at : PySem.W.nsIn K mainGlobals "_meaning_at" = some (some (.ref f__meaning_at)))
    (l__meaning_at : K.lookup f__meaning_at = some ⟨oc__meaning_at, od__meaning_at, .func (PySem.W.fnOf "_meaning_at" "_meaning_at" (defArgs s__meaning_at) (defBody s__meaning_at) (defScope s__meaning_at) .none kV__meaning_at dc__meaning_at pm__meaning_at an__meaning_at cd__meaning_at ct__meaning_at), sl__meaning_at⟩)
    (c__meaning_at : PySem.W.codeIn K cd__meaning_at "_meaning_at" = true)
    (k__meaning_at : PySem.W.keepIn K (.ref f__meaning_at) = true)
    (a_need_layout : PySem.W.nsIn K mainGlobals "need_layout" = some (some (.ref f_need_layout)))
    (l_need_layout : K.lookup f_need_layout = some ⟨oc_need_layout, od_need_layout, .func (PySem.W.fnOf "need_layout" "need_layout" (defArgs s_need_layout) (defBody s_need_layout) (defScope s_need_layout) .none kV_need_layout dc_need_layout pm_need_layout an_need_layout cd_need_layout ct_need_layout), sl_need_layout⟩)
    (c_need_layout : PySem.W.codeIn K cd_need_layout "need_layout" = true)
    (k_need_layout : PySem.W.keepIn K (.ref f_need_layout) = true)
    (a_need_word_of : PySem.W.nsIn K mainGlobals "need_word_of" = some (some (.ref f_need_word_of)))
    (l_need_word_of : K.lookup f_need_word_of = some ⟨oc_need_word_of, od_need_word_of, .func (PySem.W.fnOf "need_word_of" "need_word_of" (defArgs s_need_word_of) (defBody s_need_word_of) (defScope s_need_word_of) .none kV_need_word_of dc_need_word_of pm_need_word_of an_need_word_of cd_need_word_of ct_need_word_of), sl_need_word_of⟩)
    (c_need_word_of : PySem.W.codeIn K cd_need_word_of "need_word_of" = true)
    (k_need_word_of : PySem.W.keepIn K (.ref f_need_word_of) = true)
    (a_meaning_of : PySem.W.nsIn K mainGlobals "meaning_of" = some (some (.ref f_meaning_of)))
    (l_meaning_of : K.lookup f_meaning_of = some ⟨oc_meaning_of, od_meaning_of, .func (PySem.W.fnOf "meaning_of" "meaning_of" (defArgs s_meaning_of) (defBody s_meaning_of) (defScope s_meaning_of) .none kV_meaning_of dc_meaning_of pm_meaning_of an_meaning_of cd_meaning_of ct_meaning_of), sl_meaning_of⟩)
    (c_meaning_of : PySem.W.codeIn K cd_meaning_of "meaning_of" = true)
    (k_meaning_of : PySem.W.keepIn K (.ref f_meaning_of) = true)
    (a_beside_layout : PySem.W.nsIn K mainGlobals "beside_layout" = some (some (.ref f_beside_layout)))
    (l_beside_layout : K.lookup f_beside_layout = some ⟨oc_beside_layout, od_beside_layout, .func (PySem.W.fnOf "beside_layout" "beside_layout" (defArgs s_beside_layout) (defBody s_beside_layout) (defScope s_beside_layout) .none kV_beside_layout dc_beside_layout pm_beside_layout an_beside_layout cd_beside_layout ct_beside_layout), sl_beside_layout⟩)
    (c_beside_layout : PySem.W.codeIn K cd_beside_layout "beside_layout" = true)
    (k_beside_layout : PySem.W.keepIn K (.ref f_beside_layout) = true)
    (a__put_beside : PySem.W.nsIn K mainGlobals "_put_beside" = some (some (.ref f__put_beside)))
    (l__put_beside : K.lookup f__put_beside = some ⟨oc__put_beside, od__put_beside, .func (PySem.W.fnOf "_put_beside" "_put_beside" (defArgs s__put_beside) (defBody s__put_beside) (defScope s__put_beside) .none kV__put_beside dc__put_beside pm__put_beside an__put_beside cd__put_beside ct__put_beside), sl__put_beside⟩)
    (c__put_beside : PySem.W.codeIn K cd__put_beside "_put_beside" = true)
    (k__put_beside : PySem.W.keepIn K (.ref f__put_beside) = true)
    (a__means_from : PySem.W.nsIn K mainGlobals "_means_from" = some (some (.ref f__means_from)))
    (l__means_from : K.lookup f__means_from = some ⟨oc__means_from, od__means_from, .func (PySem.W.fnOf "_means_from" "_means_from" (defArgs s__means_from) (defBody s__means_from) (defScope s__means_from) .none kV__means_from dc__means_from pm__means_from an__means_from cd__means_from ct__means_from), sl__means_from⟩)
    (c__means_from : PySem.W.codeIn K cd__means_from "_means_from" = true)
    (k__means_from : PySem.W.keepIn K (.ref f__means_from) = true)
    (a__law_fold : PySem.W.nsIn K mainGlobals "_law_fold" = some (some (.ref f__law_fold)))
    (l__law_fold : K.lookup f__law_fold = some ⟨oc__law_fold, od__law_fold, .func (PySem.W.fnOf "_law_fold" "_law_fold" (defArgs s__law_fold) (defBody s__law_fold) (defScope s__law_fold) .none kV__law_fold dc__law_fold pm__law_fold an__law_fold cd__law_fold ct__law_fold), sl__law_fold⟩)
    (c__law_fold : PySem.W.codeIn K cd__law_fold "_law_fold" = true)
    (k__law_fold : PySem.W.keepIn K (.ref f__law_fold) = true)
    (a__law_herd : PySem.W.nsIn K mainGlobals "_law_herd" = some (some (.ref f__law_herd)))
    (l__law_herd : K.lookup f__law_herd = some ⟨oc__law_herd, od__law_herd, .func (PySem.W.fnOf "_law_herd" "_law_herd" (defArgs s__law_herd) (defBody s__law_herd) (defScope s__law_herd) .none kV__law_herd dc__law_herd pm__law_herd an__law_herd cd__law_herd ct__law_herd), sl__law_herd⟩)
    (c__law_herd : PySem.W.codeIn K cd__law_herd "_law_herd" = true)
    (k__law_herd : PySem.W.keepIn K (.ref f__law_herd) = true)
    (a__law_one : PySem.W.nsIn K mainGlobals "_law_one" = some (some (.ref f__law_one)))
    (l__law_one : K.lookup f__law_one = some ⟨oc__law_one, od__law_one, .func (PySem.W.fnOf "_law_one" "_law_one" (defArgs s__law_one) (defBody s__law_one) (defScope s__law_one) .none kV__law_one dc__law_one pm__law_one an__law_one cd__law_one ct__law_one), sl__law_one⟩)
    (c__law_one : PySem.W.codeIn K cd__law_one "_law_one" = true)
    (k__law_one : PySem.W.keepIn K (.ref f__law_one) = true)
    (a__law_heard : PySem.W.nsIn K mainGlobals "_law_heard" = some (some (.ref f__law_heard)))
    (l__law_heard : K.lookup f__law_heard = some ⟨oc__law_heard, od__law_heard, .func (PySem.W.fnOf "_law_heard" "_law_heard" (defArgs s__law_heard) (defBody s__law_heard) (defScope s__law_heard) .none kV__law_heard dc__law_heard pm__law_heard an__law_heard cd__law_heard ct__law_heard), sl__law_heard⟩)
    (c__law_heard : PySem.W.codeIn K cd__law_heard "_law_heard" = true)
    (k__law_heard : PySem.W.keepIn K (.ref f__law_heard) = true)
    (a__law_means : PySem.W.nsIn K mainGlobals "_law_means" = some (some (.ref f__law_means)))
    (l__law_means : K.lookup f__law_means = some ⟨oc__law_means, od__law_means, .func (PySem.W.fnOf "_law_means" "_law_means" (defArgs s__law_means) (defBody s__law_means) (defScope s__law_means) .none kV__law_means dc__law_means pm__law_means an__law_means cd__law_means ct__law_means), sl__law_means⟩)
    (c__law_means : PySem.W.codeIn K cd__law_means "_law_means" = true)
    (k__law_means : PySem.W.keepIn K (.ref f__law_means) = true)
    (a__law_due : PySem.W.nsIn K mainGlobals "_law_due" = some (some (.ref f__law_due)))
    (l__law_due : K.lookup f__law_due = some ⟨oc__law_due, od__law_due, .func (PySem.W.fnOf "_law_due" "_law_due" (defArgs s__law_due) (defBody s__law_due) (defScope s__law_due) .none kV__law_due dc__law_due pm__law_due an__law_due cd__law_due ct__law_due), sl__law_due⟩)
    (c__law_due : PySem.W.codeIn K cd__law_due "_law_due" = true)
    (k__law_due : PySem.W.keepIn K (.ref f__law_due) = true)
    (a__law_pair_right : PySem.W.nsIn K mainGlobals "_law_pair_right" = some (some (.ref f__law_pair_right)))
    (l__law_pair_right : K.lookup f__law_pair_right = some ⟨oc__law_pair_right, od__law_pair_right, .func (PySem.W.fnOf "_law_pair_right" "_law_pair_right" (defArgs s__law_pair_right) (defBody s__law_pair_right) (defScope s__law_pair_right) .none kV__law_pair_right dc__law_pair_right pm__law_pair_right an__law_pair_right (.ref c2) ct__law_pair_right), sl__law_pair_right⟩)
    (c__law_pair_right : PySem.W.codeIn K (.ref c2) "_law_pair_right" = true)
    (k__law_pair_right : PySem.W.keepIn K (.ref f__law_pair_right) = true)
    (a__law_three_right : PySem.W.nsIn K mainGlobals "_law_three_right" = some (some (.ref f__law_three_right)))
    (l__law_three_right : K.lookup f__law_three_right = some ⟨oc__law_three_right, od__law_three_right, .func (PySem.W.fnOf "_law_three_right" "_law_three_right" (defArgs s__law_three_right) (defBody s__law_three_right) (defScope s__law_three_right) .none kV__law_three_right dc__law_three_right pm__law_three_right an__law_three_right cd__law_three_right ct__law_three_right), sl__law_three_right⟩)
    (c__law_three_right : PySem.W.codeIn K cd__law_three_right "_law_three_right" = true)
    (k__law_three_right : PySem.W.keepIn K (.ref f__law_three_right) = true)
    (a_law : PySem.W.nsIn K mainGlobals "law" = some (some (.ref f_law)))
    (l_law : K.lookup f_law = some ⟨oc_law, od_law, .func (PySem.W.fnOf "law" "law" (defArgs s_law) (defBody s_law) (defScope s_law) .none kV_law dc_law pm_law an_law (.ref c1) ct_law), sl_law⟩)
    (c_law : PySem.W.codeIn K (.ref c1) "law" = true)
    (k_law : PySem.W.keepIn K (.ref f_law) = true)
    (aF : PySem.W.nsIn K mainGlobals "FlipError" = some (some (.ref CF)))
    (eF : PySem.W.subIn K (.ref CF) (.type "BaseException") = some true)
    (dF : PySem.W.hasDictIn K CF = true)
    (tF : PySem.W.typeIn K (.ref CF) = some (.type "type"))
    (a_BadNumber : PySem.W.nsIn K mainGlobals "BadNumber" = some (some (.ref C_BadNumber)))
    (x_BadNumber : K.lookup C_BadNumber = some (excClassObj nm_BadNumber q_BadNumber C_BadNumber N_BadNumber bs_BadNumber [.ref CF, .type "ValueError", .type "Exception", .type "BaseException", .type "object"] true sn_BadNumber sub_BadNumber ab_BadNumber col_BadNumber dd_BadNumber m0_BadNumber m1_BadNumber m2_BadNumber m3_BadNumber m5_BadNumber "ValueError.__new__"))
    (sa_BadNumber : PySem.W.findIn K (.ref C_BadNumber) "__setattr__" = some (some (.builtin "object.__setattr__")))
    (e_BadNumber : PySem.W.subIn K (.ref C_BadNumber) (.type "BaseException") = some true)
    (t_BadNumber : PySem.W.typeIn K (.ref C_BadNumber) = some (.type "type"))
    (k_BadNumber : PySem.W.keepIn K (.ref C_BadNumber) = true)
    (i_BadNumber : PySem.W.findIn K (.ref C_BadNumber) "__init__" = some (some (.ref fi_BadNumber)))
    (ti_BadNumber : PySem.W.typeIn K (.ref fi_BadNumber) = some (.type "function"))
    (li_BadNumber : K.lookup fi_BadNumber = some ⟨oi_BadNumber, odi_BadNumber, .func (PySem.W.fnOf "__init__" "BadNumber.__init__" (defArgs s_init_BadNumber) (defBody s_init_BadNumber) (defScope s_init_BadNumber) .none kVi_BadNumber dci_BadNumber pmi_BadNumber ani_BadNumber cdi_BadNumber cti_BadNumber), sli_BadNumber⟩)
    (ci_BadNumber : PySem.W.codeIn K cdi_BadNumber "BadNumber.__init__" = true)
    (ki_BadNumber : PySem.W.keepIn K (.ref fi_BadNumber) = true)
    (no_BadNumber_part : PySem.W.findIn K (.ref C_BadNumber) "part" = some none)
    (ga_BadNumber : PySem.W.findIn K (.ref C_BadNumber) "__getattribute__" = some (some (.builtin "BaseException.__getattribute__")))
    (gg_BadNumber : PySem.W.findIn K (.ref C_BadNumber) "__getattr__" = some none)
    (hd_BadNumber : PySem.W.hasDictIn K C_BadNumber = true)
    (ha_BadNumber : PySem.W.findIn K (.ref C_BadNumber) "__class__" = some (some (.builtin "object.__class__")))
    (hm_BadNumber : PySem.W.mroIn K C_BadNumber (.type "object") = some true)
    (sf_BadNumber : PySem.W.subIn K (.ref C_BadNumber) (.ref CF) = some true)
    (is_BadNumber : PySem.W.isClsIn K C_BadNumber = true)
    (z_BadNumber : PySem.W.subIn K (.type "NoneType") (.ref C_BadNumber) = some false)
    (a_BadWord : PySem.W.nsIn K mainGlobals "BadWord" = some (some (.ref C_BadWord)))
    (x_BadWord : K.lookup C_BadWord = some (excClassObj nm_BadWord q_BadWord C_BadWord N_BadWord bs_BadWord [.ref CF, .type "ValueError", .type "Exception", .type "BaseException", .type "object"] true sn_BadWord sub_BadWord ab_BadWord col_BadWord dd_BadWord m0_BadWord m1_BadWord m2_BadWord m3_BadWord m5_BadWord "ValueError.__new__"))
    (sa_BadWord : PySem.W.findIn K (.ref C_BadWord) "__setattr__" = some (some (.builtin "object.__setattr__")))
    (e_BadWord : PySem.W.subIn K (.ref C_BadWord) (.type "BaseException") = some true)
    (t_BadWord : PySem.W.typeIn K (.ref C_BadWord) = some (.type "type"))
    (k_BadWord : PySem.W.keepIn K (.ref C_BadWord) = true)
    (i_BadWord : PySem.W.findIn K (.ref C_BadWord) "__init__" = some (some (.ref fi_BadWord)))
    (ti_BadWord : PySem.W.typeIn K (.ref fi_BadWord) = some (.type "function"))
    (li_BadWord : K.lookup fi_BadWord = some ⟨oi_BadWord, odi_BadWord, .func (PySem.W.fnOf "__init__" "BadWord.__init__" (defArgs s_init_BadWord) (defBody s_init_BadWord) (defScope s_init_BadWord) .none kVi_BadWord dci_BadWord pmi_BadWord ani_BadWord cdi_BadWord cti_BadWord), sli_BadWord⟩)
    (ci_BadWord : PySem.W.codeIn K cdi_BadWord "BadWord.__init__" = true)
    (ki_BadWord : PySem.W.keepIn K (.ref fi_BadWord) = true)
    (no_BadWord_part : PySem.W.findIn K (.ref C_BadWord) "part" = some none)
    (ga_BadWord : PySem.W.findIn K (.ref C_BadWord) "__getattribute__" = some (some (.builtin "BaseException.__getattribute__")))
    (gg_BadWord : PySem.W.findIn K (.ref C_BadWord) "__getattr__" = some none)
    (hd_BadWord : PySem.W.hasDictIn K C_BadWord = true)
    (ha_BadWord : PySem.W.findIn K (.ref C_BadWord) "__class__" = some (some (.builtin "object.__class__")))
    (hm_BadWord : PySem.W.mroIn K C_BadWord (.type "object") = some true)
    (sf_BadWord : PySem.W.subIn K (.ref C_BadWord) (.ref CF) = some true)
    (is_BadWord : PySem.W.isClsIn K C_BadWord = true)
    (z_BadWord : PySem.W.subIn K (.type "NoneType") (.ref C_BadWord) = some false)
    (a_BadLayout : PySem.W.nsIn K mainGlobals "BadLayout" = some (some (.ref C_BadLayout)))
    (x_BadLayout : K.lookup C_BadLayout = some (excClassObj nm_BadLayout q_BadLayout C_BadLayout N_BadLayout bs_BadLayout [.ref CF, .type "ValueError", .type "Exception", .type "BaseException", .type "object"] true sn_BadLayout sub_BadLayout ab_BadLayout col_BadLayout dd_BadLayout m0_BadLayout m1_BadLayout m2_BadLayout m3_BadLayout m5_BadLayout "ValueError.__new__"))
    (sa_BadLayout : PySem.W.findIn K (.ref C_BadLayout) "__setattr__" = some (some (.builtin "object.__setattr__")))
    (e_BadLayout : PySem.W.subIn K (.ref C_BadLayout) (.type "BaseException") = some true)
    (t_BadLayout : PySem.W.typeIn K (.ref C_BadLayout) = some (.type "type"))
    (k_BadLayout : PySem.W.keepIn K (.ref C_BadLayout) = true)
    (i_BadLayout : PySem.W.findIn K (.ref C_BadLayout) "__init__" = some (some (.ref fi_BadLayout)))
    (ti_BadLayout : PySem.W.typeIn K (.ref fi_BadLayout) = some (.type "function"))
    (li_BadLayout : K.lookup fi_BadLayout = some ⟨oi_BadLayout, odi_BadLayout, .func (PySem.W.fnOf "__init__" "BadLayout.__init__" (defArgs s_init_BadLayout) (defBody s_init_BadLayout) (defScope s_init_BadLayout) .none kVi_BadLayout dci_BadLayout pmi_BadLayout ani_BadLayout cdi_BadLayout cti_BadLayout), sli_BadLayout⟩)
    (ci_BadLayout : PySem.W.codeIn K cdi_BadLayout "BadLayout.__init__" = true)
    (ki_BadLayout : PySem.W.keepIn K (.ref fi_BadLayout) = true)
    (no_BadLayout_part : PySem.W.findIn K (.ref C_BadLayout) "part" = some none)
    (ga_BadLayout : PySem.W.findIn K (.ref C_BadLayout) "__getattribute__" = some (some (.builtin "BaseException.__getattribute__")))
    (gg_BadLayout : PySem.W.findIn K (.ref C_BadLayout) "__getattr__" = some none)
    (hd_BadLayout : PySem.W.hasDictIn K C_BadLayout = true)
    (ha_BadLayout : PySem.W.findIn K (.ref C_BadLayout) "__class__" = some (some (.builtin "object.__class__")))
    (hm_BadLayout : PySem.W.mroIn K C_BadLayout (.type "object") = some true)
    (sf_BadLayout : PySem.W.subIn K (.ref C_BadLayout) (.ref CF) = some true)
    (is_BadLayout : PySem.W.isClsIn K C_BadLayout = true)
    (z_BadLayout : PySem.W.subIn K (.type "NoneType") (.ref C_BadLayout) = some false)
    (a_Misfit : PySem.W.nsIn K mainGlobals "Misfit" = some (some (.ref C_Misfit)))
    (x_Misfit : K.lookup C_Misfit = some (excClassObj nm_Misfit q_Misfit C_Misfit N_Misfit bs_Misfit [.ref CF, .type "ValueError", .type "Exception", .type "BaseException", .type "object"] true sn_Misfit sub_Misfit ab_Misfit col_Misfit dd_Misfit m0_Misfit m1_Misfit m2_Misfit m3_Misfit m5_Misfit "ValueError.__new__"))
    (sa_Misfit : PySem.W.findIn K (.ref C_Misfit) "__setattr__" = some (some (.builtin "object.__setattr__")))
    (e_Misfit : PySem.W.subIn K (.ref C_Misfit) (.type "BaseException") = some true)
    (t_Misfit : PySem.W.typeIn K (.ref C_Misfit) = some (.type "type"))
    (k_Misfit : PySem.W.keepIn K (.ref C_Misfit) = true)
    (i_Misfit : PySem.W.findIn K (.ref C_Misfit) "__init__" = some (some (.ref fi_Misfit)))
    (ti_Misfit : PySem.W.typeIn K (.ref fi_Misfit) = some (.type "function"))
    (li_Misfit : K.lookup fi_Misfit = some ⟨oi_Misfit, odi_Misfit, .func (PySem.W.fnOf "__init__" "Misfit.__init__" (defArgs s_init_Misfit) (defBody s_init_Misfit) (defScope s_init_Misfit) .none kVi_Misfit dci_Misfit pmi_Misfit ani_Misfit cdi_Misfit cti_Misfit), sli_Misfit⟩)
    (ci_Misfit : PySem.W.codeIn K cdi_Misfit "Misfit.__init__" = true)
    (ki_Misfit : PySem.W.keepIn K (.ref fi_Misfit) = true)
    (no_Misfit_part : PySem.W.findIn K (.ref C_Misfit) "part" = some none)
    (ga_Misfit : PySem.W.findIn K (.ref C_Misfit) "__getattribute__" = some (some (.builtin "BaseException.__getattribute__")))
    (gg_Misfit : PySem.W.findIn K (.ref C_Misfit) "__getattr__" = some none)
    (hd_Misfit : PySem.W.hasDictIn K C_Misfit = true)
    (ha_Misfit : PySem.W.findIn K (.ref C_Misfit) "__class__" = some (some (.builtin "object.__class__")))
    (hm_Misfit : PySem.W.mroIn K C_Misfit (.type "object") = some true)
    (sf_Misfit : PySem.W.subIn K (.ref C_Misfit) (.ref CF) = some true)
    (is_Misfit : PySem.W.isClsIn K C_Misfit = true)
    (z_Misfit : PySem.W.subIn K (.type "NoneType") (.ref C_Misfit) = some false)
    (a_BadText : PySem.W.nsIn K mainGlobals "BadText" = some (some (.ref C_BadText)))
    (x_BadText : K.lookup C_BadText = some (excClassObj nm_BadText q_BadText C_BadText N_BadText bs_BadText [.ref CF, .type "ValueError", .type "Exception", .type "BaseException", .type "object"] true sn_BadText sub_BadText ab_BadText col_BadText dd_BadText m0_BadText m1_BadText m2_BadText m3_BadText m5_BadText "ValueError.__new__"))
    (sa_BadText : PySem.W.findIn K (.ref C_BadText) "__setattr__" = some (some (.builtin "object.__setattr__")))
    (e_BadText : PySem.W.subIn K (.ref C_BadText) (.type "BaseException") = some true)
    (t_BadText : PySem.W.typeIn K (.ref C_BadText) = some (.type "type"))
    (k_BadText : PySem.W.keepIn K (.ref C_BadText) = true)
    (i_BadText : PySem.W.findIn K (.ref C_BadText) "__init__" = some (some (.ref fi_BadText)))
    (ti_BadText : PySem.W.typeIn K (.ref fi_BadText) = some (.type "function"))
    (li_BadText : K.lookup fi_BadText = some ⟨oi_BadText, odi_BadText, .func (PySem.W.fnOf "__init__" "BadText.__init__" (defArgs s_init_BadText) (defBody s_init_BadText) (defScope s_init_BadText) .none kVi_BadText dci_BadText pmi_BadText ani_BadText cdi_BadText cti_BadText), sli_BadText⟩)
    (ci_BadText : PySem.W.codeIn K cdi_BadText "BadText.__init__" = true)
    (ki_BadText : PySem.W.keepIn K (.ref fi_BadText) = true)
    (no_BadText_line : PySem.W.findIn K (.ref C_BadText) "line" = some none)
    (no_BadText_item : PySem.W.findIn K (.ref C_BadText) "item" = some none)
    (ga_BadText : PySem.W.findIn K (.ref C_BadText) "__getattribute__" = some (some (.builtin "BaseException.__getattribute__")))
    (gg_BadText : PySem.W.findIn K (.ref C_BadText) "__getattr__" = some none)
    (hd_BadText : PySem.W.hasDictIn K C_BadText = true)
    (ha_BadText : PySem.W.findIn K (.ref C_BadText) "__class__" = some (some (.builtin "object.__class__")))
    (hm_BadText : PySem.W.mroIn K C_BadText (.type "object") = some true)
    (sf_BadText : PySem.W.subIn K (.ref C_BadText) (.ref CF) = some true)
    (is_BadText : PySem.W.isClsIn K C_BadText = true)
    (z_BadText : PySem.W.subIn K (.type "NoneType") (.ref C_BadText) = some false)
    (sub_BadNumber_BadNumber : PySem.W.subIn K (.ref C_BadNumber) (.ref C_BadNumber) = some true)
    (sub_BadNumber_BadWord : PySem.W.subIn K (.ref C_BadNumber) (.ref C_BadWord) = some false)
    (sub_BadNumber_BadLayout : PySem.W.subIn K (.ref C_BadNumber) (.ref C_BadLayout) = some false)
    (sub_BadNumber_Misfit : PySem.W.subIn K (.ref C_BadNumber) (.ref C_Misfit) = some false)
    (sub_BadNumber_BadText : PySem.W.subIn K (.ref C_BadNumber) (.ref C_BadText) = some false)
    (sub_BadWord_BadNumber : PySem.W.subIn K (.ref C_BadWord) (.ref C_BadNumber) = some false)
    (sub_BadWord_BadWord : PySem.W.subIn K (.ref C_BadWord) (.ref C_BadWord) = some true)
    (sub_BadWord_BadLayout : PySem.W.subIn K (.ref C_BadWord) (.ref C_BadLayout) = some false)
    (sub_BadWord_Misfit : PySem.W.subIn K (.ref C_BadWord) (.ref C_Misfit) = some false)
    (sub_BadWord_BadText : PySem.W.subIn K (.ref C_BadWord) (.ref C_BadText) = some false)
    (sub_BadLayout_BadNumber : PySem.W.subIn K (.ref C_BadLayout) (.ref C_BadNumber) = some false)
    (sub_BadLayout_BadWord : PySem.W.subIn K (.ref C_BadLayout) (.ref C_BadWord) = some false)
    (sub_BadLayout_BadLayout : PySem.W.subIn K (.ref C_BadLayout) (.ref C_BadLayout) = some true)
    (sub_BadLayout_Misfit : PySem.W.subIn K (.ref C_BadLayout) (.ref C_Misfit) = some false)
    (sub_BadLayout_BadText : PySem.W.subIn K (.ref C_BadLayout) (.ref C_BadText) = some false)
    (sub_Misfit_BadNumber : PySem.W.subIn K (.ref C_Misfit) (.ref C_BadNumber) = some false)
    (sub_Misfit_BadWord : PySem.W.subIn K (.ref C_Misfit) (.ref C_BadWord) = some false)
    (sub_Misfit_BadLayout : PySem.W.subIn K (.ref C_Misfit) (.ref C_BadLayout) = some false)
    (sub_Misfit_Misfit : PySem.W.subIn K (.ref C_Misfit) (.ref C_Misfit) = some true)
    (sub_Misfit_BadText : PySem.W.subIn K (.ref C_Misfit) (.ref C_BadText) = some false)
    (sub_BadText_BadNumber : PySem.W.subIn K (.ref C_BadText) (.ref C_BadNumber) = some false)
    (sub_BadText_BadWord : PySem.W.subIn K (.ref C_BadText) (.ref C_BadWord) = some false)
    (sub_BadText_BadLayout : PySem.W.subIn K (.ref C_BadText) (.ref C_BadLayout) = some false)
    (sub_BadText_Misfit : PySem.W.subIn K (.ref C_BadText) (.ref C_Misfit) = some false)
    (sub_BadText_BadText : PySem.W.subIn K (.ref C_BadText) (.ref C_BadText) = some true)
    (spn : PySem.W.specialIn K (.builtin "object.__class__") "__get__" = some (some (.builtin "getset_descriptor.__get__")))
    (tkn : PySem.W.takesIn K (.builtin "object.__class__") = some true)
    (a_MOST_DIGITS : PySem.W.nsIn K mainGlobals "MOST_DIGITS" = some (some (.int 140 t_MOST_DIGITS)))
    (a_MOST_BITS : PySem.W.nsIn K mainGlobals "MOST_BITS" = some (some (.int 8 t_MOST_BITS)))
    (a_MOST_STATE : PySem.W.nsIn K mainGlobals "MOST_STATE" = some (some (.int 63 t_MOST_STATE)))
    (a_NOTHING : PySem.W.nsIn K mainGlobals "NOTHING" = some (some (.str "-" t_NOTHING)))
    (a_MOST_STATES : PySem.W.nsIn K mainGlobals "MOST_STATES" = some (some (.int 64 t_MOST_STATES)))
    (n_abs : PySem.W.nsIn K mainGlobals "abs" = some none)
    (n_all : PySem.W.nsIn K mainGlobals "all" = some none)
    (n_any : PySem.W.nsIn K mainGlobals "any" = some none)
    (n_bool : PySem.W.nsIn K mainGlobals "bool" = some none)
    (n_int : PySem.W.nsIn K mainGlobals "int" = some none)
    (n_isinstance : PySem.W.nsIn K mainGlobals "isinstance" = some none)
    (n_len : PySem.W.nsIn K mainGlobals "len" = some none)
    (n_list : PySem.W.nsIn K mainGlobals "list" = some none)
    (n_max : PySem.W.nsIn K mainGlobals "max" = some none)
    (n_min : PySem.W.nsIn K mainGlobals "min" = some none)
    (n_range : PySem.W.nsIn K mainGlobals "range" = some none)
    (n_repr : PySem.W.nsIn K mainGlobals "repr" = some none)
    (n_str : PySem.W.nsIn K mainGlobals "str" = some none)
    (n_tuple : PySem.W.nsIn K mainGlobals "tuple" = some none)
    (aC_Layout : PySem.W.nsIn K mainGlobals "Layout" = some (some (.ref C_Layout)))
    (pg_Layout : PySem.W.plainGet K C_Layout Str.empty = true)
    (hdC_Layout : PySem.W.hasDictIn K C_Layout = true)
    (po_Layout : PySem.W.plainOver K C_Layout = true)
    (saC_Layout : PySem.W.findIn K (.ref C_Layout) "__setattr__" = some (some (.builtin "object.__setattr__")))
    (mkC_Layout : PySem.W.makesIn K C_Layout = true)
    (kcC_Layout : PySem.W.keepIn K (.ref C_Layout) = true)
    (haC_Layout : PySem.W.findIn K (.ref C_Layout) "__class__" = some (some (.builtin "object.__class__")))
    (hmC_Layout : PySem.W.mroIn K C_Layout (.type "object") = some true)
    (isC_Layout : PySem.W.isClsIn K C_Layout = true)
    (tyC_Layout : PySem.W.typeIn K (.ref C_Layout) = some (.type "type"))
    (sfC_Layout : PySem.W.subIn K (.ref C_Layout) (.ref C_Layout) = some true)
    (suNoneType_Layout : PySem.W.subIn K (.type "NoneType") (.ref C_Layout) = some false)
    (suint_Layout : PySem.W.subIn K (.type "int") (.ref C_Layout) = some false)
    (subool_Layout : PySem.W.subIn K (.type "bool") (.ref C_Layout) = some false)
    (sustr_Layout : PySem.W.subIn K (.type "str") (.ref C_Layout) = some false)
    (sulist_Layout : PySem.W.subIn K (.type "list") (.ref C_Layout) = some false)
    (sutuple_Layout : PySem.W.subIn K (.type "tuple") (.ref C_Layout) = some false)
    (sudict_Layout : PySem.W.subIn K (.type "dict") (.ref C_Layout) = some false)
    (nC_Layout_bits : PySem.W.findIn K (.ref C_Layout) "bits" = some none)
    (nC_Layout_means : PySem.W.findIn K (.ref C_Layout) "means" = some none)
    (fi_Layout_init : PySem.W.findIn K (.ref C_Layout) "__init__" = some (some (.ref f_Layout_init)))
    (if_Layout_init : PySem.W.isFn K (.ref f_Layout_init) = true)
    (l_Layout_init : K.lookup f_Layout_init = some ⟨oc_Layout_init, od_Layout_init, .func (PySem.W.fnOf "__init__" "Layout.__init__" (defArgs s_Layout_init) (defBody s_Layout_init) (defScope s_Layout_init) .none kV_Layout_init dc_Layout_init pm_Layout_init an_Layout_init cd_Layout_init ct_Layout_init), sl_Layout_init⟩)
    (c_Layout_init : PySem.W.codeIn K cd_Layout_init "Layout.__init__" = true)
    (k_Layout_init : PySem.W.keepIn K (.ref f_Layout_init) = true)
    (fi_Layout_eq : PySem.W.findIn K (.ref C_Layout) "__eq__" = some (some (.ref f_Layout_eq)))
    (if_Layout_eq : PySem.W.isFn K (.ref f_Layout_eq) = true)
    (l_Layout_eq : K.lookup f_Layout_eq = some ⟨oc_Layout_eq, od_Layout_eq, .func (PySem.W.fnOf "__eq__" "Layout.__eq__" (defArgs s_Layout_eq) (defBody s_Layout_eq) (defScope s_Layout_eq) .none kV_Layout_eq dc_Layout_eq pm_Layout_eq an_Layout_eq cd_Layout_eq ct_Layout_eq), sl_Layout_eq⟩)
    (c_Layout_eq : PySem.W.codeIn K cd_Layout_eq "Layout.__eq__" = true)
    (k_Layout_eq : PySem.W.keepIn K (.ref f_Layout_eq) = true)
    (ne_Layout : PySem.W.findIn K (.ref C_Layout) "__ne__" = some (some (.builtin "object.__ne__")))
    (fi_Layout_str : PySem.W.findIn K (.ref C_Layout) "__str__" = some (some (.ref f_Layout_str)))
    (if_Layout_str : PySem.W.isFn K (.ref f_Layout_str) = true)
    (l_Layout_str : K.lookup f_Layout_str = some ⟨oc_Layout_str, od_Layout_str, .func (PySem.W.fnOf "__str__" "Layout.__str__" (defArgs s_Layout_str) (defBody s_Layout_str) (defScope s_Layout_str) .none kV_Layout_str dc_Layout_str pm_Layout_str an_Layout_str cd_Layout_str ct_Layout_str), sl_Layout_str⟩)
    (c_Layout_str : PySem.W.codeIn K cd_Layout_str "Layout.__str__" = true)
    (k_Layout_str : PySem.W.keepIn K (.ref f_Layout_str) = true)
    (sm_Layout_read : PySem.W.findCls K (.ref C_Layout) (.type "type") "read" = some (.get (.builtin "staticmethod.__get__") (.ref p_Layout_read) .none (.ref C_Layout)))
    (rc_Layout_read : PySem.W.recIn K p_Layout_read "staticmethod" = some (.ref f_Layout_read :: rs_Layout_read))
    (l_Layout_read : K.lookup f_Layout_read = some ⟨oc_Layout_read, od_Layout_read, .func (PySem.W.fnOf "read" "Layout.read" (defArgs s_Layout_read) (defBody s_Layout_read) (defScope s_Layout_read) .none kV_Layout_read dc_Layout_read pm_Layout_read an_Layout_read cd_Layout_read ct_Layout_read), sl_Layout_read⟩)
    (c_Layout_read : PySem.W.codeIn K cd_Layout_read "Layout.read" = true)
    (k_Layout_read : PySem.W.keepIn K (.ref f_Layout_read) = true)
    (rdC_Layout : PySem.W.readsIn K C_Layout (.type "type") = true)
    (gaC_Layout : PySem.W.specialIn K (.ref C_Layout) "__getattribute__" = some (some (.builtin "type.__getattribute__")))
    (l_code1 : K.lookup c1 = some ⟨.type "code", odC1, .fields vsC1, slC1⟩)
    (v111 : vsC1[11]? = some (.ref Pt1))
    (hdc1 : PySem.W.codeHdIn K c1 Pt1 = true)
    (kPt1 : K.lookup Pt1 = none)
    (hPt1 : h.get? Pt1 = some { cls := .none, data := .fields #[] })
    (l_code2 : K.lookup c2 = some ⟨.type "code", odC2, .fields vsC2, slC2⟩)
    (v112 : vsC2[11]? = some (.ref Pt2))
    (hdc2 : PySem.W.codeHdIn K c2 Pt2 = true)
    (kPt2 : K.lookup Pt2 = none)
    (hPt2 : h.get? Pt2 = some { cls := .none, data := .fields #[] })
    (nPt : Pt1 ≠ Pt2) :
    OB.LawG l w K CX0 14 63 "script" mg fa h := by
  have efa := hfa.symm.trans (PySem.W.mg_of X G a_law)
  cases efa
  have D_is_integer : Df K mg "is_integer" s_is_integer ["value"] f_is_integer _ := ⟨fun_mk (st := s_is_integer) l_is_integer c_is_integer k_is_integer, PySem.W.mg_of X G a_is_integer, (fun_mk (st := s_is_integer) l_is_integer c_is_integer k_is_integer).binds (ps := ["value"]) fun _ _ _ _ _ _ us hl => match us, hl with | [_], _ => rfl⟩
  have D_is_within : Df K mg "is_within" s_is_within ["value", "least", "most"] f_is_within _ := ⟨fun_mk (st := s_is_within) l_is_within c_is_within k_is_within, PySem.W.mg_of X G a_is_within, (fun_mk (st := s_is_within) l_is_within c_is_within k_is_within).binds (ps := ["value", "least", "most"]) fun _ _ _ _ _ _ us hl => match us, hl with | [_, _, _], _ => rfl⟩
  have D_is_list : Df K mg "is_list" s_is_list ["value"] f_is_list _ := ⟨fun_mk (st := s_is_list) l_is_list c_is_list k_is_list, PySem.W.mg_of X G a_is_list, (fun_mk (st := s_is_list) l_is_list c_is_list k_is_list).binds (ps := ["value"]) fun _ _ _ _ _ _ us hl => match us, hl with | [_], _ => rfl⟩
  have D_need_number : Df K mg "need_number" s_need_number ["value", "part", "least", "most"] f_need_number _ := ⟨fun_mk (st := s_need_number) l_need_number c_need_number k_need_number, PySem.W.mg_of X G a_need_number, (fun_mk (st := s_need_number) l_need_number c_need_number k_need_number).binds (ps := ["value", "part", "least", "most"]) fun _ _ _ _ _ _ us hl => match us, hl with | [_, _, _, _], _ => rfl⟩
  have D_items_of : Df K mg "items_of" s_items_of ["text"] f_items_of _ := ⟨fun_mk (st := s_items_of) l_items_of c_items_of k_items_of, PySem.W.mg_of X G a_items_of, (fun_mk (st := s_items_of) l_items_of c_items_of k_items_of).binds (ps := ["text"]) fun _ _ _ _ _ _ us hl => match us, hl with | [_], _ => rfl⟩
  have D_integer_of : Df K mg "integer_of" s_integer_of ["item"] f_integer_of _ := ⟨fun_mk (st := s_integer_of) l_integer_of c_integer_of k_integer_of, PySem.W.mg_of X G a_integer_of, (fun_mk (st := s_integer_of) l_integer_of c_integer_of k_integer_of).binds (ps := ["item"]) fun _ _ _ _ _ _ us hl => match us, hl with | [_], _ => rfl⟩
  have D_item_at : Df K mg "item_at" s_item_at ["items", "at"] f_item_at _ := ⟨fun_mk (st := s_item_at) l_item_at c_item_at k_item_at, PySem.W.mg_of X G a_item_at, (fun_mk (st := s_item_at) l_item_at c_item_at k_item_at).binds (ps := ["items", "at"]) fun _ _ _ _ _ _ us hl => match us, hl with | [_, _], _ => rfl⟩
  have D_integer_at : Df K mg "integer_at" s_integer_at ["items", "at", "least", "most"] f_integer_at _ := ⟨fun_mk (st := s_integer_at) l_integer_at c_integer_at k_integer_at, PySem.W.mg_of X G a_integer_at, (fun_mk (st := s_integer_at) l_integer_at c_integer_at k_integer_at).binds (ps := ["items", "at", "least", "most"]) fun _ _ _ _ _ _ us hl => match us, hl with | [_, _, _, _], _ => rfl⟩
  have D_need_end : Df K mg "need_end" s_need_end ["items", "at"] f_need_end _ := ⟨fun_mk (st := s_need_end) l_need_end c_need_end k_need_end, PySem.W.mg_of X G a_need_end, (fun_mk (st := s_need_end) l_need_end c_need_end k_need_end).binds (ps := ["items", "at"]) fun _ _ _ _ _ _ us hl => match us, hl with | [_, _], _ => rfl⟩
  have D__is_meaning : Df K mg "_is_meaning" s__is_meaning ["value"] f__is_meaning _ := ⟨fun_mk (st := s__is_meaning) l__is_meaning c__is_meaning k__is_meaning, PySem.W.mg_of X G a__is_meaning, (fun_mk (st := s__is_meaning) l__is_meaning c__is_meaning k__is_meaning).binds (ps := ["value"]) fun _ _ _ _ _ _ us hl => match us, hl with | [_], _ => rfl⟩
  have D__meaning_at : Df K mg "_meaning_at" s__meaning_at ["items", "at"] f__meaning_at _ := ⟨fun_mk (st := s__meaning_at) l__meaning_at c__meaning_at k__meaning_at, PySem.W.mg_of X G a__meaning_at, (fun_mk (st := s__meaning_at) l__meaning_at c__meaning_at k__meaning_at).binds (ps := ["items", "at"]) fun _ _ _ _ _ _ us hl => match us, hl with | [_, _], _ => rfl⟩
  have D_need_layout : Df K mg "need_layout" s_need_layout ["value", "part"] f_need_layout _ := ⟨fun_mk (st := s_need_layout) l_need_layout c_need_layout k_need_layout, PySem.W.mg_of X G a_need_layout, (fun_mk (st := s_need_layout) l_need_layout c_need_layout k_need_layout).binds (ps := ["value", "part"]) fun _ _ _ _ _ _ us hl => match us, hl with | [_, _], _ => rfl⟩
  have D_need_word_of : Df K mg "need_word_of" s_need_word_of ["layout", "word"] f_need_word_of _ := ⟨fun_mk (st := s_need_word_of) l_need_word_of c_need_word_of k_need_word_of, PySem.W.mg_of X G a_need_word_of, (fun_mk (st := s_need_word_of) l_need_word_of c_need_word_of k_need_word_of).binds (ps := ["layout", "word"]) fun _ _ _ _ _ _ us hl => match us, hl with | [_, _], _ => rfl⟩
  have D_meaning_of : Df K mg "meaning_of" s_meaning_of ["layout", "word"] f_meaning_of _ := ⟨fun_mk (st := s_meaning_of) l_meaning_of c_meaning_of k_meaning_of, PySem.W.mg_of X G a_meaning_of, (fun_mk (st := s_meaning_of) l_meaning_of c_meaning_of k_meaning_of).binds (ps := ["layout", "word"]) fun _ _ _ _ _ _ us hl => match us, hl with | [_, _], _ => rfl⟩
  have D_beside_layout : Df K mg "beside_layout" s_beside_layout ["one", "other", "states"] f_beside_layout _ := ⟨fun_mk (st := s_beside_layout) l_beside_layout c_beside_layout k_beside_layout, PySem.W.mg_of X G a_beside_layout, (fun_mk (st := s_beside_layout) l_beside_layout c_beside_layout k_beside_layout).binds (ps := ["one", "other", "states"]) fun _ _ _ _ _ _ us hl => match us, hl with | [_, _, _], _ => rfl⟩
  have D__put_beside : Df K mg "_put_beside" s__put_beside ["low", "high", "states"] f__put_beside _ := ⟨fun_mk (st := s__put_beside) l__put_beside c__put_beside k__put_beside, PySem.W.mg_of X G a__put_beside, (fun_mk (st := s__put_beside) l__put_beside c__put_beside k__put_beside).binds (ps := ["low", "high", "states"]) fun _ _ _ _ _ _ us hl => match us, hl with | [_, _, _], _ => rfl⟩
  have D__means_from : Df K mg "_means_from" s__means_from ["means", "least"] f__means_from _ := ⟨fun_mk (st := s__means_from) l__means_from c__means_from k__means_from, PySem.W.mg_of X G a__means_from, (fun_mk (st := s__means_from) l__means_from c__means_from k__means_from).binds (ps := ["means", "least"]) fun _ _ _ _ _ _ us hl => match us, hl with | [_, _], _ => rfl⟩
  have D__law_fold : Df K mg "_law_fold" s__law_fold ["script"] f__law_fold _ := ⟨fun_mk (st := s__law_fold) l__law_fold c__law_fold k__law_fold, PySem.W.mg_of X G a__law_fold, (fun_mk (st := s__law_fold) l__law_fold c__law_fold k__law_fold).binds (ps := ["script"]) fun _ _ _ _ _ _ us hl => match us, hl with | [_], _ => rfl⟩
  have D__law_herd : Df K mg "_law_herd" s__law_herd ["fold", "many"] f__law_herd _ := ⟨fun_mk (st := s__law_herd) l__law_herd c__law_herd k__law_herd, PySem.W.mg_of X G a__law_herd, (fun_mk (st := s__law_herd) l__law_herd c__law_herd k__law_herd).binds (ps := ["fold", "many"]) fun _ _ _ _ _ _ us hl => match us, hl with | [_, _], _ => rfl⟩
  have D__law_one : Df K mg "_law_one" s__law_one ["fold", "some"] f__law_one _ := ⟨fun_mk (st := s__law_one) l__law_one c__law_one k__law_one, PySem.W.mg_of X G a__law_one, (fun_mk (st := s__law_one) l__law_one c__law_one k__law_one).binds (ps := ["fold", "some"]) fun _ _ _ _ _ _ us hl => match us, hl with | [_, _], _ => rfl⟩
  have D__law_heard : Df K mg "_law_heard" s__law_heard ["ask"] f__law_heard _ := ⟨fun_mk (st := s__law_heard) l__law_heard c__law_heard k__law_heard, PySem.W.mg_of X G a__law_heard, (fun_mk (st := s__law_heard) l__law_heard c__law_heard k__law_heard).binds (ps := ["ask"]) fun _ _ _ _ _ _ us hl => match us, hl with | [_], _ => rfl⟩
  have D__law_means : Df K mg "_law_means" s__law_means ["fold", "bits", "states"] f__law_means _ := ⟨fun_mk (st := s__law_means) l__law_means c__law_means k__law_means, PySem.W.mg_of X G a__law_means, (fun_mk (st := s__law_means) l__law_means c__law_means k__law_means).binds (ps := ["fold", "bits", "states"]) fun _ _ _ _ _ _ us hl => match us, hl with | [_, _, _], _ => rfl⟩
  have D__law_due : Df K mg "_law_due" s__law_due ["one", "other", "states"] f__law_due _ := ⟨fun_mk (st := s__law_due) l__law_due c__law_due k__law_due, PySem.W.mg_of X G a__law_due, (fun_mk (st := s__law_due) l__law_due c__law_due k__law_due).binds (ps := ["one", "other", "states"]) fun _ _ _ _ _ _ us hl => match us, hl with | [_, _, _], _ => rfl⟩
  have D__law_pair_right : Df K mg "_law_pair_right" s__law_pair_right ["fold", "one", "other", "states"] f__law_pair_right _ := ⟨fun_mk (st := s__law_pair_right) l__law_pair_right c__law_pair_right k__law_pair_right, PySem.W.mg_of X G a__law_pair_right, (fun_mk (st := s__law_pair_right) l__law_pair_right c__law_pair_right k__law_pair_right).binds (ps := ["fold", "one", "other", "states"]) fun _ _ _ _ _ _ us hl => match us, hl with | [_, _, _, _], _ => rfl⟩
  have D__law_three_right : Df K mg "_law_three_right" s__law_three_right ["fold"] f__law_three_right _ := ⟨fun_mk (st := s__law_three_right) l__law_three_right c__law_three_right k__law_three_right, PySem.W.mg_of X G a__law_three_right, (fun_mk (st := s__law_three_right) l__law_three_right c__law_three_right k__law_three_right).binds (ps := ["fold"]) fun _ _ _ _ _ _ us hl => match us, hl with | [_], _ => rfl⟩
  have FI_BadNumber := fun_mk (st := s_init_BadNumber) li_BadNumber ci_BadNumber ki_BadNumber
  have BI_BadNumber := FI_BadNumber.binds (ps := ["self", "part"]) fun _ _ _ _ _ _ us hl => match us, hl with | [_, _], _ => rfl
  have O_BadNumber : OexC K C_BadNumber := ⟨⟨_, _, _, _, _, _, _, _, _, _, _, _, _, _, _, x_BadNumber, by rfl⟩, sa_BadNumber, e_BadNumber, t_BadNumber, k_BadNumber⟩
  have XF_BadNumber : XfC K C_BadNumber := ⟨ga_BadNumber, gg_BadNumber, e_BadNumber, hd_BadNumber⟩
  have EC_BadNumber : ExcC K C_BadNumber := ⟨ga_BadNumber, gg_BadNumber, e_BadNumber, hd_BadNumber, ha_BadNumber, spn, tkn, hm_BadNumber⟩
  have EX_BadNumber : PySem.W.exmOne K (.ref C_BadNumber) (.ref CF) = some true := PySem.W.exm_ref eF dF tF sf_BadNumber
  have kit_BadNumber_BadNumber : PySem.W.kitOne K (.ref C_BadNumber) (.ref C_BadNumber) = some true := kit_sub is_BadNumber t_BadNumber sub_BadNumber_BadNumber sub_BadNumber_BadNumber
  have kit_BadWord_BadNumber : PySem.W.kitOne K (.ref C_BadWord) (.ref C_BadNumber) = some false := kit_sub is_BadNumber t_BadNumber sub_BadNumber_BadNumber sub_BadWord_BadNumber
  have kit_BadLayout_BadNumber : PySem.W.kitOne K (.ref C_BadLayout) (.ref C_BadNumber) = some false := kit_sub is_BadNumber t_BadNumber sub_BadNumber_BadNumber sub_BadLayout_BadNumber
  have kit_Misfit_BadNumber : PySem.W.kitOne K (.ref C_Misfit) (.ref C_BadNumber) = some false := kit_sub is_BadNumber t_BadNumber sub_BadNumber_BadNumber sub_Misfit_BadNumber
  have kit_BadText_BadNumber : PySem.W.kitOne K (.ref C_BadText) (.ref C_BadNumber) = some false := kit_sub is_BadNumber t_BadNumber sub_BadNumber_BadNumber sub_BadText_BadNumber
  have kz_BadNumber : PySem.W.kitOne K (.type "NoneType") (.ref C_BadNumber) = some false := kit_sub is_BadNumber t_BadNumber sub_BadNumber_BadNumber z_BadNumber
  have g_BadNumber : mg "BadNumber" = some (.ref C_BadNumber) := PySem.W.mg_of X G a_BadNumber
  have FI_BadWord := fun_mk (st := s_init_BadWord) li_BadWord ci_BadWord ki_BadWord
  have BI_BadWord := FI_BadWord.binds (ps := ["self", "part"]) fun _ _ _ _ _ _ us hl => match us, hl with | [_, _], _ => rfl
  have O_BadWord : OexC K C_BadWord := ⟨⟨_, _, _, _, _, _, _, _, _, _, _, _, _, _, _, x_BadWord, by rfl⟩, sa_BadWord, e_BadWord, t_BadWord, k_BadWord⟩
  have XF_BadWord : XfC K C_BadWord := ⟨ga_BadWord, gg_BadWord, e_BadWord, hd_BadWord⟩
  have EC_BadWord : ExcC K C_BadWord := ⟨ga_BadWord, gg_BadWord, e_BadWord, hd_BadWord, ha_BadWord, spn, tkn, hm_BadWord⟩
  have EX_BadWord : PySem.W.exmOne K (.ref C_BadWord) (.ref CF) = some true := PySem.W.exm_ref eF dF tF sf_BadWord
  have kit_BadNumber_BadWord : PySem.W.kitOne K (.ref C_BadNumber) (.ref C_BadWord) = some false := kit_sub is_BadWord t_BadWord sub_BadWord_BadWord sub_BadNumber_BadWord
  have kit_BadWord_BadWord : PySem.W.kitOne K (.ref C_BadWord) (.ref C_BadWord) = some true := kit_sub is_BadWord t_BadWord sub_BadWord_BadWord sub_BadWord_BadWord
  have kit_BadLayout_BadWord : PySem.W.kitOne K (.ref C_BadLayout) (.ref C_BadWord) = some false := kit_sub is_BadWord t_BadWord sub_BadWord_BadWord sub_BadLayout_BadWord
  have kit_Misfit_BadWord : PySem.W.kitOne K (.ref C_Misfit) (.ref C_BadWord) = some false := kit_sub is_BadWord t_BadWord sub_BadWord_BadWord sub_Misfit_BadWord
  have kit_BadText_BadWord : PySem.W.kitOne K (.ref C_BadText) (.ref C_BadWord) = some false := kit_sub is_BadWord t_BadWord sub_BadWord_BadWord sub_BadText_BadWord
  have kz_BadWord : PySem.W.kitOne K (.type "NoneType") (.ref C_BadWord) = some false := kit_sub is_BadWord t_BadWord sub_BadWord_BadWord z_BadWord
  have g_BadWord : mg "BadWord" = some (.ref C_BadWord) := PySem.W.mg_of X G a_BadWord
  have FI_BadLayout := fun_mk (st := s_init_BadLayout) li_BadLayout ci_BadLayout ki_BadLayout
  have BI_BadLayout := FI_BadLayout.binds (ps := ["self", "part"]) fun _ _ _ _ _ _ us hl => match us, hl with | [_, _], _ => rfl
  have O_BadLayout : OexC K C_BadLayout := ⟨⟨_, _, _, _, _, _, _, _, _, _, _, _, _, _, _, x_BadLayout, by rfl⟩, sa_BadLayout, e_BadLayout, t_BadLayout, k_BadLayout⟩
  have XF_BadLayout : XfC K C_BadLayout := ⟨ga_BadLayout, gg_BadLayout, e_BadLayout, hd_BadLayout⟩
  have EC_BadLayout : ExcC K C_BadLayout := ⟨ga_BadLayout, gg_BadLayout, e_BadLayout, hd_BadLayout, ha_BadLayout, spn, tkn, hm_BadLayout⟩
  have EX_BadLayout : PySem.W.exmOne K (.ref C_BadLayout) (.ref CF) = some true := PySem.W.exm_ref eF dF tF sf_BadLayout
  have kit_BadNumber_BadLayout : PySem.W.kitOne K (.ref C_BadNumber) (.ref C_BadLayout) = some false := kit_sub is_BadLayout t_BadLayout sub_BadLayout_BadLayout sub_BadNumber_BadLayout
  have kit_BadWord_BadLayout : PySem.W.kitOne K (.ref C_BadWord) (.ref C_BadLayout) = some false := kit_sub is_BadLayout t_BadLayout sub_BadLayout_BadLayout sub_BadWord_BadLayout
  have kit_BadLayout_BadLayout : PySem.W.kitOne K (.ref C_BadLayout) (.ref C_BadLayout) = some true := kit_sub is_BadLayout t_BadLayout sub_BadLayout_BadLayout sub_BadLayout_BadLayout
  have kit_Misfit_BadLayout : PySem.W.kitOne K (.ref C_Misfit) (.ref C_BadLayout) = some false := kit_sub is_BadLayout t_BadLayout sub_BadLayout_BadLayout sub_Misfit_BadLayout
  have kit_BadText_BadLayout : PySem.W.kitOne K (.ref C_BadText) (.ref C_BadLayout) = some false := kit_sub is_BadLayout t_BadLayout sub_BadLayout_BadLayout sub_BadText_BadLayout
  have kz_BadLayout : PySem.W.kitOne K (.type "NoneType") (.ref C_BadLayout) = some false := kit_sub is_BadLayout t_BadLayout sub_BadLayout_BadLayout z_BadLayout
  have g_BadLayout : mg "BadLayout" = some (.ref C_BadLayout) := PySem.W.mg_of X G a_BadLayout
  have FI_Misfit := fun_mk (st := s_init_Misfit) li_Misfit ci_Misfit ki_Misfit
  have BI_Misfit := FI_Misfit.binds (ps := ["self", "part"]) fun _ _ _ _ _ _ us hl => match us, hl with | [_, _], _ => rfl
  have O_Misfit : OexC K C_Misfit := ⟨⟨_, _, _, _, _, _, _, _, _, _, _, _, _, _, _, x_Misfit, by rfl⟩, sa_Misfit, e_Misfit, t_Misfit, k_Misfit⟩
  have XF_Misfit : XfC K C_Misfit := ⟨ga_Misfit, gg_Misfit, e_Misfit, hd_Misfit⟩
  have EC_Misfit : ExcC K C_Misfit := ⟨ga_Misfit, gg_Misfit, e_Misfit, hd_Misfit, ha_Misfit, spn, tkn, hm_Misfit⟩
  have EX_Misfit : PySem.W.exmOne K (.ref C_Misfit) (.ref CF) = some true := PySem.W.exm_ref eF dF tF sf_Misfit
  have kit_BadNumber_Misfit : PySem.W.kitOne K (.ref C_BadNumber) (.ref C_Misfit) = some false := kit_sub is_Misfit t_Misfit sub_Misfit_Misfit sub_BadNumber_Misfit
  have kit_BadWord_Misfit : PySem.W.kitOne K (.ref C_BadWord) (.ref C_Misfit) = some false := kit_sub is_Misfit t_Misfit sub_Misfit_Misfit sub_BadWord_Misfit
  have kit_BadLayout_Misfit : PySem.W.kitOne K (.ref C_BadLayout) (.ref C_Misfit) = some false := kit_sub is_Misfit t_Misfit sub_Misfit_Misfit sub_BadLayout_Misfit
  have kit_Misfit_Misfit : PySem.W.kitOne K (.ref C_Misfit) (.ref C_Misfit) = some true := kit_sub is_Misfit t_Misfit sub_Misfit_Misfit sub_Misfit_Misfit
  have kit_BadText_Misfit : PySem.W.kitOne K (.ref C_BadText) (.ref C_Misfit) = some false := kit_sub is_Misfit t_Misfit sub_Misfit_Misfit sub_BadText_Misfit
  have kz_Misfit : PySem.W.kitOne K (.type "NoneType") (.ref C_Misfit) = some false := kit_sub is_Misfit t_Misfit sub_Misfit_Misfit z_Misfit
  have g_Misfit : mg "Misfit" = some (.ref C_Misfit) := PySem.W.mg_of X G a_Misfit
  have FI_BadText := fun_mk (st := s_init_BadText) li_BadText ci_BadText ki_BadText
  have BI_BadText := FI_BadText.binds (ps := ["self", "line", "item"]) fun _ _ _ _ _ _ us hl => match us, hl with | [_, _, _], _ => rfl
  have O_BadText : OexC K C_BadText := ⟨⟨_, _, _, _, _, _, _, _, _, _, _, _, _, _, _, x_BadText, by rfl⟩, sa_BadText, e_BadText, t_BadText, k_BadText⟩
  have XF_BadText : XfC K C_BadText := ⟨ga_BadText, gg_BadText, e_BadText, hd_BadText⟩
  have EC_BadText : ExcC K C_BadText := ⟨ga_BadText, gg_BadText, e_BadText, hd_BadText, ha_BadText, spn, tkn, hm_BadText⟩
  have EX_BadText : PySem.W.exmOne K (.ref C_BadText) (.ref CF) = some true := PySem.W.exm_ref eF dF tF sf_BadText
  have kit_BadNumber_BadText : PySem.W.kitOne K (.ref C_BadNumber) (.ref C_BadText) = some false := kit_sub is_BadText t_BadText sub_BadText_BadText sub_BadNumber_BadText
  have kit_BadWord_BadText : PySem.W.kitOne K (.ref C_BadWord) (.ref C_BadText) = some false := kit_sub is_BadText t_BadText sub_BadText_BadText sub_BadWord_BadText
  have kit_BadLayout_BadText : PySem.W.kitOne K (.ref C_BadLayout) (.ref C_BadText) = some false := kit_sub is_BadText t_BadText sub_BadText_BadText sub_BadLayout_BadText
  have kit_Misfit_BadText : PySem.W.kitOne K (.ref C_Misfit) (.ref C_BadText) = some false := kit_sub is_BadText t_BadText sub_BadText_BadText sub_Misfit_BadText
  have kit_BadText_BadText : PySem.W.kitOne K (.ref C_BadText) (.ref C_BadText) = some true := kit_sub is_BadText t_BadText sub_BadText_BadText sub_BadText_BadText
  have kz_BadText : PySem.W.kitOne K (.type "NoneType") (.ref C_BadText) = some false := kit_sub is_BadText t_BadText sub_BadText_BadText z_BadText
  have g_BadText : mg "BadText" = some (.ref C_BadText) := PySem.W.mg_of X G a_BadText
  have F_Layout_init := fun_mk (st := s_Layout_init) l_Layout_init c_Layout_init k_Layout_init
  have b_Layout_init := F_Layout_init.binds (ps := ["self", "bits", "means"]) fun _ _ _ _ _ _ us hl => match us, hl with | [_, _, _], _ => rfl
  have F_Layout_eq := fun_mk (st := s_Layout_eq) l_Layout_eq c_Layout_eq k_Layout_eq
  have b_Layout_eq := F_Layout_eq.binds (ps := ["self", "other"]) fun _ _ _ _ _ _ us hl => match us, hl with | [_, _], _ => rfl
  have EQ_Layout : OwnEqC K C_Layout f_Layout_eq := ⟨fi_Layout_eq, if_Layout_eq, ne_Layout, hmC_Layout⟩
  have F_Layout_str := fun_mk (st := s_Layout_str) l_Layout_str c_Layout_str k_Layout_str
  have b_Layout_str := F_Layout_str.binds (ps := ["self"]) fun _ _ _ _ _ _ us hl => match us, hl with | [_], _ => rfl
  have ST_Layout : OwnStrC K C_Layout f_Layout_str := ⟨fi_Layout_str, if_Layout_str⟩
  have F_Layout_read := fun_mk (st := s_Layout_read) l_Layout_read c_Layout_read k_Layout_read
  have b_Layout_read := F_Layout_read.binds (ps := ["text"]) fun _ _ _ _ _ _ us hl => match us, hl with | [_], _ => rfl
  have SM_Layout_read : CStat K C_Layout (.type "type") "read" p_Layout_read f_Layout_read := ⟨sm_Layout_read, ⟨_, rc_Layout_read⟩, k_Layout_read⟩
  have RD_Layout : CRead K C_Layout (.type "type") := ⟨rdC_Layout, gaC_Layout⟩
  have O_Layout : OwnC K mg "Layout" C_Layout f_Layout_init := ⟨⟨pg_Layout, hdC_Layout, po_Layout, saC_Layout⟩, PySem.W.mg_of X G aC_Layout, ⟨mkC_Layout, fi_Layout_init, if_Layout_init, kcC_Layout⟩, haC_Layout, spn, tkn, hmC_Layout, kit_sub isC_Layout tyC_Layout sfC_Layout sfC_Layout, fun n hn => by
    simp only [List.mem_cons, List.not_mem_nil, or_false] at hn
    rcases hn with rfl | rfl | rfl | rfl | rfl | rfl | rfl
    · exact kit_sub isC_Layout tyC_Layout sfC_Layout suNoneType_Layout
    · exact kit_sub isC_Layout tyC_Layout sfC_Layout suint_Layout
    · exact kit_sub isC_Layout tyC_Layout sfC_Layout subool_Layout
    · exact kit_sub isC_Layout tyC_Layout sfC_Layout sustr_Layout
    · exact kit_sub isC_Layout tyC_Layout sfC_Layout sulist_Layout
    · exact kit_sub isC_Layout tyC_Layout sfC_Layout sutuple_Layout
    · exact kit_sub isC_Layout tyC_Layout sfC_Layout sudict_Layout
    , sutuple_Layout⟩
  have T : Blt mg := ⟨⟨_, PySem.W.mg_of X G a_MOST_DIGITS⟩, ⟨_, PySem.W.mg_of X G a_MOST_BITS⟩, ⟨_, PySem.W.mg_of X G a_MOST_STATE⟩, ⟨_, PySem.W.mg_of X G a_NOTHING⟩, ⟨_, PySem.W.mg_of X G a_MOST_STATES⟩, PySem.W.mg_none_of X G n_abs, PySem.W.mg_none_of X G n_all, PySem.W.mg_none_of X G n_any, PySem.W.mg_none_of X G n_bool, PySem.W.mg_none_of X G n_int, PySem.W.mg_none_of X G n_isinstance, PySem.W.mg_none_of X G n_len, PySem.W.mg_none_of X G n_list, PySem.W.mg_none_of X G n_max, PySem.W.mg_none_of X G n_min, PySem.W.mg_none_of X G n_range, PySem.W.mg_none_of X G n_repr, PySem.W.mg_none_of X G n_str, PySem.W.mg_none_of X G n_tuple⟩
  refine ⟨PySem.W.fnOf "law" "law" (defArgs s_law) (defBody s_law) (defScope s_law) .none kV_law dc_law pm_law an_law (.ref c1) ct_law, [(c1, Pt1), (c2, Pt2)], spLaw K Pt1 Pt2, ⟨fun p hp => ?_, fun p hp => ?_, fun p hp => ?_⟩, fun s u => .of_eq rfl, fun H a ns hl _ hP hS => ⟨a, ns, rfl, hS, hl, hP _ List.mem_cons_self, hP _ (List.mem_cons_of_mem _ List.mem_cons_self), fun _ => rfl⟩, fun base hK hG hTB => ?_⟩
  · rcases List.mem_cons.mp hp with rfl | hp
    · exact hPt1
    · rw [List.mem_singleton.mp hp]
      exact hPt2
  · rcases List.mem_cons.mp hp with rfl | hp
    · exact kPt1
    · rw [List.mem_singleton.mp hp]
      exact kPt2
  · rcases List.mem_cons.mp hp with rfl | hp
    · exact PySem.W.codeHd_of_K X hdc1
    · rw [List.mem_singleton.mp hp]
      exact PySem.W.codeHd_of_K X hdc2
  · have R_BadNumber : Err l.prog w K mg base "BadNumber" "part" C_BadNumber fi_BadNumber _ := ⟨O_BadNumber, i_BadNumber, ti_BadNumber, ok_init1 FI_BadNumber sc_init_BadNumber rfl (.inl rfl) (.inl rfl), BI_BadNumber, g_BadNumber, no_BadNumber_part⟩
    have R_BadLayout : Err l.prog w K mg base "BadLayout" "part" C_BadLayout fi_BadLayout _ := ⟨O_BadLayout, i_BadLayout, ti_BadLayout, ok_init1 FI_BadLayout sc_init_BadLayout rfl (.inl rfl) (.inl rfl), BI_BadLayout, g_BadLayout, no_BadLayout_part⟩
    have R_Misfit : Err l.prog w K mg base "Misfit" "part" C_Misfit fi_Misfit _ := ⟨O_Misfit, i_Misfit, ti_Misfit, ok_init1 FI_Misfit sc_init_Misfit rfl (.inl rfl) (.inl rfl), BI_Misfit, g_Misfit, no_Misfit_part⟩
    have Z : Kinds K mg CF C_BadLayout C_BadNumber C_Misfit := ⟨PySem.W.mg_of X G aF, g_BadLayout, g_BadNumber, g_Misfit, ⟨XF_BadLayout, EC_BadLayout, EX_BadLayout, no_BadLayout_part⟩, ⟨XF_BadNumber, EC_BadNumber, EX_BadNumber, no_BadNumber_part⟩, ⟨XF_Misfit, EC_Misfit, EX_Misfit, no_Misfit_part⟩, kit_BadLayout_BadLayout, kit_BadLayout_BadNumber, kit_BadLayout_Misfit, kit_BadNumber_BadLayout, kit_BadNumber_BadNumber, kit_BadNumber_Misfit, kit_Misfit_BadLayout, kit_Misfit_BadNumber, kit_Misfit_Misfit⟩
    have G_need_number := ok_need_number (P := l.prog) (w := w) (base := base) D_need_number.F D_is_within D_is_integer T R_BadNumber
    have G_Layout_init := ok_Layout_init (P := l.prog) (w := w) (base := base) F_Layout_init T O_Layout nC_Layout_bits nC_Layout_means D_is_within D_is_integer D_is_list D__is_meaning
    have G_Layout_eq := ok_Layout_eq (P := l.prog) (w := w) (base := base) F_Layout_eq T O_Layout nC_Layout_bits nC_Layout_means
    have G_Layout_str := ok_Layout_str (P := l.prog) (w := w) (base := base) F_Layout_str T O_Layout nC_Layout_bits nC_Layout_means
    have G_need_layout := ok_need_layout (P := l.prog) (w := w) (base := base) D_need_layout.F T O_Layout R_BadLayout
    have G_meaning_of := ok_meaning_of (P := l.prog) (w := w) (base := base) D_meaning_of.F T O_Layout nC_Layout_means D_need_layout G_need_layout D_need_word_of D_is_within D_is_integer
    have G_beside_layout := ok_beside_layout (P := l.prog) (w := w) (base := base) D_beside_layout.F T O_Layout nC_Layout_bits nC_Layout_means D_need_number G_need_number D_need_layout G_need_layout D__put_beside D__means_from R_Misfit b_Layout_init G_Layout_init
    have G__law_fold := ok__law_fold (P := l.prog) (w := w) (base := base) D__law_fold.F T
    have G__law_means := ok__law_means (P := l.prog) (w := w) (base := base) D__law_means.F T D__law_herd
    have G__law_pair_right := ok__law_pair_right (P := l.prog) (w := w) (base := base) T l__law_pair_right c__law_pair_right (hTB _ (List.mem_cons_of_mem _ List.mem_cons_self)) nPt Z O_Layout nC_Layout_bits nC_Layout_means D__law_heard D__law_due D__law_herd D_beside_layout G_beside_layout D_meaning_of G_meaning_of b_Layout_init G_Layout_init EQ_Layout b_Layout_eq G_Layout_eq ST_Layout b_Layout_str G_Layout_str
    have G__law_three_right := ok__law_three_right (P := l.prog) (w := w) (base := base) D__law_three_right.F T O_Layout D__law_herd D__law_means G__law_means D_beside_layout G_beside_layout b_Layout_init G_Layout_init EQ_Layout b_Layout_eq G_Layout_eq
    exact ok_law T l_law c_law (hTB _ List.mem_cons_self) nPt Z O_Layout D__law_fold G__law_fold D__law_herd D__law_one D__law_heard D__law_means G__law_means D_beside_layout G_beside_layout D__law_pair_right G__law_pair_right D__law_three_right G__law_three_right b_Layout_init G_Layout_init
end K25
open PySem PySem.W PyProof.Rows
set_option maxRecDepth 100000 in
set_option maxHeartbeats 0 in
theorem PySem.Challenge.cw_oneflip_k25_layouts_beside_one_another_holds : PySem.Challenge.rw_oneflip_k25_layouts_beside_one_another.Holds := by
  w_on; o_law; k_head; (case hw => w_witness2)
  k_fill
  refine OB.walk_G (l := PySem.Challenge.rw_oneflip_k25_layouts_beside_one_another) (n := 63) (k := 14) (x := "script") (CX := fun _ => L2.CX0) rfl (by decide) rfl ⟨rfl, by decide, by decide⟩ (fun w h Y => PySem.W.km_in_of Y) ?F (fun _ _ _ _ _ z => z)
  case F =>
    intro w mg fa h Y KX G hmg
    refine' K25.all_mk KX G hmg ?a_is_integer ?l_is_integer ?c_is_integer ?k_is_integer ?a_is_within ?l_is_within ?c_is_within ?k_is_within ?a_is_list ?l_is_list ?c_is_list ?k_is_list ?a_need_number ?l_need_number ?c_need_number ?k_need_number ?a_items_of ?l_items_of ?c_items_of ?k_items_of ?a_integer_of ?l_integer_of ?c_integer_of ?k_integer_of ?a_item_at ?l_item_at ?c_item_at ?k_item_at ?a_integer_at ?l_integer_at ?c_integer_at ?k_integer_at ?a_need_end ?l_need_end ?c_need_end ?k_need_end ?a__is_meaning ?l__is_meaning ?c__is_meaning ?k__is_meaning ?a__meaning_at ?l__meaning_at ?c__meaning_at ?k__meaning_at ?a_need_layout ?l_need_layout ?c_need_layout ?k_need_layout ?a_need_word_of ?l_need_word_of ?c_need_word_of ?k_need_word_of ?a_meaning_of ?l_meaning_of ?c_meaning_of ?k_meaning_of ?a_beside_layout ?l_beside_layout ?c_beside_layout ?k_beside_layout ?a__put_beside ?l__put_beside ?c__put_beside ?k__put_beside ?a__means_from ?l__means_from ?c__means_from ?k__means_from ?a__law_fold ?l__law_fold ?c__law_fold ?k__law_fold ?a__law_herd ?l__law_herd ?c__law_herd ?k__law_herd ?a__law_one ?l__law_one ?c__law_one ?k__law_one ?a__law_heard ?l__law_heard ?c__law_heard ?k__law_heard ?a__law_means ?l__law_means ?c__law_means ?k__law_means ?a__law_due ?l__law_due ?c__law_due ?k__law_due ?a__law_pair_right ?l__law_pair_right ?c__law_pair_right ?k__law_pair_right ?a__law_three_right ?l__law_three_right ?c__law_three_right ?k__law_three_right ?a_law ?l_law ?c_law ?k_law ?aF ?eF ?dF ?tF ?a_BadNumber ?x_BadNumber ?sa_BadNumber ?e_BadNumber ?t_BadNumber ?k_BadNumber ?i_BadNumber ?ti_BadNumber ?li_BadNumber ?ci_BadNumber ?ki_BadNumber ?no_BadNumber_part ?ga_BadNumber ?gg_BadNumber ?hd_BadNumber ?ha_BadNumber ?hm_BadNumber ?sf_BadNumber ?is_BadNumber ?z_BadNumber ?a_BadWord ?x_BadWord ?sa_BadWord ?e_BadWord ?t_BadWord ?k_BadWord ?i_BadWord ?ti_BadWord ?li_BadWord ?ci_BadWord ?ki_BadWord ?no_BadWord_part ?ga_BadWord ?gg_BadWord ?hd_BadWord ?ha_BadWord ?hm_BadWord ?sf_BadWord ?is_BadWord ?z_BadWord ?a_BadLayout ?x_BadLayout ?sa_BadLayout ?e_BadLayout ?t_BadLayout ?k_BadLayout ?i_BadLayout ?ti_BadLayout ?li_BadLayout ?ci_BadLayout ?ki_BadLayout ?no_BadLayout_part ?ga_BadLayout ?gg_BadLayout ?hd_BadLayout ?ha_BadLayout ?hm_BadLayout ?sf_BadLayout ?is_BadLayout ?z_BadLayout ?a_Misfit ?x_Misfit ?sa_Misfit ?e_Misfit ?t_Misfit ?k_Misfit ?i_Misfit ?ti_Misfit ?li_Misfit ?ci_Misfit ?ki_Misfit ?no_Misfit_part ?ga_Misfit ?gg_Misfit ?hd_Misfit ?ha_Misfit ?hm_Misfit ?sf_Misfit ?is_Misfit ?z_Misfit ?a_BadText ?x_BadText ?sa_BadText ?e_BadText ?t_BadText ?k_BadText ?i_BadText ?ti_BadText ?li_BadText ?ci_BadText ?ki_BadText ?no_BadText_line ?no_BadText_item ?ga_BadText ?gg_BadText ?hd_BadText ?ha_BadText ?hm_BadText ?sf_BadText ?is_BadText ?z_BadText ?sub_BadNumber_BadNumber ?sub_BadNumber_BadWord ?sub_BadNumber_BadLayout ?sub_BadNumber_Misfit ?sub_BadNumber_BadText ?sub_BadWord_BadNumber ?sub_BadWord_BadWord ?sub_BadWord_BadLayout ?sub_BadWord_Misfit ?sub_BadWord_BadText ?sub_BadLayout_BadNumber ?sub_BadLayout_BadWord ?sub_BadLayout_BadLayout ?sub_BadLayout_Misfit ?sub_BadLayout_BadText ?sub_Misfit_BadNumber ?sub_Misfit_BadWord ?sub_Misfit_BadLayout ?sub_Misfit_Misfit ?sub_Misfit_BadText ?sub_BadText_BadNumber ?sub_BadText_BadWord ?sub_BadText_BadLayout ?sub_BadText_Misfit ?sub_BadText_BadText ?spn ?tkn ?a_MOST_DIGITS ?a_MOST_BITS ?a_MOST_STATE ?a_NOTHING ?a_MOST_STATES ?n_abs ?n_all ?n_any ?n_bool ?n_int ?n_isinstance ?n_len ?n_list ?n_max ?n_min ?n_range ?n_repr ?n_str ?n_tuple ?aC_Layout ?pg_Layout ?hdC_Layout ?po_Layout ?saC_Layout ?mkC_Layout ?kcC_Layout ?haC_Layout ?hmC_Layout ?isC_Layout ?tyC_Layout ?sfC_Layout ?suNoneType_Layout ?suint_Layout ?subool_Layout ?sustr_Layout ?sulist_Layout ?sutuple_Layout ?sudict_Layout ?nC_Layout_bits ?nC_Layout_means ?fi_Layout_init ?if_Layout_init ?l_Layout_init ?c_Layout_init ?k_Layout_init ?fi_Layout_eq ?if_Layout_eq ?l_Layout_eq ?c_Layout_eq ?k_Layout_eq ?ne_Layout ?fi_Layout_str ?if_Layout_str ?l_Layout_str ?c_Layout_str ?k_Layout_str ?sm_Layout_read ?rc_Layout_read ?l_Layout_read ?c_Layout_read ?k_Layout_read ?rdC_Layout ?gaC_Layout ?l_code1 ?v111 ?hdc1 ?kPt1 ?hPt1 ?l_code2 ?v112 ?hdc2 ?kPt2 ?hPt2 ?nPt
    (case a_is_integer => k_is)
    (case l_is_integer => k_is)
    (case c_is_integer => k_is)
    (case k_is_integer => k_is)
    (case a_is_within => k_is)
    (case l_is_within => k_is)
    (case c_is_within => k_is)
    (case k_is_within => k_is)
    (case a_is_list => k_is)
    (case l_is_list => k_is)
    (case c_is_list => k_is)
    (case k_is_list => k_is)
    (case a_need_number => k_is)
    (case l_need_number => k_is)
    (case c_need_number => k_is)
    (case k_need_number => k_is)
    (case a_items_of => k_is)
    (case l_items_of => k_is)
    (case c_items_of => k_is)
    (case k_items_of => k_is)
    (case a_integer_of => k_is)
    (case l_integer_of => k_is)
    (case c_integer_of => k_is)
    (case k_integer_of => k_is)
    (case a_item_at => k_is)
    (case l_item_at => k_is)
    (case c_item_at => k_is)
    (case k_item_at => k_is)
    (case a_integer_at => k_is)
    (case l_integer_at => k_is)
    (case c_integer_at => k_is)
    (case k_integer_at => k_is)
    (case a_need_end => k_is)
    (case l_need_end => k_is)
    (case c_need_end => k_is)
    (case k_need_end => k_is)
    (case a__is_meaning => k_is)
    (case l__is_meaning => k_is)
    (case c__is_meaning => k_is)
    (case k__is_meaning => k_is)
    (case a__meaning_at => k_is)
    (case l__meaning_at => k_is)
    (case c__meaning_at => k_is)
    (case k__meaning_at => k_is)
    (case a_need_layout => k_is)
    (case l_need_layout => k_is)
    (case c_need_layout => k_is)
    (case k_need_layout => k_is)
    (case a_need_word_of => k_is)
    (case l_need_word_of => k_is)
    (case c_need_word_of => k_is)
    (case k_need_word_of => k_is)
    (case a_meaning_of => k_is)
    (case l_meaning_of => k_is)
    (case c_meaning_of => k_is)
    (case k_meaning_of => k_is)
    (case a_beside_layout => k_is)
    (case l_beside_layout => k_is)
    (case c_beside_layout => k_is)
    (case k_beside_layout => k_is)
    (case a__put_beside => k_is)
    (case l__put_beside => k_is)
    (case c__put_beside => k_is)
    (case k__put_beside => k_is)
    (case a__means_from => k_is)
    (case l__means_from => k_is)
    (case c__means_from => k_is)
    (case k__means_from => k_is)
    (case a__law_fold => k_is)
    (case l__law_fold => k_is)
    (case c__law_fold => k_is)
    (case k__law_fold => k_is)
    (case a__law_herd => k_is)
    (case l__law_herd => k_is)
    (case c__law_herd => k_is)
    (case k__law_herd => k_is)
    (case a__law_one => k_is)
    (case l__law_one => k_is)
    (case c__law_one => k_is)
    (case k__law_one => k_is)
    (case a__law_heard => k_is)
    (case l__law_heard => k_is)
    (case c__law_heard => k_is)
    (case k__law_heard => k_is)
    (case a__law_means => k_is)
    (case l__law_means => k_is)
    (case c__law_means => k_is)
    (case k__law_means => k_is)
    (case a__law_due => k_is)
    (case l__law_due => k_is)
    (case c__law_due => k_is)
    (case k__law_due => k_is)
    (case a__law_pair_right => k_is)
    (case l__law_pair_right => k_is)
    (case c__law_pair_right => k_is)
    (case k__law_pair_right => k_is)
    (case a__law_three_right => k_is)
    (case l__law_three_right => k_is)
    (case c__law_three_right => k_is)
    (case k__law_three_right => k_is)
    (case a_law => k_is)
    (case l_law => k_is)
    (case c_law => k_is)
    (case k_law => k_is)
    (case aF => k_is)
    (case eF => k_is)
    (case dF => k_is)
    (case tF => k_is)
    (case a_BadNumber => k_is)
    (case x_BadNumber => k_is)
    (case sa_BadNumber => k_is)
    (case e_BadNumber => k_is)
    (case t_BadNumber => k_is)
    (case k_BadNumber => k_is)
    (case i_BadNumber => k_is)
    (case ti_BadNumber => k_is)
    (case li_BadNumber => k_is)
    (case ci_BadNumber => k_is)
    (case ki_BadNumber => k_is)
    (case no_BadNumber_part => k_is)
    (case ga_BadNumber => k_is)
    (case gg_BadNumber => k_is)
    (case hd_BadNumber => k_is)
    (case ha_BadNumber => k_is)
    (case hm_BadNumber => k_is)
    (case sf_BadNumber => k_is)
    (case is_BadNumber => k_is)
    (case z_BadNumber => k_is)
    (case a_BadWord => k_is)
    (case x_BadWord => k_is)
    (case sa_BadWord => k_is)
    (case e_BadWord => k_is)
    (case t_BadWord => k_is)
    (case k_BadWord => k_is)
    (case i_BadWord => k_is)
    (case ti_BadWord => k_is)
    (case li_BadWord => k_is)
    (case ci_BadWord => k_is)
    (case ki_BadWord => k_is)
    (case no_BadWord_part => k_is)
    (case ga_BadWord => k_is)
    (case gg_BadWord => k_is)
    (case hd_BadWord => k_is)
    (case ha_BadWord => k_is)
    (case hm_BadWord => k_is)
    (case sf_BadWord => k_is)
    (case is_BadWord => k_is)
    (case z_BadWord => k_is)
    (case a_BadLayout => k_is)
    (case x_BadLayout => k_is)
    (case sa_BadLayout => k_is)
    (case e_BadLayout => k_is)
    (case t_BadLayout => k_is)
    (case k_BadLayout => k_is)
    (case i_BadLayout => k_is)
    (case ti_BadLayout => k_is)
    (case li_BadLayout => k_is)
    (case ci_BadLayout => k_is)
    (case ki_BadLayout => k_is)
    (case no_BadLayout_part => k_is)
    (case ga_BadLayout => k_is)
    (case gg_BadLayout => k_is)
    (case hd_BadLayout => k_is)
    (case ha_BadLayout => k_is)
    (case hm_BadLayout => k_is)
    (case sf_BadLayout => k_is)
    (case is_BadLayout => k_is)
    (case z_BadLayout => k_is)
    (case a_Misfit => k_is)
    (case x_Misfit => k_is)
    (case sa_Misfit => k_is)
    (case e_Misfit => k_is)
    (case t_Misfit => k_is)
    (case k_Misfit => k_is)
    (case i_Misfit => k_is)
    (case ti_Misfit => k_is)
    (case li_Misfit => k_is)
    (case ci_Misfit => k_is)
    (case ki_Misfit => k_is)
    (case no_Misfit_part => k_is)
    (case ga_Misfit => k_is)
    (case gg_Misfit => k_is)
    (case hd_Misfit => k_is)
    (case ha_Misfit => k_is)
    (case hm_Misfit => k_is)
    (case sf_Misfit => k_is)
    (case is_Misfit => k_is)
    (case z_Misfit => k_is)
    (case a_BadText => k_is)
    (case x_BadText => k_is)
    (case sa_BadText => k_is)
    (case e_BadText => k_is)
    (case t_BadText => k_is)
    (case k_BadText => k_is)
    (case i_BadText => k_is)
    (case ti_BadText => k_is)
    (case li_BadText => k_is)
    (case ci_BadText => k_is)
    (case ki_BadText => k_is)
    (case no_BadText_line => k_is)
    (case no_BadText_item => k_is)
    (case ga_BadText => k_is)
    (case gg_BadText => k_is)
    (case hd_BadText => k_is)
    (case ha_BadText => k_is)
    (case hm_BadText => k_is)
    (case sf_BadText => k_is)
    (case is_BadText => k_is)
    (case z_BadText => k_is)
    (case sub_BadNumber_BadNumber => k_is)
    (case sub_BadNumber_BadWord => k_is)
    (case sub_BadNumber_BadLayout => k_is)
    (case sub_BadNumber_Misfit => k_is)
    (case sub_BadNumber_BadText => k_is)
    (case sub_BadWord_BadNumber => k_is)
    (case sub_BadWord_BadWord => k_is)
    (case sub_BadWord_BadLayout => k_is)
    (case sub_BadWord_Misfit => k_is)
    (case sub_BadWord_BadText => k_is)
    (case sub_BadLayout_BadNumber => k_is)
    (case sub_BadLayout_BadWord => k_is)
    (case sub_BadLayout_BadLayout => k_is)
    (case sub_BadLayout_Misfit => k_is)
    (case sub_BadLayout_BadText => k_is)
    (case sub_Misfit_BadNumber => k_is)
    (case sub_Misfit_BadWord => k_is)
    (case sub_Misfit_BadLayout => k_is)
    (case sub_Misfit_Misfit => k_is)
    (case sub_Misfit_BadText => k_is)
    (case sub_BadText_BadNumber => k_is)
    (case sub_BadText_BadWord => k_is)
    (case sub_BadText_BadLayout => k_is)
    (case sub_BadText_Misfit => k_is)
    (case sub_BadText_BadText => k_is)
    (case spn => k_is)
    (case tkn => k_is)
    (case a_MOST_DIGITS => k_is)
    (case a_MOST_BITS => k_is)
    (case a_MOST_STATE => k_is)
    (case a_NOTHING => k_is)
    (case a_MOST_STATES => k_is)
    (case n_abs => k_is)
    (case n_all => k_is)
    (case n_any => k_is)
    (case n_bool => k_is)
    (case n_int => k_is)
    (case n_isinstance => k_is)
    (case n_len => k_is)
    (case n_list => k_is)
    (case n_max => k_is)
    (case n_min => k_is)
    (case n_range => k_is)
    (case n_repr => k_is)
    (case n_str => k_is)
    (case n_tuple => k_is)
    (case aC_Layout => k_is)
    (case pg_Layout => k_is)
    (case hdC_Layout => k_is)
    (case po_Layout => k_is)
    (case saC_Layout => k_is)
    (case mkC_Layout => k_is)
    (case kcC_Layout => k_is)
    (case haC_Layout => k_is)
    (case hmC_Layout => k_is)
    (case isC_Layout => k_is)
    (case tyC_Layout => k_is)
    (case sfC_Layout => k_is)
    (case suNoneType_Layout => k_is)
    (case suint_Layout => k_is)
    (case subool_Layout => k_is)
    (case sustr_Layout => k_is)
    (case sulist_Layout => k_is)
    (case sutuple_Layout => k_is)
    (case sudict_Layout => k_is)
    (case nC_Layout_bits => k_is)
    (case nC_Layout_means => k_is)
    (case fi_Layout_init => k_is)
    (case if_Layout_init => k_is)
    (case l_Layout_init => k_is)
    (case c_Layout_init => k_is)
    (case k_Layout_init => k_is)
    (case fi_Layout_eq => k_is)
    (case if_Layout_eq => k_is)
    (case l_Layout_eq => k_is)
    (case c_Layout_eq => k_is)
    (case k_Layout_eq => k_is)
    (case ne_Layout => k_is)
    (case fi_Layout_str => k_is)
    (case if_Layout_str => k_is)
    (case l_Layout_str => k_is)
    (case c_Layout_str => k_is)
    (case k_Layout_str => k_is)
    (case sm_Layout_read => k_is)
    (case rc_Layout_read => k_is)
    (case l_Layout_read => k_is)
    (case c_Layout_read => k_is)
    (case k_Layout_read => k_is)
    (case rdC_Layout => k_is)
    (case gaC_Layout => k_is)
    (case l_code1 => k_is)
    (case v111 => rfl)
    (case hdc1 => kernel_rfl)
    (case kPt1 => kernel_rfl)
    (case l_code2 => k_is)
    (case v112 => rfl)
    (case hdc2 => kernel_rfl)
    (case kPt2 => kernel_rfl)
    (case nPt => decide)
    (case hPt1 => exact PySem.W.km_tabs_of Y _ (by k_mem))
    (case hPt2 => exact PySem.W.km_tabs_of Y _ (by k_mem))
