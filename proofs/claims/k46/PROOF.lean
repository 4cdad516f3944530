import PyProof.Rows.All
import Wide.All
import OpenK.AllK
import Wide.FinOn
import HandS.ForMost
import HandS.Exc
import HandS.ExcValue
import HandS.ExcField
import HandS.ExcIs
import HandS.IsInst
import HandS.Lambda
import HandS.EndTab
import HandS.Wide
import HandS.WideBits
import HandS.RaiseMore
import HandS.WordsList
import HandS.WordsExc
import HandS.ExcInit
import PyProof.Rows.SetFrom
import HandS.SetFor
import HandS.Zip
import HandS.SortInts
import PyProof.ReprRoads
import HandS.FStrTup
import HandS.EndBits
import HandS.OwnEq
import PyProof.FactsAll.object_2
import HandS.ClsMeth
import HandS.MakeKwOnly
import HandS.Defaults
import KE.KFmtOwn
import HandS.ExcOwn
import PyProof.StrLawsRepr
import PyProof.CallFns
import HandS.Text
import HandS.StrMore
import HandS.Set
import HandS.Strs
import PyProof.Rows.RegReprOcc
import HandS.Conv
import HandS.Codes
import HandS.ForDict
import PyProof.StrLawsIn
import KE.IntTextText
import PyProof.StrBlock2
import KE.KIntText
import PyProof.StrLawsChain
import HandS.List
import HandS.Steps
import HandS.SetBool
import HandS.Walk
import PyProof.EnumMake
import PyProof.Draws
import HandS.Style
import KE.KRevIter
import KE.GoesMore
import HandS.NoneIn
import KE.KNestM
import PySem.Challenge.RW_oneflip_k46_phases_and_their_texts
set_option linter.all false
/-! Ones of a number, pairs of neighbours below it. -/
set_option exponentiation.threshold 100000
namespace M04
theorem two_pos (k : Nat) : 0 < 2 ^ k := Nat.pow_pos (by decide)
def cnt (n : Nat) : Nat → Nat
  | 0 => 0
  | k + 1 => cnt n k + n / 2 ^ k % 2
theorem cnt_low (n k : Nat) : cnt n (k + 1) = n % 2 + cnt (n / 2) k := by
  induction k with
  | zero =>
    show 0 + n / 2 ^ 0 % 2 = n % 2 + 0
    rw [Nat.pow_zero, Nat.div_one]
    omega
  | succ k ih =>
    show cnt n (k + 1) + n / 2 ^ (k + 1) % 2 = n % 2 + (cnt (n / 2) k + n / 2 / 2 ^ k % 2)
    rw [ih, Nat.div_div_eq_div_mul, Nat.pow_succ, Nat.mul_comm 2]
    omega
def pc (n : Nat) : Nat := cnt n n
theorem cnt_zero (k : Nat) : cnt 0 k = 0 := by
  induction k with
  | zero => rfl
  | succ k ih =>
    show cnt 0 k + 0 / 2 ^ k % 2 = 0
    rw [ih, Nat.zero_div]
theorem cnt_more {n k : Nat} (h : n < 2 ^ k) : cnt n (k + 1) = cnt n k := by
  show cnt n k + n / 2 ^ k % 2 = cnt n k
  rw [Nat.div_eq_of_lt h]
  rfl
theorem cnt_up {n k : Nat} (h : n < 2 ^ k) (m : Nat) : cnt n (k + m) = cnt n k := by
  induction m with
  | zero => rfl
  | succ m ih =>
    have h2 : n < 2 ^ (k + m) := Nat.lt_of_lt_of_le h (Nat.pow_le_pow_right (by decide) (Nat.le_add_right k m))
    exact (cnt_more h2).trans ih
theorem cnt_pc {n k : Nat} (h : n < 2 ^ k) : cnt n k = pc n := by
  unfold pc
  have h2 : n < 2 ^ n := Nat.lt_two_pow_self
  by_cases c : k ≤ n
  · have e := cnt_up h (n - k)
    rw [show k + (n - k) = n by omega] at e
    exact e.symm
  · have e := cnt_up h2 (k - n)
    rw [show n + (k - n) = k by omega] at e
    exact e
theorem pc_half (n : Nat) : pc n = n % 2 + pc (n / 2) := by
  have h : n < 2 ^ (n + 1) := Nat.lt_trans Nat.lt_two_pow_self (Nat.pow_lt_pow_right (by decide) (Nat.lt_succ_self n))
  have h2 : n / 2 < 2 ^ n := by
    rw [Nat.pow_succ] at h
    omega
  rw [← cnt_pc h, cnt_low, cnt_pc h2]
theorem pc_two (n : Nat) : pc (2 * n) = pc n := by
  rw [pc_half, show 2 * n % 2 = 0 by omega, show 2 * n / 2 = n by omega, Nat.zero_add]
theorem pc_odd (n : Nat) : pc (2 * n + 1) = pc n + 1 := by
  rw [pc_half, show (2 * n + 1) % 2 = 1 by omega, show (2 * n + 1) / 2 = n by omega, Nat.add_comm]
theorem pc_zero : pc 0 = 0 := rfl
/-- the ones of all words below n -/
def E : Nat → Nat
  | 0 => 0
  | n + 1 => E n + pc n
theorem E_two (m : Nat) : E (2 * m) = 2 * E m + m := by
  induction m with
  | zero => rfl
  | succ m ih =>
    show E (2 * m) + pc (2 * m) + pc (2 * m + 1) = 2 * (E m + pc m) + (m + 1)
    rw [ih, pc_two, pc_odd]
    omega
theorem E_odd (m : Nat) : E (2 * m + 1) = E m + E (m + 1) + m := by
  show E (2 * m) + pc (2 * m) = E m + (E m + pc m) + m
  rw [E_two, pc_two]
  omega
theorem E_even (m : Nat) : E (2 * m + 2) = 2 * E (m + 1) + m + 1 := E_two (m + 1)
def T (b : Nat) : Nat := b * 2 ^ b / 2
theorem T_succ (b : Nat) : T (b + 1) = (b + 1) * 2 ^ b := by
  unfold T
  rw [Nat.pow_succ, ← Nat.mul_assoc, Nat.mul_div_cancel _ (by decide)]
theorem T_two (b : Nat) : 2 * T b = b * 2 ^ b := by
  cases b with
  | zero => rfl
  | succ b => rw [T_succ, Nat.pow_succ, Nat.mul_comm 2, Nat.mul_assoc]
theorem pc_pow (q b : Nat) : pc (q * 2 ^ b) = pc q := by
  induction b with
  | zero => rw [Nat.pow_zero, Nat.mul_one]
  | succ b ih => rw [Nat.pow_succ, ← Nat.mul_assoc, Nat.mul_comm, pc_two, ih]
theorem E_pow (q b : Nat) : E (q * 2 ^ b + 2 ^ b) = E (q * 2 ^ b) + pc q * 2 ^ b + T b := by
  induction b with
  | zero =>
    show E (q * 1 + 1) = E (q * 1) + pc q * 1 + 0
    rw [Nat.mul_one, Nat.mul_one]
    rfl
  | succ b ih =>
    have e1 : q * 2 ^ (b + 1) = 2 * (q * 2 ^ b) := by rw [Nat.pow_succ, ← Nat.mul_assoc, Nat.mul_comm]
    have e2 : 2 ^ (b + 1) = 2 * 2 ^ b := by rw [Nat.pow_succ, Nat.mul_comm]
    rw [e1, e2, ← Nat.mul_add, E_two, E_two, ih, T_succ, Nat.mul_add, Nat.mul_add, T_two, Nat.add_mul]
    have e3 : pc q * (2 * 2 ^ b) = 2 * (pc q * 2 ^ b) := by rw [← Nat.mul_assoc, Nat.mul_comm (pc q), Nat.mul_assoc]
    rw [e3]
    omega
/-- the bits of n below c, descending -/
def D (n : Nat) : Nat → List Nat
  | 0 => []
  | c + 1 => if n / 2 ^ c % 2 = 1 then c :: D n c else D n c
def S : List Nat → Nat → Nat → Nat
  | [], _, acc => acc
  | b :: r, a, acc => S r (a + 1) (acc + a * 2 ^ b + T b)
theorem S_is (n c : Nat) : S (D n c) (pc (n / 2 ^ c)) (E (n / 2 ^ c * 2 ^ c)) = E n := by
  induction c with
  | zero =>
    show E (n / 2 ^ 0 * 2 ^ 0) = E n
    rw [Nat.pow_zero, Nat.div_one, Nat.mul_one]
  | succ c ih =>
    have e : n / 2 ^ (c + 1) = n / 2 ^ c / 2 := by rw [Nat.pow_succ, Nat.div_div_eq_div_mul]
    have e2 : n / 2 ^ (c + 1) * 2 ^ (c + 1) = 2 * (n / 2 ^ c / 2) * 2 ^ c := by
      rw [e, Nat.pow_succ, Nat.mul_comm (2 ^ c), ← Nat.mul_assoc, Nat.mul_comm _ 2]
    unfold D
    by_cases h : n / 2 ^ c % 2 = 1
    · rw [if_pos h, e2, e]
      show S (D n c) (pc (n / 2 ^ c / 2) + 1) (E (2 * (n / 2 ^ c / 2) * 2 ^ c) + pc (n / 2 ^ c / 2) * 2 ^ c + T c) = E n
      have p1 : pc (n / 2 ^ c / 2) + 1 = pc (n / 2 ^ c) := by rw [pc_half (n / 2 ^ c), h, Nat.add_comm]
      have p2 : pc (n / 2 ^ c / 2) = pc (2 * (n / 2 ^ c / 2)) := (pc_two _).symm
      have p3 : 2 * (n / 2 ^ c / 2) * 2 ^ c + 2 ^ c = n / 2 ^ c * 2 ^ c := by
        have z : n / 2 ^ c = 2 * (n / 2 ^ c / 2) + 1 := by omega
        conv => rhs; rw [z]
        rw [Nat.add_mul, Nat.one_mul]
      rw [p1, p2, ← E_pow, p3]
      exact ih
    · rw [if_neg h, e2, e]
      have z : 2 * (n / 2 ^ c / 2) = n / 2 ^ c := by omega
      have p1 : pc (n / 2 ^ c / 2) = pc (n / 2 ^ c) := by
        have q := pc_two (n / 2 ^ c / 2)
        rw [z] at q
        exact q.symm
      rw [z, p1]
      exact ih
theorem S_all {n c : Nat} (h : n < 2 ^ c) : S (D n c) 0 0 = E n := by
  have e := S_is n c
  rw [Nat.div_eq_of_lt h, Nat.zero_mul] at e
  exact e
theorem E_two_pow (p : Nat) : E (2 * 2 ^ p) = (p + 1) * 2 ^ p := by
  have e := E_pow 0 (p + 1)
  rw [Nat.zero_mul, Nat.zero_add, T_succ] at e
  have e2 : 2 ^ (p + 1) = 2 * 2 ^ p := by rw [Nat.pow_succ, Nat.mul_comm]
  rw [e2] at e
  rw [e]
  show 0 + 0 * _ + _ = _
  rw [Nat.zero_mul]
  omega
/-- the bits of n below c, ascending -/
theorem D_rev (n c : Nat) : (D n c).reverse = (List.range c).filter fun i => decide (n / 2 ^ i % 2 = 1) := by
  induction c with
  | zero => rfl
  | succ c ih =>
    rw [List.range_succ, List.filter_append, ← ih]
    show (if n / 2 ^ c % 2 = 1 then c :: D n c else D n c).reverse = _
    by_cases h : n / 2 ^ c % 2 = 1
    · rw [if_pos h, List.reverse_cons]
      simp [h]
    · rw [if_neg h]
      simp [h]
theorem D_lt {n c b : Nat} (h : b ∈ D n c) : b < c := by
  have e : b ∈ (D n c).reverse := List.mem_reverse.mpr h
  rw [D_rev] at e
  exact List.mem_range.mp (List.mem_filter.mp e).1
theorem D_len (n c : Nat) : (D n c).length ≤ c := by
  rw [← List.length_reverse, D_rev]
  exact Nat.le_trans (List.length_filter_le _ _) (by rw [List.length_range]; exact Nat.le_refl _)
/-! ### signs -/
/-- the signs of n to the base 2, the lowest first -/
def R (n : Nat) : List Nat := ((Nat.toDigits 2 n).map fun c => c.toNat).reverse
theorem R_small {n : Nat} (h : n < 2) : R n = [48 + n] := by
  unfold R
  rw [Nat.toDigits_of_lt_base h]
  have e : n = 0 ∨ n = 1 := by omega
  rcases e with rfl | rfl <;> rfl
theorem R_big {n : Nat} (h : 2 ≤ n) : R n = (48 + n % 2) :: R (n / 2) := by
  unfold R
  rw [Nat.toDigits_of_base_le (by decide) h, List.map_append, List.reverse_append]
  have e : n % 2 = 0 ∨ n % 2 = 1 := by omega
  rcases e with z | z <;> rw [z] <;> rfl
theorem R_facts : ∀ n : Nat, n < 2 ^ (R n).length ∧ (∀ i, i < (R n).length → (R n)[i]? = some (48 + n / 2 ^ i % 2)) := by
  intro n
  induction n using Nat.strongRecOn with
  | ind n ih =>
    by_cases h : n < 2
    · rw [R_small h]
      refine ⟨by show n < 2 ^ 1; omega, fun i hi => ?_⟩
      have hi : i < 1 := hi
      have e : i = 0 := by omega
      subst e
      show some (48 + n) = some (48 + n / 2 ^ 0 % 2)
      rw [Nat.pow_zero, Nat.div_one, Nat.mod_eq_of_lt h]
    · have h2 : 2 ≤ n := by omega
      obtain ⟨a, b⟩ := ih (n / 2) (by omega)
      rw [R_big h2]
      refine ⟨?_, fun i hi => ?_⟩
      · show n < 2 ^ ((R (n / 2)).length + 1)
        rw [Nat.pow_succ]
        omega
      · cases i with
        | zero =>
          show some (48 + n % 2) = some (48 + n / 2 ^ 0 % 2)
          rw [Nat.pow_zero, Nat.div_one]
        | succ i =>
          show (R (n / 2))[i]? = _
          rw [b i (by have hi : i + 1 < (R (n / 2)).length + 1 := hi; omega), Nat.div_div_eq_div_mul, Nat.pow_succ, Nat.mul_comm 2]
theorem R_len {n k : Nat} (hk : 0 < k) (h : n < 2 ^ k) : (R n).length ≤ k := by
  induction k generalizing n with
  | zero => exact absurd hk (by decide)
  | succ k ih =>
    by_cases c : n < 2
    · rw [R_small c]
      exact Nat.succ_le_succ (Nat.zero_le _)
    · rw [R_big (by omega)]
      rw [Nat.pow_succ] at h
      have hk2 : 0 < k := by
        cases k with
        | zero =>
          rw [Nat.pow_zero] at h
          omega
        | succ k => exact Nat.succ_pos k
      exact Nat.succ_le_succ (ih hk2 (by omega))
theorem R_count (n : Nat) : (R n).countP (fun c => decide (c = 49)) = pc n := by
  induction n using Nat.strongRecOn with
  | ind n ih =>
    by_cases h : n < 2
    · rw [R_small h]
      have e : n = 0 ∨ n = 1 := by omega
      rcases e with rfl | rfl <;> rfl
    · rw [R_big (by omega), List.countP_cons, ih (n / 2) (by omega), pc_half n]
      have e : n % 2 = 0 ∨ n % 2 = 1 := by omega
      rcases e with z | z <;> rw [z] <;> simp <;> omega
theorem cnt_le (n k : Nat) : cnt n k ≤ k := by
  induction k with
  | zero => exact Nat.le_refl _
  | succ k ih =>
    show cnt n k + n / 2 ^ k % 2 ≤ k + 1
    omega
theorem pc_le {n k : Nat} (h : n < 2 ^ k) : pc n ≤ k := by
  rw [← cnt_pc h]
  exact cnt_le n k
theorem E_le {n k : Nat} (h : n ≤ 2 ^ k) : E n ≤ n * k := by
  induction n with
  | zero => exact Nat.zero_le _
  | succ n ih =>
    have a := ih (Nat.le_of_succ_le h)
    have b := pc_le (n := n) (k := k) (Nat.lt_of_succ_le h)
    show E n + pc n ≤ (n + 1) * k
    rw [Nat.add_mul, Nat.one_mul]
    omega
theorem E_lt {n : Nat} (h : n < 2 ^ 402) : E n < 2 ^ 500 := by
  refine Nat.lt_of_le_of_lt (E_le (Nat.le_of_lt h)) ?_
  have a : n * 402 ≤ 2 ^ 402 * 402 := Nat.mul_le_mul_right _ (Nat.le_of_lt h)
  exact Nat.lt_of_le_of_lt a (by decide)
end M04
set_option maxHeartbeats 1000000
namespace M07
def gray (n : Nat) : Nat := n ^^^ (n >>> 1)
theorem gray_bit (n i : Nat) : (gray n).testBit i = (n.testBit i ^^ n.testBit (i + 1)) := by
  unfold gray
  rw [Nat.testBit_xor, Nat.testBit_shiftRight, Nat.add_comm 1 i]
theorem tele (p s : Nat) : (p ^^^ (p >>> s)) ^^^ ((p ^^^ (p >>> s)) >>> s) = p ^^^ (p >>> (2 * s)) := by
  apply Nat.eq_of_testBit_eq
  intro i
  simp only [Nat.testBit_xor, Nat.testBit_shiftRight]
  rw [show 2 * s + i = s + (s + i) by omega]
  cases p.testBit i <;> cases p.testBit (s + i) <;> cases p.testBit (s + (s + i)) <;> rfl
theorem xor_zero_eq {a b : Nat} (h : a ^^^ b = 0) : a = b := by
  apply Nat.eq_of_testBit_eq
  intro i
  have z : (a ^^^ b).testBit i = (0 : Nat).testBit i := by rw [h]
  rw [Nat.testBit_xor, Nat.zero_testBit] at z
  cases e1 : a.testBit i <;> cases e2 : b.testBit i <;> rw [e1, e2] at z <;> first | rfl | cases z
theorem half_zero {q : Nat} (h : q = q >>> 1) : q = 0 := by
  rw [Nat.shiftRight_eq_div_pow] at h
  omega
theorem gray_end {p s : Nat} (h : gray p < 2 ^ s) : p ^^^ (p >>> s) = p := by
  have e : (p >>> s) ^^^ ((p >>> s) >>> 1) = 0 := by
    have z : gray p >>> s = 0 := by
      rw [Nat.shiftRight_eq_div_pow]
      exact Nat.div_eq_of_lt h
    rw [← z]
    unfold gray
    apply Nat.eq_of_testBit_eq
    intro i
    simp only [Nat.testBit_xor, Nat.testBit_shiftRight]
    rw [show s + (1 + i) = 1 + (s + i) by omega]
  have e3 : p >>> s = 0 := half_zero (xor_zero_eq e)
  rw [e3, Nat.xor_zero]
theorem one_bit (x i : Nat) : decide (x / 2 ^ i % 2 = 1) = x.testBit i := (Nat.testBit_eq_decide_div_mod_eq).symm
theorem next_mod (x i : Nat) : x % 2 ^ (i + 1) = x % 2 ^ i + (if x.testBit i = true then 2 ^ i else 0) := by
  rw [Nat.pow_succ, Nat.mod_mul, ← one_bit]
  have h := Nat.mod_two_eq_zero_or_one (x / 2 ^ i)
  rcases h with h | h <;> simp [h]
/-- the lowest bit that is 0 -/
def Low (p low : Nat) : Prop := (∀ j, j < low → p.testBit j = true) ∧ p.testBit low = false
theorem low_mod {p low : Nat} (h : Low p low) : p % 2 ^ (low + 1) = 2 ^ low - 1 := by
  apply Nat.eq_of_testBit_eq
  intro i
  rw [Nat.testBit_mod_two_pow, Nat.testBit_two_pow_sub_one]
  by_cases h1 : i < low
  · rw [h.1 i h1, decide_eq_true h1, decide_eq_true (show i < low + 1 by omega)]
    rfl
  · by_cases h2 : i = low
    · subst h2
      rw [h.2]
      simp
    · rw [decide_eq_false (show ¬ i < low + 1 by omega), decide_eq_false h1]
      rfl
theorem two_pos (k : Nat) : 0 < 2 ^ k := Nat.two_pow_pos k
theorem low_p {p low : Nat} (h : Low p low) (i : Nat) : p.testBit i = if i < low + 1 then decide (i < low) else (p / 2 ^ (low + 1)).testBit (i - (low + 1)) := by
  have e := Nat.div_add_mod p (2 ^ (low + 1))
  rw [low_mod h] at e
  have l : 2 ^ low - 1 < 2 ^ (low + 1) := by
    have a := two_pos low
    rw [Nat.pow_succ]
    omega
  conv => lhs; rw [← e]
  rw [Nat.testBit_two_pow_mul_add _ l, Nat.testBit_two_pow_sub_one]
theorem low_s {p low : Nat} (h : Low p low) (i : Nat) : (p + 1).testBit i = if i < low + 1 then decide (low = i) else (p / 2 ^ (low + 1)).testBit (i - (low + 1)) := by
  have e := Nat.div_add_mod p (2 ^ (low + 1))
  rw [low_mod h] at e
  have a := two_pos low
  have l : 2 ^ low < 2 ^ (low + 1) := by
    rw [Nat.pow_succ]
    omega
  have e2 : p + 1 = 2 ^ (low + 1) * (p / 2 ^ (low + 1)) + 2 ^ low := by omega
  conv => lhs; rw [e2]
  rw [Nat.testBit_two_pow_mul_add _ l, Nat.testBit_two_pow]
theorem gray_next {p low : Nat} (h : Low p low) : gray (p + 1) = gray p ^^^ 2 ^ low := by
  apply Nat.eq_of_testBit_eq
  intro i
  rw [Nat.testBit_xor, gray_bit, gray_bit, low_p h, low_p h, low_s h, low_s h, Nat.testBit_two_pow]
  by_cases h1 : i < low
  · simp only [show i < low + 1 by omega, show i + 1 < low + 1 by omega, if_true]
    by_cases h2 : i + 1 < low
    · simp [h1, h2, show ¬ low = i by omega, show ¬ low = i + 1 by omega]
    · have h3 : low = i + 1 := by omega
      simp [h3]
  · by_cases h2 : i = low
    · subst h2
      simp
    · simp [show ¬ i < low + 1 by omega, show ¬ i + 1 < low + 1 by omega, show ¬ low = i by omega]
theorem xor_pow {x k : Nat} : x ^^^ 2 ^ k = if x.testBit k = true then x - 2 ^ k else x + 2 ^ k := by
  have split : x = 2 ^ (k + 1) * (x / 2 ^ (k + 1)) + ((if x.testBit k = true then 2 ^ k else 0) + x % 2 ^ k) := by
    have e := Nat.div_add_mod x (2 ^ (k + 1))
    rw [next_mod] at e
    omega
  have m := Nat.mod_lt x (two_pos k)
  have l1 : 2 ^ k + x % 2 ^ k < 2 ^ (k + 1) := by
    rw [Nat.pow_succ]
    omega
  have bits : ∀ (q r : Nat) (i : Nat), r < 2 ^ k → (2 ^ (k + 1) * q + (2 ^ k + r)).testBit i = ((2 ^ (k + 1) * q + r) ^^^ 2 ^ k).testBit i := by
    intro q r i hr
    have l2 : 2 ^ k + r < 2 ^ (k + 1) := by
      rw [Nat.pow_succ]
      omega
    have l3 : r < 2 ^ (k + 1) := by
      rw [Nat.pow_succ]
      omega
    rw [Nat.testBit_xor, Nat.testBit_two_pow_mul_add _ l2, Nat.testBit_two_pow_mul_add _ l3, Nat.testBit_two_pow]
    have er : 2 ^ k + r = 2 ^ k * 1 + r := by omega
    rw [er, Nat.testBit_two_pow_mul_add _ hr]
    by_cases h1 : i < k + 1
    · simp only [h1, if_true]
      by_cases h2 : i < k
      · simp [h2, show ¬ k = i by omega]
      · have h3 : i = k := by omega
        subst h3
        simp [Nat.testBit_lt_two_pow hr]
    · simp [h1, show ¬ k = i by omega]
  cases hb : x.testBit k with
  | true =>
    rw [hb] at split
    simp only [if_true] at split
    have e : 2 ^ (k + 1) * (x / 2 ^ (k + 1)) + x % 2 ^ k = x - 2 ^ k := by omega
    simp only [if_true]
    rw [← e]
    apply Nat.eq_of_testBit_eq
    intro i
    have b := bits (x / 2 ^ (k + 1)) (x % 2 ^ k) i m
    rw [← split] at b
    rw [Nat.testBit_xor, b, Nat.testBit_xor]
    cases (2 ^ (k + 1) * (x / 2 ^ (k + 1)) + x % 2 ^ k).testBit i <;> cases (2 ^ k).testBit i <;> rfl
  | false =>
    rw [hb] at split
    simp only [Bool.false_eq_true, if_false, Nat.zero_add] at split
    simp only [Bool.false_eq_true, if_false]
    have e : 2 ^ (k + 1) * (x / 2 ^ (k + 1)) + (2 ^ k + x % 2 ^ k) = x + 2 ^ k := by omega
    rw [← e]
    apply Nat.eq_of_testBit_eq
    intro i
    rw [bits (x / 2 ^ (k + 1)) (x % 2 ^ k) i m, ← split]
theorem gray_lt {n k : Nat} (h : n < 2 ^ k) : gray n < 2 ^ k := by
  unfold gray
  refine Nat.xor_lt_two_pow h ?_
  rw [Nat.shiftRight_eq_div_pow]
  exact Nat.lt_of_le_of_lt (Nat.div_le_self _ _) h
theorem gray_mod {n k : Nat} (h : n < 2 ^ k) : gray n % 2 ^ k = gray n := Nat.mod_eq_of_lt (gray_lt h)
end M07
set_option Elab.async false
set_option maxRecDepth 100000
set_option maxHeartbeats 2000000
/-! Errors that are caught and kept: an exception object behind its suite. -/
namespace OB
open PySem PySem.Spec PyProof.Rows L2

section kit
open PySem.W PySem.Calls
variable {prog : Program} {w : World} {A : Around} {E : Value → Shared → Prop} {s : Shared} {K : Frag} {x D : Addr} {ox : Obj} {od : Option Obj}
theorem cls_data (hc : (clsIn K D).isSome = true) {nm : Str} {a g : Value} (ha : findIn K (.ref D) nm = some (some a)) (hg : specialIn K a "__get__" = some (some g)) (ht : takesIn K a = some true) :
    findObj K D od nm = some (.bind g a) := by
  cases e : clsIn K D with
  | none => rw [e] at hc; cases hc
  | some cd =>
    unfold findObj
    simp [e, ha, hg, ht]
/-- the class of an exception with or without a dict of its own -/
theorem exc_class {Q : Option Value → Shared → Prop} (C : ExcC K D) (X : K.In s.heap) (I : InstAt s.heap x ox D od) (k : Q (some (.ref D)) { s with toks := s.toks + 1 }) :
    wpAny (model prog w) A (getAttr? (.ref x) "__class__") Q E s := by
  have found : findObj K D od "__class__" = some (.bind (.builtin "getset_descriptor.__get__") (.builtin "object.__class__")) :=
    cls_data (by obtain ⟨cd, e, _⟩ := any_some C.hd; simp [e]) C.ha C.hn C.ht
  obtain ⟨h0, g0, d0, t0, o0⟩ := s
  have ty0 := I.type (M := model prog w)
  have own := looks_findIn (M := model prog w) X C.hg
  have gat := looks_findIn (M := model prog w) X C.hk
  have fnd := looks_find (M := model prog w) X I found
  have isE : Looks (model prog w) h0 (isInstance (.ref x) (.type "BaseException")) true := ty0.andThen (looks_subIn X C.hs)
  have q2 : (Value.builtin "BaseException.__getattribute__" == Value.builtin "object.__getattribute__") = false := by decide +kernel
  have q1 : (onTheHeap (Value.ref D) && Value.builtin "BaseException.__getattribute__" == Value.builtin "object.__getattribute__") = false := by
    rw [q2, Bool.and_false]
  unfold getAttr? getAttrBy? getAttrBy
  refine wpAny_bind (wpAny_mkText (wpAny_bind (wpAny_attempt (wpAny_holding (wpAny_bind (ty0.at (wpAny_bind (own.at ?_))))))))
  dsimp only
  rw [q1]
  unfold getAttrByItsOwn hookBefore
  simp only [Bool.false_eq_true, if_false]
  refine wpAny_bind ?_
  rw [if_pos (show onTheHeap (Value.ref D) = true from rfl)]
  refine gat.at ?_
  refine wpAny_bind (wpAny_attempt (wpAny_holding ?_))
  unfold callGetattribute
  rw [if_neg (by decide)]
  unfold boundAndCalled
  rw [PySem.F.excAttr_ValueError.ga.bind (.ref x)]
  refine wpAny_bind (wpAny_pure ?_)
  refine wpAny_call (codeAny_call_builtin PySem.F.excAttr_ValueError.ga.plain PySem.F.entry_bexc_ga ?_)
  refine @check_slot (model prog w) _ _ ⟨h0, g0, d0, t0 + 1, o0⟩ "BaseException.__getattribute__" "BaseException" "__getattribute__" (.ref x) [.str "__class__" t0] [] _ (by decide +kernel) (by decide +kernel) isE
    (PySem.F.args_bexc_ga (.ref x) (.str "__class__" t0)) ?_
  unfold Builtin.«object.__getattribute__»
  refine wpAny_bind (wpAny_of_eq (a := ((Value.ref x : Value), [Value.str "__class__" t0])) (by first | rfl | (simp only [slotArgs]; rfl)) ?_)
  refine wpAny_bind (wpAny_pure (wpAny_bind (ty0.at (wpAny_bind (fnd.at ?_)))))
  dsimp only
  refine wpAny_bind (wpAny_holding (wpAny_call (class_get (s := ⟨h0, g0, d0, t0 + 1, o0⟩) (ox := ox) (od := od) X I C.hm ?_)))
  refine wpAny_pure ?_
  show wpAny _ _ (handedOut (.ref D)) _ _ _
  rw [handedOut_of (v := .ref D) rfl]
  first
    | exact wpAny_pure (wpAny_pure k)
    | exact wpAny_pure k
    | exact wpAny_pure (wpAny_bind (wpAny_pure (wpAny_pure k)))
theorem exc_kit (C : ExcC K D) : KitX K (.ref x) (.ref D) (fun h => InstAt h x ox D od) := by
  obtain ⟨cd, hcd, _⟩ := any_some C.hd
  unfold clsIn at hcd
  split at hcd
  · rename_i c1 d1 cd1 sl1 look
    refine ⟨fun _ _ _ I => I.type, fun M h X _ A' Q' E' s' keep q => ?_, fun h tp dd its n sl X htp => ?_, fun X I k => exc_class C X I k⟩
    · unfold isType loadHead
      exact wpAny_bind (wpAny_loadPart (keep _ _ (X _ _ look)) (wpAny_pure q))
    · cases e : (Value.ref D == Value.ref tp) with
      | false => rfl
      | true =>
        have e2 : D = tp := Value.ref.inj (beq_iff_eq.mp e)
        rw [← e2] at htp
        have z := (X _ _ look).symm.trans htp
        cases z
  · cases hcd
end kit

/-- an exception object that is kept: its class, its own dict -/
def ExA (cls : Value) (d : Option Addr) (a : Addr) : HO := .ext fun h => ∃ (oe : Obj) (vs : Array Value), h.get? a = some oe ∧ Zc cls d oe ∧ oe.data = .fields vs
theorem exA_ok {P : Program} {w : World} {H : Hp} {h : Heap} {a : Addr} {cls : Value} {d : Option Addr} {oe : Obj} {vs : Array Value} (e : h.get? a = some oe) (z : Zc cls d oe) (f : oe.data = .fields vs) : ObjOk P w H h a (ExA cls d a) :=
  ⟨⟨oe, vs, e, z, f⟩, ⟨oe, e⟩, fun _ _ ⟨o, v, q, r⟩ k => ⟨o, v, k o q, r⟩⟩
theorem exA_at {P : Program} {w : World} {H : Hp} {h : Heap} {a : Addr} {cls : Value} {d : Option Addr} (ok : HOk P w H h) (e : H a = some (ExA cls d a)) : ∃ (oe : Obj) (vs : Array Value), h.get? a = some oe ∧ Zc cls d oe ∧ oe.data = .fields vs := by
  have z : ObjOk P w H h a (ExA cls d a) := ok a _ e
  exact z.1

section
variable {X : Cx} {pins : List (Addr × Obj)} {σ : L2.St} {H : Hp} {s : Shared}
/-- an object that came behind the entry is tracked from now on -/
theorem track {a : Addr} {o : HO} (I : Inv X pins σ H s) (hn : H a = none) (h0 : X.s_0.heap.get? a = none) (nL : a ≠ X.env.locals) (nC : ∀ x c, X.env.cells.lookup x = some c → c ≠ a)
    (nP : ∀ p ∈ X.pn ++ pins, p.1 ≠ a) (new : ObjOk X.prog X.w (upd H a o) s.heap a o) : Inv X pins σ (upd H a o) s := by
  have ne : ∀ {b u}, X.s_0.heap.get? b = some u → b ≠ a := fun {b u} e z => by
    rw [z, h0] at e
    cases e
  refine ⟨I.ok, I.os, I.bare, ⟨I.base.keep, I.base.slot, fun b u e n hx => ?_, I.base.there, fun b xs e => ?_, fun b u v e => ?_, fun b ps e => ?_⟩, I.loc, I.cell, ?_, fun x c e => ?_, fun p hp => ?_, ?_, I.len⟩
  · rw [upd_ne (ne e)]
    exact I.base.free b u e n hx
  · have q := I.base.tups b xs e
    rw [upd_ne (ne_of_none q hn)]
    exact q
  · have q := I.base.frzs b u v e
    rw [upd_ne (ne_of_none q hn)]
    exact q
  · obtain ⟨m, q⟩ := I.base.tbls b ps e
    exact ⟨m, by rw [upd_ne (ne_of_none q hn)]; exact q⟩
  · rw [upd_ne (Ne.symm nL)]
    exact I.free
  · rw [upd_ne (nC x c e)]
    exact I.freeC x c e
  · obtain ⟨e, n, r1, r2, r3⟩ := I.pin p hp
    exact ⟨e, by rw [upd_ne (nP p hp)]; exact n, r1, r2, r3⟩
  · exact I.hok.laidN (fun _ _ e => e) hn new
end

/-- what 'except x as n: kept = n' wishes: behind it slot j holds the exception, which is tracked -/
def wKeep (K : PySem.W.Frag) (c : Value) (i j : Nat) (Wout : WX) (D : Ends) : WX := fun cls d σ H =>
  ∃ b, PySem.W.exmOne K cls c = some b ∧
    (b = true → ∀ a, H a = none → D.nx (((σ.set i (some (.ref a))).set j (some (.ref a))).set i none) (upd H a (ExA cls d a))) ∧ (b = false → Wout cls d σ H)

section
variable {X : Cx} {x n m : Str} {c : Value} {i j : Nat} {body : List Stmt} {np pos pos' p1 p2 p3 : Pos} {tb : WX → TS} {Wout : WX}
theorem ps_try_keep (hs : X.stack = X.env :: X.outer) (hf : X.env.frame = some X.env.locals) (hx : X.ex = []) (hN : X.N.Nodup) (hi : X.N[i]? = some n) (hln : X.env.kindOf n = some .local)
    (hj : X.N[j]? = some m) (hlm : X.env.scope.names.lookup m = some .local) (hc : Names X x c) (tk : Takes X Wout)
    (hb : ∀ (W : WX) (pn : List (Addr × Obj)) (xe : Value → Shared → Prop), Takes (X.tr pn xe) W → PassesOwn (model X.prog X.w) X.A X.env xe → PSs (X.tr pn xe) body (tb W))
    (hdn : (n == ("__debug__" : Str)) = false := by decide) (hcn : (n == ("__classdict__" : Str)) = false := by decide)
    (hsw : ∀ env : Env, swapsWith (.Name n p2) (some (.Name m p1)) p3.line env = pure false := by intro _; rfl) :
    PS X (.Try body [.ExceptHandler (some (.Name x np)) (some n) [.Assign [.Name m p1] (.Name n p2) p3] pos'] [] [] pos) (fun D σ H => tb (wKeep X.K c i j Wout D) D σ H) := by
  refine ⟨fun pins s σ H D I h => ?_⟩
  have okX := I.ok
  have frames : X.A.frames = some (X.env :: X.outer) := by rw [okX.frames, hs]
  have lj : Loc X.env.scope m := .inl hlm
  refine wpAny_Try_except ?_
  have run := (hb (wKeep X.K c i j Wout D) (X.pn ++ pins) (fun e s₁ => wpAny (model X.prog X.w) X.A (noteFrame e X.env)
    (fun _ s₂ => wpAny (model X.prog X.w) X.A (setFlight e none)
      (fun _ s₃ => wpAny (model X.prog X.w) X.A (handleBy e X.env [.ExceptHandler (some (.Name x np)) (some n) [.Assign [.Name m p1] (.Name n p2) p3] pos']) (SP X pins D) X.xe s₃) X.xe s₂) X.xe s₁)
    (fun u s' air => ?_) PassesOwn.looking).run [] s σ H D (I.toTry _) h
  · refine wpAny_mono run (fun f s1 end1 => ?_) (fun _ _ z => z)
    cases f with
    | next =>
      obtain ⟨σ1, H1, J1, q⟩ := end1
      exact wpAny_execs_nil ⟨σ1, H1, J1.ofTry okX, q⟩
    | ret u =>
      obtain ⟨v, σ1, H1, J1, r, q⟩ := end1
      exact ⟨v, σ1, H1, J1.ofTry okX, r, q⟩
    | brk =>
      obtain ⟨σ1, H1, J1, q⟩ := end1
      exact ⟨σ1, H1, J1.ofTry okX, q⟩
    | cont =>
      obtain ⟨σ1, H1, J1, q⟩ := end1
      exact ⟨σ1, H1, J1.ofTry okX, q⟩
  · obtain ⟨a, B, sI, pins1, σ1, H1, cls, d, rfl, J0, ground, up0, sky, na, os1, bare1, b, hb1, yes, no⟩ := air
    have J : Inv X pins σ1 H1 sI := J0.ofTry okX
    have skyX : Sky B (X.env :: X.outer) a (Zc cls d) X.env.locals s'.heap := by
      rw [← hs]
      exact sky
    have Ba : B.get? a = none := by
      rcases skyX with ⟨_, z, _⟩ | ⟨_, z, _⟩ | ⟨_, z, _⟩ <;> exact z
    show wpAny (model X.prog X.w) X.A (noteFrame (.ref a) X.env) _ _ _
    refine Sky.land Zc.steady frames hf skyX fun h3 fl3 up3 => ?_
    have J3 : Inv X pins σ1 H1 { s' with heap := h3 } := J.landed ground fl3.1 (up0.trans up3) os1 bare1
    obtain ⟨oe3, vs3, he3, hz3, hd3⟩ := fl3.there
    have off : a ∉ frs (X.env :: X.outer) := fun hm => by
      obtain ⟨_, o', e', hnf⟩ := fl3.2.2.1.mem hm
      rw [he3] at e'
      cases e'
      exact hnf _ hd3
    have sIa : sI.heap.get? a = none := by
      cases e : sI.heap.get? a with
      | none => rfl
      | some o =>
        have z := ground a o e (by rw [hs]; exact off)
        rw [Ba] at z
        cases z
    have s0a : X.s_0.heap.get? a = none := by
      cases e : X.s_0.heap.get? a with
      | none => rfl
      | some o =>
        obtain ⟨o', z⟩ := J.base.there a o e (by rw [hx]; exact fun z => nomatch z)
        rw [sIa] at z
        cases z
    have nL : a ≠ X.env.locals := fun z => off (List.mem_filterMap.mpr ⟨X.env, List.mem_cons_self, by rw [hf, z]⟩)
    have nF : a ∉ X.fs := fun hm => by
      obtain ⟨e, he, q⟩ := List.mem_filterMap.mp hm
      exact off (List.mem_filterMap.mpr ⟨e, List.mem_cons_of_mem _ he, q⟩)
    have nC : ∀ y k, X.env.cells.lookup y = some k → k ≠ a := fun y k e z => by
      obtain ⟨v, o, ho, _⟩ := J.cell y k e
      rw [z, sIa] at ho
      cases ho
    have nP : ∀ p ∈ X.pn ++ pins, p.1 ≠ a := fun p hp z => by
      have q := (J.pin p hp).1
      rw [z, sIa] at q
      cases q
    have S3 := J3.suite he3 hd3 na nL nF
    refine wpAny_handleBy_cons (codeAny_handlers_test ?_) (by intro q; cases q)
    have LT : PySem.W.Looks (model X.prog X.w) h3 (typeOf (.ref a)) cls := fun A Q E s k q => wpAny_typeOf_ref (k _ _ he3) (by rw [hz3.1]; exact q)
    have LM := PySem.W.exm_one (M := model X.prog X.w) (J3.kIn) LT hb1
    have named : ∀ {Q : Value → Shared → Prop} {E : Value → Shared → Prop}, Q c { s' with heap := h3 } →
        wpAny (model X.prog X.w) (X.A.mark (some (.ref a))) (eval (.Name x np) X.env) Q E { s' with heap := h3 } := fun {Q E} q => by
      obtain ⟨hg, hdbg, hm | ⟨hm, hv, hnn⟩⟩ := hc
      · exact ld_glob (X := X.suite a ((a, oe3) :: (X.pn ++ pins))) S3 hg hm q hdbg
      · exact ld_blt (X := X.suite a ((a, oe3) :: (X.pn ++ pins))) S3 hg hm hv q hnn hdbg
    refine named (LM.here ?_)
    cases b with
    | true =>
      refine codeAny_handlers_suite_as ?_
      refine HandSPX.lands_againZ fl3 fun h4 fl4 up4 => ?_
      have J4 : Inv X pins σ1 H1 { s' with heap := h4 } := J.landed ground fl4.1 ((up0.trans up3).trans up4) os1 bare1
      obtain ⟨oe4, vs4, he4, hz4, hd4⟩ := fl4.there
      have S4 := J4.suite he4 hd4 na nL nF
      refine store_ok (X := X.suite a ((a, oe4) :: (X.pn ++ pins))) (v := .ref a) S4 hN hi (.inl hln) rfl (fun s5 S5 => ?_) (.inr hln)
      have hiσ : i < σ1.length := by
        rw [J.len]
        exact (List.getElem?_eq_some_iff.mp hi).1
      have kept := pss_one (ps_set (X := X.suite a ((a, oe4) :: (X.pn ++ pins))) (pos := p3) (pos' := p1) hN hj lj (pe_var (X := X.suite a ((a, oe4) :: (X.pn ++ pins))) (pos := p2) hi (.inl hln) hdn hcn) (hsw _) (.inr hlm))
      refine wpAny_mono (kept.run [] s5 _ H1 { nx := fun σ' H' => H' = H1 ∧ σ' = (σ1.set i (some (.ref a))).set j (some (.ref a)), rt := fun _ _ => False, bk := fun _ _ => False, ct := fun _ _ => False } S5
        ⟨.ref a, by rw [List.getElem?_set_self hiσ], rfl, rfl⟩) (fun f s6 end6 => ?_) (fun _ _ z => False.elim z)
      cases f with
      | next =>
        obtain ⟨σ6, H6, S6, e6, e7⟩ := end6
        subst e6 e7
        have at6 := (S6.pin (a, oe4) (List.mem_append_left _ List.mem_cons_self)).1
        have J6 : Inv X pins _ H6 s6 := S6.unsuite okX
        have J7 := track (o := ExA cls d a) J6 na s0a nL nC nP (exA_ok at6 hz4 hd4)
        exact gone_ok J7 hN hi hln fun s8 J8 => ⟨_, _, J8, yes rfl a na⟩
      | ret u =>
        obtain ⟨_, _, _, _, _, z⟩ := end6
        exact z.elim
      | brk =>
        obtain ⟨_, _, _, z⟩ := end6
        exact z.elim
      | cont =>
        obtain ⟨_, _, _, z⟩ := end6
        exact z.elim
    | false =>
      show wpAny _ X.A (handleBy (.ref a) X.env []) _ _ _
      refine wpAny_handleBy_nil ?_
      obtain ⟨k1, k2, k3, oe, vs, T, oT, ts', he, hz, hd, h1, hr⟩ := id fl3
      unfold PySem.passOn
      refine wpAny_bind (wpAny_field he hd h1 ?_)
      rw [if_neg (by simp)]
      have out : wpAny (model X.prog X.w) X.A (setFlight (.ref a) X.env.frame) (fun _ s4 => wpAny (model X.prog X.w) X.A (throw (.ref a) : Sem Flow) (SP X pins D) X.xe s4) X.xe { s' with heap := h3 } := by
        rw [hf]
        refine HandSPX.setFlight_upZ fl3 fun h4 hh4 up4 => wpAny_throw (tk _ _ ?_)
        exact ⟨a, B, sI, pins, σ1, H1, cls, d, rfl, J, ground, (up0.trans up3).trans up4, .inr (.inr (by rw [hs]; exact hh4)), na, os1, bare1, no rfl⟩
      first
        | exact wpAny_bind (wpAny_pure (wpAny_bind out))
        | exact wpAny_bind out
end

/-- isinstance(e, c), e an exception that is kept -/
def rIsX (K : PySem.W.Frag) : List V → Hp → VK → Prop := fun xs H Q => ∃ (a D : Addr) (d : Option Addr) (c : V) (u : Value) (b : Bool), xs = [.ref a, c] ∧ ExcC K D ∧ H a = some (ExA (.ref D) d a) ∧ (∀ dd, d = some dd → ∃ fs, H dd = some (.xd fs)) ∧ ClsV c u ∧ PySem.W.kitOne K (.ref D) u = some b ∧ Q (.bl b) H
theorem inst_at {X : Cx} {pins : List (Addr × Obj)} {σ : L2.St} {H : Hp} {s : Shared} {a D : Addr} {d : Option Addr} (I : Inv X pins σ H s) (ha : H a = some (ExA (.ref D) d a)) (hd : ∀ dd, d = some dd → ∃ fs, H dd = some (.xd fs)) :
    ∃ oe od, PySem.W.InstAt s.heap a oe D od := by
  obtain ⟨oe, vs, e, ⟨z1, z2⟩, f⟩ := exA_at I.hok ha
  obtain ⟨oc, odd, oda, osl⟩ := oe
  dsimp only at z1 z2 f
  subst z1 z2 f
  cases odd with
  | none => exact ⟨_, none, e, rfl, rfl, trivial⟩
  | some dd =>
    obtain ⟨fs, hfs⟩ := hd dd rfl
    obtain ⟨mA, hns, _⟩ := (show ObjOk X.prog X.w H s.heap dd (.xd fs) from I.hok dd _ hfs)
    obtain ⟨od, ho, _⟩ := lookIn_ns hns
    exact ⟨_, some od, e, rfl, rfl, ho⟩
theorem call_isX {X : Cx} : CallR X (.builtin "isinstance") (rIsX X.K) := by
  intro pins s σ H xs us Q I r h
  obtain ⟨a, D, d, c, u, b, rfl, C, ha, hd, hc, e, q⟩ := h
  obtain ⟨u1, u2, rfl, r1, r2⟩ := vals2 r
  have e2 := hc.eq r2
  subst e2
  obtain rfl : u1 = Value.ref a := r1
  obtain ⟨oe, od, J⟩ := inst_at I ha hd
  exact PySem.W.kia_one (exc_kit C) I.kIn J e (fun z => nomatch z) fun tk => ⟨.bl b, H, I.tok tk, rfl, q⟩
theorem call_or {X : Cx} {f : Value} {r1 r2 : List V → Hp → VK → Prop} (h1 : CallR X f r1) (h2 : CallR X f r2) : CallR X f (fun xs H Q => r1 xs H Q ∨ r2 xs H Q) := by
  intro pins s σ H xs us Q I r h
  rcases h with h | h
  · exact h1 pins s σ H xs us Q I r h
  · exact h2 pins s σ H xs us Q I r h
/-- e.f of an exception that is kept -/
def tXa (K : PySem.W.Frag) (f : Str) (te : TE) : TE := fun σ H Q => te σ H fun x H1 => ∃ (a D dd : Addr) (fs : List (Str × V)) (v : V), x = .ref a ∧ XfC K D ∧ PySem.W.findIn K (.ref D) f = some none ∧ H1 a = some (ExA (.ref D) (some dd) a) ∧ H1 dd = some (.xd fs) ∧ fs.lookup f = some v ∧ Q v H1
theorem pe_xa {X : Cx} {e : Expr} {te : TE} {pos : Pos} {n : Str} (he : PE X e te) (hb : attributeBase e n X.env (eval e X.env) = eval e X.env := by rfl) : PE X (.Attribute e n pos) (tXa X.K n te) := by
  refine ⟨fun pins s σ H Q I h => ?_⟩
  refine attr_of hb (thn (he.run pins s σ H _ I h) fun u s1 got => ?_)
  obtain ⟨y, H1, I1, ry, a, D, dd, fs, v, rfl, T, hno, ha, hdd, hl, q⟩ := got
  obtain rfl : u = Value.ref a := ry
  obtain ⟨oe, vs, eo, ⟨z1, z2⟩, hd⟩ := exA_at I1.hok ha
  obtain ⟨mA, hns, hr⟩ := (show ObjOk X.prog X.w H1 s1.heap dd (.xd fs) from I1.hok dd _ hdd)
  obtain ⟨od, ho, lk⟩ := lookIn_ns hns
  obtain ⟨u, hu, ru⟩ := RelO.some_of (v := v) (o := mA n) (by rw [← hl]; exact hr n)
  have J : PySem.W.InstAt s1.heap a oe D (some od) := ⟨eo, z1, by unfold PySem.W.notCls; rw [hd] <;> rfl, by rw [z2]; exact ho⟩
  exact HandSPX.exc_get I1.kIn J T.ga T.gg T.exC (PySem.W.findObj_own T.hdC hno rfl (by rw [lk, hu])) (handed_of ru) ⟨v, H1, I1.tok _, ru, q⟩
end OB
/-! Lambdas handed to a def: with no parameter, or with one that has a written int as its default. -/
namespace OB
open PySem PySem.Spec PyProof.Rows L2 LamX

section kit
open PySem.W PySem.Calls
abbrev lFn (qual : Str) (params : Arguments) (body : Expr) (scope : Scope) (cl : List (Str × Addr)) (dV pm cdv ct : Value) : FuncData :=
  { name := "<lambda>", qualname := qual, params := params, body := .expr body, scope := scope, globals := mainGlobals, closure := cl, defaults := dV, kwdefaults := .none, doc := .none, pyModule := pm, annotations := none, code := cdv, closureTuple := ct, builtins := builtinsNs }
abbrev lObj (qual : Str) (params : Arguments) (body : Expr) (scope : Scope) (cl : List (Str × Addr)) (dV pm cdv ct : Value) : Obj :=
  { cls := .type "function", data := .func (lFn qual params body scope cl dV pm cdv ct) }
variable {M : Model} {A : Around} {E : Value → Shared → Prop} {s : Shared} {qual : Str} {params : Arguments} {body : Expr} {scope : Scope} {env : Env} {c P : Addr} {ps : Array Value} {pos : Pos} {firstLine : Nat} {mg : Str → Option Value}
  {clos : List (Str × Addr)} {Q : Value → Shared → Prop} {dV : Value}
/-- a lambda's object is made: the code object comes by hcode1 -/
theorem tail_by (hcl : closureFor scope env = pure clos) (hge0 : env.globals = mainGlobals) (hg : s.heap.Ns mainGlobals mg) (hgP : mainGlobals ≠ P) (hb : s.heap.BuiltinsAt mg P)
    {G : Value → Heap → Heap → Prop}
    (hG : ∀ cv h1 h2, G cv h1 h2 → Heap.ExtBut P h1 h2 ∧ h1.objs.size ≤ h2.objs.size)
    (code : ∀ (h1 : Heap) (tk1 : Tok) (Q1 : Value → Shared → Prop), (∀ b o, s.heap.get? b = some o → h1.get? b = some o) → s.heap.objs.size ≤ h1.objs.size →
      (∀ cv h2 tk, G cv h1 h2 → Q1 cv { s with heap := h2, toks := tk }) → wpAny M A (functionCode env pos firstLine "<lambda>" qual params scope (.expr body)) Q1 E { s with heap := h1, toks := tk1 })
    (h : ∀ cv ctv h1 h2 tk, (∀ b o, s.heap.get? b = some o → h1.get? b = some o) → s.heap.objs.size ≤ h1.objs.size → G cv h1 h2 →
      Q (.ref h2.objs.size) { s with heap := h2.push (lObj qual params body scope clos dV ((mg "__name__").getD .none) cv ctv), toks := tk }) :
    wpAny M A (makeTail "<lambda>" qual params (.expr body) scope env dV .none none pos firstLine) Q E s := by
  obtain ⟨bm, ob, hbm, hne0, _, hneP, hbo, hcls, hdict, hdata⟩ := hb
  have go : ∀ (ctv : Value) (h1 : Heap) (tk1 : Tok), (∀ b o, s.heap.get? b = some o → h1.get? b = some o) → s.heap.objs.size ≤ h1.objs.size →
      wpAny M A (functionCode env pos firstLine "<lambda>" qual params scope (.expr body) >>= fun cv => builtinsFor mainGlobals env.builtins >>= fun bi => nsGet mainGlobals "__name__" >>= fun nm => pure Value.none >>= fun doc =>
        newObj (.type "function") (.func { name := "<lambda>", qualname := qual, params := params, body := .expr body, scope := scope, globals := mainGlobals, closure := clos, closureTuple := ctv, code := cv, builtins := bi, defaults := dV, kwdefaults := .none, annotations := none, pyModule := nm.getD .none, doc := doc })) Q E { s with heap := h1, toks := tk1 } := by
    intro ctv h1 tk1 k1 z1
    refine wpAny_bind (code h1 tk1 _ k1 z1 fun cv h2 tk g => ?_)
    obtain ⟨x2, z2⟩ := hG cv h1 h2 g
    have hg2 := (hg.keeps k1).extBut x2 hgP
    refine wpAny_bind (wpAny_builtinsFor hg2 hbm hne0 (x2 _ _ hneP (k1 _ _ hbo)) hcls hdict hdata ?_)
    refine wpAny_bind (wpAny_nsGet hg2 ?_)
    exact wpAny_bind (wpAny_pure (wpAny_newObj_type (h cv ctv h1 h2 tk k1 z1 g) (by size_fits)))
  unfold makeTail
  rw [hcl, hge0]
  refine wpAny_bind (wpAny_pure ?_)
  cases clos with
  | nil => exact wpAny_bind (wpAny_pure (go .none s.heap s.toks (fun _ _ e => e) (Nat.le_refl _)))
  | cons q r =>
    refine wpAny_bind (wpAny_newTextTuple ?_)
    exact go _ _ s.toks (fun b o e => Heap.get?_push_of_some _ e) (by rw [Heap.size_push]; omega)
end kit

section
variable {X : Cx} {pins : List (Addr × Obj)} {σ : L2.St} {H : Hp} {s : Shared}
/-- what stands of a lambda's defaults: none, or a tuple of ints that nobody tracks -/
def DflAt (h : Heap) (H : Hp) (fs : List Addr) (dV : Value) : List Value → Prop
  | [] => dV = .none
  | ds => ∃ (T : Addr) (o : Obj) (n : Nat), dV = .ref T ∧ h.get? T = some o ∧ o.data = .seq ds.toArray n ∧ H T = none ∧ T ∉ fs
/-- a lambda is made from makeTail on -/
theorem lam_tail {T : List (Addr × Str)} {c P : Addr} {params : Arguments} {body : Expr} {scope : Scope} {pos : Pos} {dV : Value} {ds : List Value} {E : Value → Shared → Prop} {Q : Value → Shared → Prop} (I : Inv X pins σ H s) (TB : TabB X.base X.mg c P) (hcode : X.env.code = .ref c)
    (hm : (P, X.env.qual ++ "<lambda>") ∈ T) (hu : ∀ p ∈ T, p.1 = P → p.2 = X.env.qual ++ "<lambda>") (hT : Tabs T H) (hfree : ∀ y ∈ scope.names, y.2 = .free → ∃ c, X.env.cells.lookup y.1 = some c)
    (hd : DflAt s.heap H (X.env.locals :: X.fs) dV ds)
    (h : ∀ (f c' : Addr) (pm ctv : Value) (H1 : Hp) (s' : Shared), Inv X pins σ H1 s' → ExtN H H1 → Tabs T H1 → DflAt s'.heap H1 (X.env.locals :: X.fs) dV ds →
      s'.heap.get? f = some (lObj (X.env.qual ++ "<lambda>") params body scope (cloFrom X.env.cells scope.names []) dV pm (.ref c') ctv) → H1 f = none → f ≠ X.env.locals → f ∉ X.fs → H1 c' = some (CodeO c' (X.env.qual ++ "<lambda>")) → Q (.ref f) s') :
    wpAny (model X.prog X.w) X.A (makeTail "<lambda>" (X.env.qual ++ "<lambda>") params (.expr body) scope X.env dV .none none pos pos.line) Q E s := by
  obtain ⟨ps, hP, ht, ha⟩ := hT _ hm
  have bP : s.heap.BuiltinsAt X.mg P := TB.bm.keeps I.bk
  have hP' : s.heap.get? P = some { cls := .none, data := .fields ps } := I.hok P _ hP
  have nLoc : ∀ f, s.heap.objs.size ≤ f → f ≠ X.env.locals := fun f hf z => by
    have h1 := I.lt
    rw [← z] at h1
    exact Nat.lt_irrefl _ (Nat.lt_of_lt_of_le h1 hf)
  have CH := TB.code.keeps I.bk
  have later : ∀ {h1 : Heap} {H1 : Hp}, (∀ b o, s.heap.get? b = some o → H b = none → b ≠ P → h1.get? b = some o) → (∀ b o, s.heap.get? b = some o → H b = none → H1 b = none) → DflAt h1 H1 (X.env.locals :: X.fs) dV ds := fun {h1 H1} k1 k2 => by
    cases ds with
    | nil => exact hd
    | cons d r =>
      obtain ⟨Td, o, n, e1, e2, e3, e4, e5⟩ := hd
      refine ⟨Td, o, n, e1, k1 _ _ e2 e4 (fun z => ?_), e3, k2 _ _ e2 e4, e5⟩
      rw [z, hP] at e4
      cases e4
  cases hc : codeAmong pos ps.toList with
  | none =>
    refine tail_by (mg := X.mg) (P := P) (closure_ok hfree) I.ok.glob (I.mod.glob.keeps I.bk) TB.gP bP
      (G := fun cv h1 h2 => ∃ c', cv = .ref c' ∧ Heap.ExtBut P h1 h2 ∧ h1.objs.size ≤ c' ∧ c' < h2.objs.size ∧ h2.CodeRec (.ref c') (X.env.qual ++ "<lambda>") ∧ h2.get? P = some (PySem.W.tabObj (ps ++ #[rawInt pos.line, rawInt pos.col, .ref c'])))
      (fun cv h1 h2 ⟨c', _, x, l1, l2, _⟩ => ⟨x, Nat.le_trans l1 (Nat.le_of_lt l2)⟩) (fun h1 tk1 Q1 k1 z1 q1 => ?_) (fun cv ctv h1 h2 tk k1 z1 g => ?_)
    · exact wpAny_functionCodeX hcode ((CH.keeps k1).code (k1 _ _ hP') ht) ((CH.keeps k1).tab (k1 _ _ hP')) hc fun c' h2 tk hx hge hlt _ hrec htb _ => q1 (.ref c') h2 tk ⟨c', rfl, hx, hge, hlt, hrec, htb.2⟩
    · obtain ⟨c', rfl, hx, hge, hlt, hrec, htb⟩ := g
      obtain ⟨c2, oc, vs, t, e2, hoc, hdc, hv⟩ := hrec
      cases e2
      have hge' : s.heap.objs.size ≤ c' := Nat.le_trans z1 hge
      have hsz : s.heap.objs.size ≤ h2.objs.size := Nat.le_trans hge' (Nat.le_of_lt hlt)
      have nC : H c' = none := I.hok.fresh hge'
      have I1 := inv_table (t' := tk) (more := #[rawInt pos.line, rawInt pos.col, .ref c']) (h' := h2.push (lObj (X.env.qual ++ "<lambda>") params body scope (cloFrom X.env.cells scope.names []) dV ((X.mg "__name__").getD .none) (.ref c') ctv)) I hP
        (fun b o hb e => Heap.get?_push_of_some _ (hx b o hb (k1 _ _ e))) (Heap.get?_push_of_some _ htb) hge' ⟨oc, vs, t, Heap.get?_push_of_some _ hoc, hdc, hv⟩
      have hE : ExtN H (upd (upd H P (.tbl (ps ++ #[rawInt pos.line, rawInt pos.col, .ref c']))) c' (CodeO c' (X.env.qual ++ "<lambda>"))) := fun b o e n => by
        rw [upd_ne (ne_of_none e nC), upd_ne (fun z => n ps (Option.some.inj (e.symm.trans (by rw [z]; exact hP))))]
        exact e
      have eL : (ps ++ #[rawInt pos.line, rawInt pos.col, .ref c']).toList = ps.toList ++ [rawInt pos.line, rawInt pos.col, .ref c'] := by simp
      refine h h2.objs.size c' _ ctv _ _ I1 hE (fun p hp => ?_) (later (fun b o e n hb => Heap.get?_push_of_some _ (hx b o hb (k1 _ _ e))) fun b o e n => ?_) (Heap.get?_push_size _ rfl) ?_ (nLoc _ hsz) (I.nofs hsz) upd_same
      · by_cases hb : p.1 = P
        · rw [hu p hp hb, hb]
          refine ⟨_, by rw [upd_ne (ne_of_none hP nC), upd_same], by rw [eL]; exact PySem.TriplesOk_snoc _ _ _ _ ht, fun p' cv hcv => ?_⟩
          rw [eL] at hcv
          rcases among_app _ ht hcv with z | z
          · obtain ⟨c0, e1, e2⟩ := ha p' cv z
            exact ⟨c0, e1, hE _ _ e2 codeO_ne⟩
          · exact ⟨c', z, upd_same⟩
        · obtain ⟨ps', a1, a2, a3⟩ := hT p hp
          refine ⟨ps', by rw [upd_ne (ne_of_none a1 nC), upd_ne hb]; exact a1, a2, fun p' cv hcv => ?_⟩
          obtain ⟨c0, e1, e2⟩ := a3 p' cv hcv
          exact ⟨c0, e1, hE _ _ e2 codeO_ne⟩
      · rw [upd_ne (Nat.ne_of_lt (Nat.lt_of_lt_of_le (Heap.lt_size e) hge')), upd_ne (fun z => by rw [z, hP] at n; cases n)]
        exact n
      · rw [upd_ne (Nat.ne_of_gt hlt), upd_ne (Nat.ne_of_gt (Nat.lt_of_lt_of_le (Heap.lt_size hP') hsz))]
        exact I.hok.fresh hsz
  | some cv0 =>
    obtain ⟨c', e, hco⟩ := ha pos cv0 hc
    subst e
    refine tail_by (mg := X.mg) (P := P) (closure_ok hfree) I.ok.glob (I.mod.glob.keeps I.bk) TB.gP bP
      (G := fun cv h1 h2 => cv = .ref c' ∧ h2 = h1) (fun cv h1 h2 ⟨_, e⟩ => by rw [e]; exact ⟨fun _ _ _ e => e, Nat.le_refl _⟩) (fun h1 tk1 Q1 k1 z1 q1 => ?_) (fun cv ctv h1 h2 tk k1 z1 g => ?_)
    · exact wpAny_functionCode_hit hcode ((CH.keeps k1).code (k1 _ _ hP') ht) hc (q1 (.ref c') h1 tk1 ⟨rfl, rfl⟩)
    · obtain ⟨rfl, rfl⟩ := g
      have kk : ∀ b o, s.heap.get? b = some o → (h2.push (lObj (X.env.qual ++ "<lambda>") params body scope (cloFrom X.env.cells scope.names []) dV ((X.mg "__name__").getD .none) (.ref c') ctv)).get? b = some o := fun b o e => Heap.get?_push_of_some _ (k1 _ _ e)
      exact h h2.objs.size c' _ ctv H _ (I.kept (t' := tk) kk) (ExtN.refl H) hT (later (fun b o e _ _ => kk b o e) fun _ _ _ n => n) (Heap.get?_push_size _ rfl) (I.hok.fresh z1) (nLoc _ z1) (I.nofs z1) hco
end
end OB
namespace OB
open PySem PySem.Spec PyProof.Rows L2 LamX

/-- a lambda's names: captured ones, globals, and its parameters nm, which are no names of the def around -/
structure LamN (sc scope : Scope) (N nm : List Str) : Prop where
  kind : scope.kind = .function
  co : scope.isCoroutine = false
  gen : scope.isGenerator = false
  own : ∀ y ∈ scope.names, y.2 ≠ .cell ∧ (y.2 = .local → y.1 ∉ N)
  par : ∀ x ∈ nm, scope.names.lookup x = some .local
  free : ∀ y ∈ scope.names, y.2 = .free → sc.names.lookup y.1 = some .cell ∨ sc.names.lookup y.1 = some .free
def lamNB (sc scope : Scope) (N nm : List Str) : Bool :=
  decide (scope.kind = .function) && !scope.isCoroutine && !scope.isGenerator &&
    (scope.names.all fun y => !decide (y.2 = .cell) && (!decide (y.2 = .local) || decide (y.1 ∉ N)) && (!decide (y.2 = .free) || decide (sc.names.lookup y.1 = some .cell) || decide (sc.names.lookup y.1 = some .free))) &&
    nm.all fun x => decide (scope.names.lookup x = some .local)
theorem lamN_by {sc scope : Scope} {N nm : List Str} (h : lamNB sc scope N nm = true) : LamN sc scope N nm := by
  unfold lamNB at h
  simp only [Bool.and_eq_true, Bool.or_eq_true, Bool.not_eq_true', decide_eq_true_eq, decide_eq_false_iff_not, List.all_eq_true] at h
  obtain ⟨⟨⟨⟨h1, h2⟩, h3⟩, h4⟩, h5⟩ := h
  refine ⟨h1, h2, h3, fun y hy => ⟨(h4 y hy).1.1, fun e => ?_⟩, fun x hx => h5 x hx, fun y hy e => ?_⟩
  · rcases (h4 y hy).1.2 with z | z
    · exact absurd e z
    · exact z
  · rcases (h4 y hy).2 with (z | z) | z
    · exact absurd e z
    · exact .inl z
    · exact .inr z
theorem LamN.has {X : Cx} {scope : Scope} {N nm : List Str} (L : LamN X.env.scope scope N nm) (ok : X.Ok) : ∀ y ∈ scope.names, y.2 = .free → ∃ c, X.env.cells.lookup y.1 = some c := fun y hy e => by
  rcases L.free y hy e with k | k
  · exact ok.has _ (.inl k)
  · exact ok.has _ (.inr k)
section
variable {X : Cx} {pins : List (Addr × Obj)} {σ : L2.St} {H HZ : Hp} {s s1 : Shared}
theorem lam_start {A : Around} {outer : List Env} {E : XK} {scope : Scope} {f c' : Addr} {h₁ : Heap} {tk : Nat} {nm : List Str} {m1 : Str → Option Value} (I : Inv X pins σ H s) (L : LamN X.env.scope scope X.N nm) (e0 : Env0 X.prog X.w X.K X.mg X.base A outer s1 HZ) (hd : A.handled = none)
    (un : Un (frs X.stack) [] H HZ s.heap s1.heap) (hns : h₁.Ns s1.heap.objs.size m1) (kp : ∀ b o, s1.heap.get? b = some o → h₁.get? b = some o) :
    Inv (lamCx X A outer s1 HZ E scope f c') [] σ HZ { s1 with heap := h₁, toks := tk } := by
  have hfree := L.has I.ok
  have up : ∀ {y c}, (cloFrom X.env.cells scope.names []).lookup y = some c → X.env.cells.lookup y = some c := fun {y c} e => by
    rcases cloFrom_mem (PySem.mem_of_lookup e) with hm | ⟨h1, h2⟩
    · cases hm
    · obtain ⟨c1, hc⟩ := hfree _ h1 rfl
      have hc : X.env.cells.lookup y = some c1 := hc
      rw [hc] at h2
      have h3 : c = c1 := h2
      rw [h3]
      exact hc
  have down : ∀ {y}, scope.names.lookup y = some .free → ∃ c, (cloFrom X.env.cells scope.names []).lookup y = some c := fun {y} hl =>
    mem_lookup (cloFrom_has (cells := X.env.cells) (acc := []) (PySem.mem_of_lookup hl))
  have cellK : ∀ {c : Addr} {v : Option Value}, H c = none → s.heap.IsCell c v → h₁.IsCell c v := fun {c v} n ⟨o, ho, hd⟩ => by
    obtain ⟨sl, q⟩ := un.any ho n (by simp)
    exact ⟨_, kp _ _ q, hd⟩
  have noX : ∀ b : Addr, b ∉ (lamCx X A outer s1 HZ E scope f c').ex := fun b z => absurd (show b ∈ ([] : List Addr) from z) (by simp)
  refine ⟨⟨e0.mod, L.kind, rfl, rfl, Nat.le_refl _, fun y z c e1 e2 => I.ok.inj y z c (up e1) (up e2), fun y hy => ?_, fun y c z _ => ?_, fun _ => hd, Around.frames_deeper e0.frames, .inr ⟨rfl, rfl⟩, fun b z => absurd z (noX b), e0.bs, e0.bsz, fun b _ _ => noX b,
      fun b z => absurd z (noX b), e0.funs, e0.frf⟩,
    rfl, e0.bare, Un.kept kp, ⟨_, hns, fun i y v e1 e2 e3 => ?_⟩, fun y c e => ?_, e0.hok.fresh (Nat.le_refl _), fun y c e => ?_, fun q hq => absurd (show q ∈ ([] : List (Addr × Obj)) ++ [] from hq) (by simp), e0.hok.kept kp, I.len⟩
  · have hy : scope.names.lookup y = some .cell ∨ scope.names.lookup y = some .free := hy
    rcases hy with hy | hy
    · exact absurd rfl (L.own _ (PySem.mem_of_lookup hy)).1
    · exact down hy
  · have z : false = true := z
    cases z
  · have e3 : Vis scope y := e3
    have e1 : X.N[i]? = some y := e1
    rcases e3 with k | k | k
    · exact absurd (List.mem_of_getElem? e1) ((L.own _ (PySem.mem_of_lookup k)).2 rfl)
    · exact absurd rfl (L.own _ (PySem.mem_of_lookup k)).1
    · obtain ⟨m, hn, hl⟩ := I.loc
      have vis : Vis X.env.scope y := (L.free _ (PySem.mem_of_lookup k) rfl).elim (fun k => .inr (.inl k)) (fun k => .inr (.inr k))
      obtain ⟨w', r, q⟩ := hl i y v e1 e2 vis
      obtain ⟨c2, h2⟩ := down k
      refine ⟨w', r, .inr ⟨.inr k, c2, h2, ?_⟩⟩
      have c1 := up h2
      rcases q with ⟨k', _⟩ | ⟨_, c3, e', z⟩
      · have k' : X.env.scope.names.lookup y = some .local := k'
        rcases L.free _ (PySem.mem_of_lookup k) rfl with k2 | k2 <;> rw [show X.env.scope.names.lookup y = _ from k2] at k' <;> cases k'
      · rw [c1] at e'
        cases e'
        exact cellK (I.freeC y _ c1) z
  · obtain ⟨w', z⟩ := I.cell y c (up e)
    exact ⟨w', cellK (I.freeC y c (up e)) z⟩
  · obtain ⟨v, o, ho, hd⟩ := I.cell y c (up e)
    exact un.free c o ho (I.freeC y c (up e)) (by simp)
/-- how a lambda called with nothing binds its parameters nm to their defaults ds -/
def LamB (params : Arguments) (nm : List Str) (ds : List Value) : Prop :=
  ∀ (q : Str) (body : Expr) (scope : Scope) (cl : List (Str × Addr)) (dV pm cv ctv : Value) (M : Model) (A : Around) (E : Value → Shared → Prop) (s : Shared) (H : Hp) (fs : List Addr) (Q : List (Str × Value) → Shared → Prop),
    DflAt s.heap H fs dV ds → Q (nm.zip ds) s → wpAny M A (bindArgs (lFn q params body scope cl dV pm cv ctv) ⟨[], []⟩) Q E s
theorem lamB0 {params : Arguments} (h : ∀ (q : Str) (body : Expr) (scope : Scope) (cl : List (Str × Addr)) (pm cv ctv : Value), bindArgs (lFn q params body scope cl .none pm cv ctv) ⟨[], []⟩ = pure []) : LamB params [] [] :=
  fun q body scope cl dV pm cv ctv M A E s H fs Q hd hq => by
    have hd : dV = .none := hd
    rw [hd, h]
    exact wpAny_pure hq
theorem lamB1 {params : Arguments} {a : Str} {d : Value} (h : ∀ (q : Str) (body : Expr) (scope : Scope) (cl : List (Str × Addr)) (T : Addr) (pm cv ctv : Value), ∃ k, bindArgs (lFn q params body scope cl (.ref T) pm cv ctv) ⟨[], []⟩ = seqItems? (.ref T) >>= k ∧ k (some #[d]) = pure [(a, d)]) : LamB params [a] [d] :=
  fun q body scope cl dV pm cv ctv M A E s H fs Q hd hq => by
    obtain ⟨T, o, n, rfl, e2, e3, _⟩ := hd
    obtain ⟨k, e, ek⟩ := h q body scope cl T pm cv ctv
    rw [e]
    refine wpAny_bind (wpAny_seqItems e2 e3 ?_)
    rw [show (some [d].toArray : Option (Array Value)) = some #[d] from rfl, ek]
    exact wpAny_pure hq
/-- x(), in the def that got the lambda: Z is that def's context, entered at s -/
theorem pe_act {CXg : CXT} {Eg : XK} {Ng : List Str} {qg : Str} {sg : Scope} {g f c' : Addr} {cdg pm ctv dV : Value} {ds : List Value} {nm : List Str} {params : Arguments} {body : Expr} {scope : Scope} {k i : Nat} {a : Str} {pn : List (Addr × Obj)} {xe : Value → Shared → Prop} {W : WX} {tb : XK → TE} {p1 p2 : Pos}
    (I : Inv X pins σ H s) (L : LamN X.env.scope scope X.N nm) (hf : s.heap.get? f = some (lObj (X.env.qual ++ "<lambda>") params body scope (cloFrom X.env.cells scope.names []) dV pm (.ref c') ctv)) (hfn : H f = none) (hfr : f ∉ X.env.locals :: X.fs)
    (hbind : LamB params nm ds) (hds : DflAt s.heap H (X.env.locals :: X.fs) dV ds)
    (tk : Takes ((cxOf CXg X.prog X.w X.K X.mg X.base Ng qg sg g cdg X.A X.stack s H Eg).tr pn xe) W) (hr : Room (k + 1) (X.A.deeper (envOfC qg sg s.heap.objs.size g cdg)))
    (hbody : ∀ (A : Around) (outer : List Env) (s : Shared) (H : Hp) (E : XK), Room k (A.deeper (lamEnv X scope s.heap.objs.size f c')) → PE (lamCx X A outer s H E scope f c') body (tb E))
    (hN : Ng[i]? = some a) (hv : Vis sg a) (hd : (a == ("__debug__" : Str)) = false := by decide) (hcd : (a == ("__classdict__" : Str)) = false := by decide) :
    PE ((cxOf CXg X.prog X.w X.K X.mg X.base Ng qg sg g cdg X.A X.stack s H Eg).tr pn xe) (.Call (.Name a p1) [] [] p2)
      (fun σZ HZ Q => σZ[i]? = some (some (.ref f)) ∧ HZ c' = some (CodeO c' (X.env.qual ++ "<lambda>")) ∧ tb (fun cls d H' => W cls d σZ H') σ HZ Q) := by
  have nst : ∀ {b : Addr}, b ∉ X.env.locals :: X.fs → b ∉ frs X.stack := fun {b} h z => h (I.stkSub b z)
  refine ⟨fun pinsZ sZ σZ HZ Q IZ h => ?_⟩
  obtain ⟨hs, hc, ht⟩ := h
  refine wpAny_Call_Name_kw (thn ((pe_var (pos := p1) (i := i) hN hv hd hcd).run pinsZ sZ σZ HZ (fun v H1 => v = .ref f ∧ H1 = HZ) IZ ⟨.ref f, hs, rfl, rfl⟩) fun u s1 ⟨v, H1, I1, r1, q1⟩ => ?_)
  obtain ⟨ev, eH⟩ := q1
  subst ev
  rw [eH] at I1
  obtain rfl : u = Value.ref f := r1
  have keep1 : ∀ {b : Addr} {o : Obj}, s.heap.get? b = some o → H b = none → b ∉ X.env.locals :: X.fs → s1.heap.get? b = some o ∧ HZ b = none := fun {b o} e n nf =>
    ⟨I1.base.keep b _ e n (nst nf) (fun z => nomatch (show b ∈ ([] : List Addr) from z)), I1.base.free b _ e n (fun z => nomatch (show b ∈ ([] : List Addr) from z))⟩
  have of1 := (keep1 hf hfn hfr).1
  have ds1 : DflAt s1.heap HZ (X.env.locals :: X.fs) dV ds := by
    cases ds with
    | nil => exact hds
    | cons d r =>
      obtain ⟨T, o, n, e1, e2, e3, e4, e5⟩ := hds
      exact ⟨T, o, n, e1, (keep1 e2 e4 e5).1, e3, (keep1 e2 e4 e5).2, e5⟩
  refine PySem.W.callWith_F0 ⟨_, _, _, _, of1⟩ ?_
  have un : Un (frs X.stack) [] H HZ s.heap s1.heap := I1.base
  obtain ⟨⟨oc, vs, t, hoc, hdc, hvc⟩, _, _⟩ := I1.hok c' _ hc
  have rc : codeAny (model X.prog X.w) (X.A.deeper (envOfC qg sg s.heap.objs.size g cdg)) (.call (.ref f) ⟨[], []⟩) (CR (L2.CX X.prog X.w) (envOfC qg sg s.heap.objs.size g cdg :: X.stack) X.prog X.w HZ s1 Q fun cls d H' => W cls d σZ H') s1 := by
    refine PySem.W.kla_callFunE hr.depth of1 rfl L.co L.gen rfl ⟨c', oc, vs, t, rfl, hoc, hdc, hvc⟩ ?_
    refine hbind _ _ _ _ _ _ _ _ _ _ _ s1 HZ _ _ ds1 ?_
    refine wpAny_newFunctionEnv (fun y hy => (L.own y hy).1) (fun y hy => L.par _ (List.of_mem_zip (by simpa using hy)).1) (fun h₁ hns hsb => ⟨I1.nolimit.fresh _ hsb, ?_⟩) L.kind
    show codeAny _ _ (.expr body (lamEnv X scope s1.heap.objs.size f c')) _ _
    have kp : ∀ b o, s1.heap.get? b = some o → h₁.get? b = some o := fun b o e => hsb.extBut b o (Nat.ne_of_lt (Heap.lt_size e)) (Heap.get?_push_of_some _ e)
    have J : Inv (lamCx X (X.A.deeper (envOfC qg sg s.heap.objs.size g cdg)) (envOfC qg sg s.heap.objs.size g cdg :: X.stack) s1 HZ (fun cls d H' => W cls d σZ H') scope f c') [] σ HZ { s1 with heap := h₁, toks := s1.toks + (nm.zip ds).length } :=
      lam_start I L I1.env0 hr.hd un hns kp
    refine PySem.W.kla_codeExpr (wpAny_mono ((hbody _ _ s1 HZ _ (hr.deeper _)).run [] _ _ HZ Q J ht) (fun v s' hq => ?_) fun e s' hq => hq)
    obtain ⟨w', H', J', rv, q⟩ := hq
    exact ⟨w', H', J'.os, J'.bare, J'.base, J'.hok, rv, q⟩
  refine wpAny_call (codeAny_mono rc fun r s' hq => ?_)
  cases r with
  | error e => exact tk e s' (XE.of_call I1 (fun _ _ _ h => h) hq)
  | ok fl =>
    cases fl with
    | ret u => exact I1.after hq
    | next => exact False.elim hq
    | brk => exact False.elim hq
    | cont => exact False.elim hq
end
/-- a reading that grows with what is wanted -/
def MonoL (tl : XK → Hp → VK → Prop) : Prop := ∀ (E1 E2 : XK) (H : Hp) (Q1 Q2 : VK), (∀ c d H', E1 c d H' → E2 c d H') → (∀ v H', Q1 v H' → Q2 v H') → tl E1 H Q1 → tl E2 H Q2
/-- the def that calls what it got, beside other values vs; TT: what it makes of the lambda's reading -/
def Gives (X : Cx) (Ng : List Str) (x : Str) (sg : Scope) (g : Addr) (cdg : Value) (bg : List Stmt) (a : Str) (q : Str) (k : Nat) (TT : List V → (XK → Hp → VK → Prop) → Hp → VK → Prop) : Prop :=
  ∀ (f c' : Addr) (vs : List V) (s : Shared) (H : Hp) (Q : VK) (tl : XK → Hp → VK → Prop), Room k (X.A.deeper (envOfC x sg s.heap.objs.size g cdg)) →
    (∀ (W : WX) (pn : List (Addr × Obj)) (xe : Value → Shared → Prop) (p1 p2 : Pos), Takes ((cxOf L2.CX0 X.prog X.w X.K X.mg X.base Ng x sg g cdg X.A X.stack s H fun _ _ _ => False).tr pn xe) W →
      PE ((cxOf L2.CX0 X.prog X.w X.K X.mg X.base Ng x sg g cdg X.A X.stack s H fun _ _ _ => False).tr pn xe) (.Call (.Name a p1) [] [] p2) (fun σZ HZ Q => σZ[0]? = some (some (.ref f)) ∧ HZ c' = some (CodeO c' q) ∧ tl (fun cls d H' => W cls d σZ H') HZ Q)) →
    H c' = some (CodeO c' q) → MonoL tl → TT vs tl H Q →
    ∃ t, PSs (cxOf L2.CX0 X.prog X.w X.K X.mg X.base Ng x sg g cdg X.A X.stack s H fun _ _ _ => False).nox bg t ∧ t { nx := fun _ H' => Q .non H', rt := Q } (L2.start Ng (.ref f :: vs)) H
def tLam2 (T : List (Addr × Str)) (vs : List V) (TT : List V → (XK → Hp → VK → Prop) → Hp → VK → Prop) (t : XK → TE) : TE := fun σ H Q => Tabs T H ∧ ∀ H1, ExtN H H1 → Tabs T H1 → TT vs (fun E H' Q' => t E σ H' Q') H1 Q
section
variable {X : Cx}
/-- x(lambda: body, rest ..), rest written constants -/
theorem pe_lam {T : List (Addr × Str)} {vs : List V} {TT : List V → (XK → Hp → VK → Prop) → Hp → VK → Prop} {x a : Str} {g c P : Addr} {k : Nat} {pg : Arguments} {bg : List Stmt} {sg : Scope} {dV kV doc pm cdv ct oc : Value} {an od : Option Addr} {osl : Array (Option Value)} {Ng ps nm : List Str}
    {params : Arguments} {body : Expr} {rest : List Expr} {tr : TA} {dts : List Int} {scope : Scope} {t : XK → TE} {p lpos pos : Pos} (hg : Gl X x) (hm : X.mg x = some (.ref g)) (hk : PySem.W.keepIn X.K (.ref g) = true)
    (lk : X.K.lookup g = some ⟨oc, od, .func (PySem.W.fnOf x x pg bg sg dV kV doc pm an cdv ct), osl⟩) (hcg : PySem.W.codeIn X.K cdv x = true) (hb : L2.Binds X.K (PySem.W.fnOf x x pg bg sg dV kV doc pm an cdv ct) (a :: ps) []) (Sg : FnScope Ng (a :: ps) sg) (hNg : Ng[0]? = some a) (hva : Vis sg a)
    (hG : Gives X Ng x sg g cdv bg a (X.env.qual ++ "<lambda>") (k + 1) TT)
    (TB : TabB X.base X.mg c P) (hcode : X.env.code = .ref c) (hmT : (P, X.env.qual ++ "<lambda>") ∈ T) (hu : ∀ p ∈ T, p.1 = P → p.2 = X.env.qual ++ "<lambda>") (hr : Room (k + 2) X.A) (L : LamN X.env.scope scope X.N nm)
    (hdef : (dts = [] ∧ defaultsOf params X.env = ([], [])) ∨ ∃ n j dp, dts = [n] ∧ defaultsOf params X.env = ([eval (.Constant (.int n) j dp) X.env], []))
    (hbind : ∀ ds : List Value, Vals (dts.map V.int) ds → LamB params nm ds)
    (hmono : ∀ σ : L2.St, MonoL fun E H' Q' => t E σ H' Q') (hrest : PA X rest tr) (htr : ∀ σ H Q, tr σ H Q = Q vs H) (hvl : vs.length = ps.length)
    (hbody : ∀ (A : Around) (outer : List Env) (s : Shared) (H : Hp) (E : XK) (f c' : Addr), Room k (A.deeper (lamEnv X scope s.heap.objs.size f c')) → PE (lamCx X A outer s H E scope f c') body (t E))
    (he : starEach (.Lambda params body scope lpos :: rest) X.env = (false, eval (.Lambda params body scope lpos) X.env) :: starEach rest X.env := by rfl) (hpl : (backTo pos (starEach rest X.env)).any (·.1) = false := by rfl)
    (hdb : (x == ("__debug__" : Str)) = false := by decide) (hd : (a == ("__debug__" : Str)) = false := by decide) (hcd : (a == ("__classdict__" : Str)) = false := by decide) :
    PE X (.Call (.Name x p) (.Lambda params body scope lpos :: rest) [] pos) (tLam2 T vs TT t) := by
  refine ⟨fun pins s σ H Q I h => ?_⟩
  obtain ⟨hT, h⟩ := h
  refine wpAny_Call_Name_kw (ld_glob I hg hm ?_ hdb)
  refine PySem.W.callWith_K (h₀ := X.base) I.ok.mod.kin hk ?_ he hpl
  rw [he]
  show wpAny _ _ (spliced ((false, eval (.Lambda params body scope lpos) X.env) :: backTo pos (starEach rest X.env))) _ _ s
  -- from the making of the object on
  have go : ∀ (s0 : Shared) (dV : Value) (ds : List Value), Inv X pins σ H s0 → Vals (dts.map V.int) ds → DflAt s0.heap H (X.env.locals :: X.fs) dV ds →
      wpAny (model X.prog X.w) X.A (PySem.makeTail "<lambda>" (X.env.qual ++ "<lambda>") params (.expr body) scope X.env dV .none none lpos lpos.line)
        (fun u s1 => wpAny (model X.prog X.w) X.A (spliced (backTo pos (starEach rest X.env))) (fun us s2 => X.K.In s2.heap ∧ wpAny (model X.prog X.w) X.A (call (.ref g) ([] ++ u :: us)) (EP X pins σ Q) X.xe s2) X.xe s1) X.xe s0 := by
    intro s0 dV ds I0 rd hd0
    refine lam_tail I0 TB hcode hmT hu hT (L.has I0.ok) hd0 fun f c' pm' ctv H1 s' I1 eN T1 hd1 hf hfn hfL hfF hco => ?_
    obtain ⟨pl, hpl1, hpl2⟩ : ∃ pl : List (Addr × Obj), (∀ p ∈ pl, s'.heap.get? p.1 = some p.2 ∧ H1 p.1 = none ∧ p.1 ≠ X.env.locals ∧ p.1 ∉ X.fs ∧ ∀ v, p.2.data ≠ .cell v) ∧ (∀ h2 : Heap, (∀ p ∈ pl, h2.get? p.1 = some p.2) → DflAt h2 H1 (X.env.locals :: X.fs) dV ds) := by
      cases ds with
      | nil => exact ⟨[], (fun p hp => nomatch hp), fun _ _ => hd1⟩
      | cons d r =>
        obtain ⟨Td, o, n, e1, e2, e3, e4, e5⟩ := hd1
        refine ⟨[(Td, o)], fun p hp => ?_, fun h2 k => ⟨Td, o, n, e1, k _ List.mem_cons_self, e3, e4, e5⟩⟩
        obtain rfl : p = (Td, o) := by simpa using hp
        exact ⟨e2, e4, fun z => e5 (by rw [show Td = X.env.locals from z]; exact List.mem_cons_self), fun z => e5 (List.mem_cons_of_mem _ z), fun v z => by
          have z' : o.data = .cell v := z
          rw [e3] at z'
          cases z'⟩
    have J : Inv X (pins ++ ((f, _) :: pl)) σ H1 s' := I1.pins_of (pins' := pins ++ ((f, lObj (X.env.qual ++ "<lambda>") params body scope (cloFrom X.env.cells scope.names []) dV pm' (.ref c') ctv) :: pl)) fun p hp => by
      rcases List.mem_append.mp hp with hp | hp
      · exact I1.pin p (List.mem_append_right _ hp)
      · rcases List.mem_cons.mp hp with e | hp
        · rw [e]
          exact ⟨hf, hfn, hfL, hfF, fun v z => nomatch z⟩
        · exact hpl1 p hp
    refine thn (hrest.run pos _ s' σ H1 (fun vs' H' => vs' = vs ∧ H' = H1) J (by rw [htr]; exact ⟨rfl, rfl⟩)) fun us s2 ⟨vs', H2, I2, r2, e1, e2⟩ => ?_
    subst e1
    rw [e2] at I2
    have hf2 := (I2.pin (f, _) (List.mem_append_right _ (List.mem_append_right _ List.mem_cons_self))).1
    have hd2 : DflAt s2.heap H1 (X.env.locals :: X.fs) dV ds := hpl2 _ fun p hp => (I2.pin p (List.mem_append_right _ (List.mem_append_right _ (List.mem_cons_of_mem _ hp)))).1
    have I3 : Inv X pins σ H1 s2 := I2.unpinned
    refine ⟨I3.kIn, ?_⟩
    have rv : Vals (V.ref f :: vs') (Value.ref f :: us) := .cons rfl r2
    have hlen : (Value.ref f :: us).length = (a :: ps).length := by
      rw [← rv.length, List.length_cons, List.length_cons, hvl]
    have rc : codeAny (model X.prog X.w) X.A (.call (.ref g) ⟨.ref f :: us, []⟩) (CR L2.CX0 X.stack X.prog X.w H1 s2 Q fun _ _ _ => False) s2 := by
      refine run_ofS (N := Ng) (ps := a :: ps) (us := .ref f :: us) (vs := .ref f :: vs') lk hcg Sg hr I3.env0 (by have z := hb s2 (Value.ref f :: us) I3.kIn (by rw [List.append_nil]; exact hlen); rw [List.append_nil] at z; exact z) rv (by rw [List.length_cons, List.length_cons, hvl]) fun hr' => ?_
      obtain ⟨t', ht', hq'⟩ := hG f c' vs' s2 H1 Q (fun E H' Q' => t E σ H' Q') hr' (fun W pn xe p1 p2 tk => pe_act (i := 0) I3 L hf2 hfn (fun z => (List.mem_cons.mp z).elim hfL hfF) (hbind ds rd) hd2 tk hr' (fun A outer s H E hr2 => hbody A outer s H E f c' hr2) hNg hva hd hcd) hco (hmono σ) (h H1 eN T1)
      exact ⟨t', ht'.nox, hq'⟩
    refine wpAny_call (codeAny_mono rc fun r s3 hq => ?_)
    cases r with
    | error e => exact (show False from hq).elim
    | ok fl =>
      cases fl with
      | ret u => exact I3.after hq
      | next => exact False.elim hq
      | brk => exact False.elim hq
      | cont => exact False.elim hq
  refine Calls.spliced_cons ?_
  rw [PySem.arm_eval_Lambda]
  rcases hdef with ⟨rfl, hdef⟩ | ⟨n, j, dp, rfl, hdef⟩
  · rw [hdef]
    refine wpAny_bind (wpAny_pure (wpAny_bind (wpAny_holding (wpAny_pure ?_))))
    rw [PySem.makeFunction_eq]
    simp only [List.zip_nil_right, List.filterMap_nil, List.isEmpty_nil, if_true, pure_bind]
    exact go s .none [] I .nil rfl
  · rw [hdef]
    refine wpAny_bind (m := evalAll [eval (.Constant (.int n) j dp) X.env]) ?_
    unfold evalAll evalAll
    refine wpAny_bind (thn ((pe_int (X := X) (i := n) (j := j) (pos := dp)).run pins s σ H (fun v H' => v = .int n ∧ H' = H) I ⟨rfl, rfl⟩) fun u s1 ⟨v, H1, I1, r1, e1, e2⟩ => ?_)
    subst e1
    rw [e2] at I1
    refine wpAny_bind (wpAny_holding (wpAny_pure (wpAny_pure ?_)))
    refine wpAny_bind (wpAny_holding (wpAny_pure ?_))
    rw [PySem.makeFunction_eq]
    simp only [List.zip_nil_right, List.filterMap_nil, List.isEmpty_nil, List.isEmpty_cons, Bool.false_eq_true, if_true, if_false, pure_bind]
    refine wpAny_bind (wpAny_newTextTuple ?_)
    have sz : s1.heap.objs.size ≤ s1.heap.objs.size := Nat.le_refl _
    refine go _ (.ref s1.heap.objs.size) [u] (I1.kept (t' := s1.toks) fun b o e => Heap.get?_push_of_some _ e) (.cons r1 .nil) ⟨_, _, _, rfl, Heap.get?_push_size _ rfl, rfl, I1.hok.fresh sz, fun z => ?_⟩
    rcases List.mem_cons.mp z with z | z
    · exact Nat.lt_irrefl _ (show s1.heap.objs.size < s1.heap.objs.size by
        have q := I1.lt
        rw [← z] at q
        exact q)
    · exact I1.nofs sz z
end
end OB
/-! What a law draws from: a list of a list of ints, how many draws were made, what is left of a great one. -/
namespace OB
open PySem PySem.Spec PyProof.Rows L2
/-- the lot stands at p, its ints at b; at most n draws were made -/
def Orch (H : Hp) (p b : Addr) (n : Nat) : Prop := ∃ (ns : List Int) (t l : Int), H p = some (.lst [.ref b, .int t, .int l]) ∧ H b = some (.lst (ns.map V.int)) ∧ 0 ≤ t ∧ t ≤ n
theorem Orch.ne {H : Hp} {p b : Addr} {n : Nat} (o : Orch H p b n) : p ≠ b := by
  obtain ⟨ns, t, l, h1, h2, _⟩ := o
  refine ne_of h1 h2 fun z => ?_
  injection z with z
  cases ns with
  | nil => cases z
  | cons a r =>
    injection z with z _
    cases z
theorem Orch.keep {H H' : Hp} {p b : Addr} {n : Nat} (o : Orch H p b n) (hp : ∀ u, H p = some u → H' p = some u) (hb : ∀ u, H b = some u → H' b = some u) : Orch H' p b n := by
  obtain ⟨ns, t, l, h1, h2, h3⟩ := o
  exact ⟨ns, t, l, hp _ h1, hb _ h2, h3⟩
theorem Orch.same {H H' : Hp} {p b : Addr} {n : Nat} (o : Orch H p b n) (s : Same H H') : Orch H' p b n := o.keep (fun u => s p u) fun u => s b u
theorem Orch.mono {H : Hp} {p b : Addr} {n m : Nat} (o : Orch H p b n) (h : n ≤ m) : Orch H p b m := by
  obtain ⟨ns, t, l, h1, h2, h3, h4⟩ := o
  exact ⟨ns, t, l, h1, h2, h3, by omega⟩
theorem Orch.pn {H : Hp} {p b : Addr} {n : Nat} (o : Orch H p b n) : ∃ u, H p = some u := by
  obtain ⟨ns, t, l, h1, h2, h3, h4⟩ := o
  exact ⟨_, h1⟩
theorem Orch.bn {H : Hp} {p b : Addr} {n : Nat} (o : Orch H p b n) : ∃ u, H b = some u := by
  obtain ⟨ns, t, l, h1, h2, h3, h4⟩ := o
  exact ⟨_, h2⟩
/-- all that was tracked is as it was, but what stands at p -/
def But (p : Addr) (H H' : Hp) : Prop := ∀ q o, H q = some o → q ≠ p → H' q = some o
theorem But.refl {p : Addr} {H : Hp} : But p H H := fun _ _ h _ => h
theorem But.of {p : Addr} {H H' : Hp} (s : Same H H') : But p H H' := fun q o h _ => s q o h
theorem But.trans {p : Addr} {H H1 H2 : Hp} (a : But p H H1) (b : But p H1 H2) : But p H H2 := fun q o h n => b q o (a q o h n) n
theorem same_new {H : Hp} {l : Addr} {o : HO} (h : H l = none) : Same H (upd H l o) := fun b u e => by
  rw [upd_ne (ne_of_none e h)]
  exact e
theorem but_at {H : Hp} {p : Addr} {o : HO} : But p H (upd H p o) := fun q u e n => by
  rw [upd_ne n]
  exact e
/-- a draw from many: some number below many; the lot goes on -/
def spDraw : Sp := fun vs H Q _ => ∃ (p b : Addr) (n : Nat) (many : Int), vs = [.ref p, .int many] ∧ Orch H p b n ∧ n < 1000000 ∧ 0 < many ∧ many.natAbs < 2 ^ 9000 ∧
  ∀ (r : Int) (H' : Hp), 0 ≤ r → r < many → Orch H' p b (n + 1) → But p H H' → Q (.int r) H'
/-- the lot is made of a list of ints -/
def spLot (K : PySem.W.Frag) : Sp := fun vs H Q _ => ∃ (a : Addr) (ns : List Int), vs = [.ref a] ∧ SqL K H a (ns.map V.int) ∧ ns.length ≤ 63 ∧
  ∀ (p b : Addr) (H' : Hp), H p = none → H b = none → Orch H' p b 0 → Same H H' → Q (.ref p) H'
theorem mix1 {x t A B m : Int} (hm : 0 < m) (hm2 : m < 2 ^ 31) (ht : 0 ≤ t) (ht2 : t ≤ 1000000) (hA : 0 ≤ A) (hA2 : A ≤ 1000000) (hB : 0 ≤ B) (hB2 : B ≤ 1000000) : (x % m + A * t + B).natAbs < 2 ^ 64 := by
  have h1 := Int.emod_nonneg x (by omega : m ≠ 0)
  have h2 := Int.emod_lt_of_pos x hm
  have h3 : A * t ≤ 1000000 * 1000000 := Int.mul_le_mul hA2 ht2 ht (by decide)
  have h4 : 0 ≤ A * t := Int.mul_nonneg hA ht
  omega
theorem mix2 {x t A B C m : Int} (hm : 0 < m) (hm2 : m < 2 ^ 31) (ht : 0 ≤ t) (ht2 : t ≤ 1000000) (hA : 0 ≤ A) (hA2 : A ≤ 1000000) (hB : 0 ≤ B) (hB2 : B ≤ 1000000) (hC : 0 ≤ C) (hC2 : C ≤ 1000000) : (x % m * (2 * t + C) + A * t * t + B).natAbs < 2 ^ 64 := by
  have h1 := Int.emod_nonneg x (by omega : m ≠ 0)
  have h2 := Int.emod_lt_of_pos x hm
  have h3 : A * t ≤ 1000000 * 1000000 := Int.mul_le_mul hA2 ht2 ht (by decide)
  have h4 : 0 ≤ A * t := Int.mul_nonneg hA ht
  have h5 : A * t * t ≤ 1000000 * 1000000 * 1000000 := Int.mul_le_mul h3 ht2 ht (by decide)
  have h6 : 0 ≤ A * t * t := Int.mul_nonneg h4 ht
  have h7 : x % m * (2 * t + C) ≤ 2 ^ 31 * 3000000 := Int.mul_le_mul (by omega) (by omega) (by omega) (by decide)
  have h8 : 0 ≤ x % m * (2 * t + C) := Int.mul_nonneg h1 (by omega)
  omega
theorem mod_lim {x m : Int} (hm : 0 < m) (hm2 : m < 2 ^ 31) : -(2 ^ 64) < x % m ∧ x % m < 2 ^ 64 := by
  have h1 := Int.emod_nonneg x (by omega : m ≠ 0)
  have h2 := Int.emod_lt_of_pos x hm
  omega
theorem dp_ints {K : PySem.W.Frag} {H : Hp} : ∀ ns : List Int, DpAll K H (ns.map V.int) (ns.map PyData.int)
  | [] => .nil
  | n :: r => .cons (.int n) (dp_ints r)
theorem lay_ints : ∀ ns : List Int, PyData.canLayAll0 (ns.map PyData.int) = true
  | [] => by simp [PyData.canLayAll0]
  | n :: r => by simp [PyData.canLayAll0, PyData.canLay0, lay_ints r]
theorem deep_ints : ∀ ns : List Int, PyData.depthAll (ns.map PyData.int) ≤ 1
  | [] => by simp [PyData.depthAll]
  | n :: r => by
    have h := deep_ints r
    simp [PyData.depthAll, PyData.depth]
    omega
theorem shaped_ints (ns : List Int) : SeqAt.shaped (.list (ns.map PyData.int)) = true := by
  have h := deep_ints ns
  unfold SeqAt.shaped
  rw [Bool.and_eq_true]
  refine ⟨by simp [PyData.canLay0, lay_ints], decide_eq_true ?_⟩
  simp [PyData.depth]
  omega
theorem eqv_nil (ns : List Int) : PyData.eqv (.list (ns.map PyData.int)) (.list []) = decide (ns = []) := by
  cases ns with
  | nil => simp [PyData.eqv, PyData.eqvAll]
  | cons n r => simp [PyData.eqv, PyData.eqvAll]

/-! ### kinds of values: is it an integer -/
/-- x is of a kind of which isinstance(x, int) and not isinstance(x, bool) is b -/
def IsI (K : PySem.W.Frag) (H : Hp) (x : V) (b : Bool) : Prop := ∃ (n : String) (b1 b2 : Bool), TyX K H x (.type n) ∧ kitB n "int" = some b1 ∧ kitB n "bool" = some b2 ∧ b = (b1 && !b2)
section
variable {K : PySem.W.Frag} {H : Hp}
theorem isI_int (i : Int) : IsI K H (.int i) true := ⟨"int", true, false, .base (.int i), by decide +kernel, by decide +kernel, rfl⟩
theorem isI_non : IsI K H .non false := ⟨"NoneType", false, false, .base .non, by decide +kernel, by decide +kernel, rfl⟩
theorem isI_bl (b : Bool) : IsI K H (.bl b) false := ⟨"bool", true, true, .base (.bl b), by decide +kernel, by decide +kernel, rfl⟩
theorem isI_str (x : Str) : IsI K H (.str x) false := ⟨"str", false, false, .base (.str x), by decide +kernel, by decide +kernel, rfl⟩
theorem isI_lst {a : Addr} {xs : List V} (e : H a = some (.lst xs)) : IsI K H (.ref a) false := ⟨"list", false, false, .base (.lst e), by decide +kernel, by decide +kernel, rfl⟩
theorem isI_tup {a : Addr} {xs : List V} (e : H a = some (.tup xs)) : IsI K H (.ref a) false := ⟨"tuple", false, false, .base (.tup e), by decide +kernel, by decide +kernel, rfl⟩
theorem isI_dK {a : Addr} {kvs : List (Key × V)} (e : H a = some (.dK kvs)) : IsI K H (.ref a) false := ⟨"dict", false, false, .base (.dK e), by decide +kernel, by decide +kernel, rfl⟩
theorem isI_true {x : V} (h : IsI K H x true) : ∃ i, x = .int i := by
  obtain ⟨n, b1, b2, ty, e1, e2, e3⟩ := h
  have c1 : b1 = true := by
    cases b1
    · simp at e3
    · rfl
  have c2 : b2 = false := by
    cases b2
    · rfl
    · simp [c1] at e3
  subst c1 c2
  have no : ∀ {m : String}, kitB m "int" ≠ some true ∨ kitB m "bool" ≠ some false → n = m → False := fun h e => by
    subst e
    exact h.elim (fun z => z e1) fun z => z e2
  cases ty with
  | base h =>
    cases h with
    | int i => exact ⟨i, rfl⟩
    | non => exact (no (m := "NoneType") (.inl (by decide +kernel)) rfl).elim
    | bl b => exact (no (m := "bool") (.inr (by decide +kernel)) rfl).elim
    | str b => exact (no (m := "str") (.inl (by decide +kernel)) rfl).elim
    | flt b => exact (no (m := "float") (.inl (by decide +kernel)) rfl).elim
    | lst e => exact (no (m := "list") (.inl (by decide +kernel)) rfl).elim
    | frz e => exact (no (m := "list") (.inl (by decide +kernel)) rfl).elim
    | tup e => exact (no (m := "tuple") (.inl (by decide +kernel)) rfl).elim
    | dK e => exact (no (m := "dict") (.inl (by decide +kernel)) rfl).elim
    | dT e => exact (no (m := "dict") (.inl (by decide +kernel)) rfl).elim
  | byt b => exact (no (m := "bytes") (.inl (by decide +kernel)) rfl).elim
  | set e => exact (no (m := "set") (.inl (by decide +kernel)) rfl).elim
  | kList e c => exact (no (m := "list") (.inl (by decide +kernel)) rfl).elim
  | kTuple e c => exact (no (m := "tuple") (.inl (by decide +kernel)) rfl).elim
  | kDict e c => exact (no (m := "dict") (.inl (by decide +kernel)) rfl).elim
  | fTuple e => exact (no (m := "tuple") (.inl (by decide +kernel)) rfl).elim
  | fDict e => exact (no (m := "dict") (.inl (by decide +kernel)) rfl).elim
end
/-- a bound: an int or none -/
def oV : Option Int → V
  | none => .non
  | some i => .int i
def loOk (lo : Option Int) (i : Int) : Bool := match lo with
  | none => true
  | some l => decide (l ≤ i)
def hiOk (hi : Option Int) (i : Int) : Bool := match hi with
  | none => true
  | some h => decide (i ≤ h)
/-- an int within bounds -/
def inB (lo hi : Option Int) : V → Bool
  | .int i => loOk lo i && hiOk hi i
  | _ => false
def spIsInt (K : PySem.W.Frag) : Sp := fun vs H Q _ => ∃ (x : V) (b : Bool), vs = [x] ∧ IsI K H x b ∧ Q (.bl b) H
def spWithin (K : PySem.W.Frag) : Sp := fun vs H Q _ => ∃ (x : V) (lo hi : Option Int) (b : Bool), vs = [x, oV lo, oV hi] ∧ IsI K H x b ∧ Q (.bl (b && inB lo hi x)) H
/-- what raises the error at C, with its part, else returns None -/
def RaisesP (C : Addr) (part : Str) (E : XK) (H : Hp) : Prop := ∀ d, H d = none → E (.ref C) (some d) (upd H d (.xd [(("part" : Str), .str part)]))
def spNeedNumber (K : PySem.W.Frag) (C : Addr) : Sp := fun vs H Q E => ∃ (x : V) (part : Str) (lo hi : Option Int) (b : Bool), vs = [x, .str part, oV lo, oV hi] ∧ IsI K H x b ∧
  ((b && inB lo hi x) = true → Q .non H) ∧ ((b && inB lo hi x) = false → RaisesP C part E H)
def spNeedWord (K : PySem.W.Frag) (C : Addr) : Sp := fun vs H Q E => ∃ (x : V) (part : Str) (b : Bool), vs = [x, .str part] ∧ IsI K H x b ∧
  ((b && inB (some 0) none x) = true → Q .non H) ∧ ((b && inB (some 0) none x) = false → RaisesP C part E H)
/-- where nothing is raised the promise holds among calm ones -/
theorem calm_of {P : Program} {w : World} {K : PySem.W.Frag} {mg : Str → Option Value} {base : Heap} {k : Nat} {f : Addr} {fd : FuncData} {ps : List Str} {sp : Sp} (F : FnOk P w K mg base (L2.CX P w) k f fd ps sp) :
    FnOk P w K mg base CX0 k f fd ps (fun vs H Q _ => sp vs H Q fun _ _ _ => False) :=
  ⟨fun vs H Q E h => F.len vs H Q _ h, fun A outer s H args us vs Q E hr he hb hv hs => codeAny_mono (F.run A outer s H args us vs Q _ hr he hb hv hs) fun r s' hq => by
    cases r with
    | error e =>
      obtain ⟨_, _, _, _, _, _, _, _, _, _, _, _, z⟩ := hq
      exact z.elim
    | ok fl => cases fl <;> exact hq⟩
theorem iteB {b : Bool} {A B : Prop} (h1 : b = true → A) (h2 : b = false → B) : if b = true then A else B := by
  cases b with
  | true => exact iteT (h1 rfl)
  | false => exact iteF (h2 rfl)
end OB
/-! Own errors with one field, raised. -/
namespace OB
open PySem PySem.Spec PyProof.Rows L2
/-- a def of the text, as it stands behind the top -/
structure Df (K : PySem.W.Frag) (mg : Str → Option Value) (x : Str) (st : Stmt) (ps : List Str) (f : Addr) (fd : FuncData) : Prop where
  F : Fun K x x st f fd
  g : mg x = some (.ref f)
  b : Binds K fd ps []
/-- __init__(self, f): self.f = f of an own error -/
def spInit1 (K : PySem.W.Frag) (f : Str) : Sp := fun vs H Q _ => ∃ (a C : Addr) (v : V), vs = [.ref a, v] ∧ OexC K C ∧ PySem.W.findIn K (.ref C) f = some none ∧ H a = some (exo a C none) ∧
  ∀ dx, H dx = none → dx ≠ a → Q .non (upd (upd H dx (exd dx [(f, v)])) a (exo a C (some dx)))
section
variable {P : Program} {w : World} {K : PySem.W.Frag} {mg : Str → Option Value} {base : Heap}
theorem ok_init1 {qual : Str} {st : Stmt} {fI : Addr} {fd : FuncData} {f : Str} {p1 p2 p3 p4 : Pos} (F : Fun K "__init__" qual st fI fd) (S : FnScope ["self", f] ["self", f] (defScope st))
    (hb : defBody st = [.Assign [.Attribute (.Name "self" p1) f p2] (.Name f p3) p4])
    (hv : Vis (defScope st) f) (hs : Vis (defScope st) "self") (hd : (f == ("__debug__" : Str)) = false := by decide) (hcd : (f == ("__classdict__" : Str)) = false := by decide)
    (hsw : ∀ env : Env, swapsWith (.Name f p3) (some (.Attribute (.Name "self" p1) f p2)) p4.line env = pure false := by intro _; rfl) :
    FnOk P w K mg base CX0 1 fI fd ["self", f] (spInit1 K f) := by
  refine F.ok S (fun vs H Q E h => ?_) (fun cdv A outer s H vs Q E hr h => ?_)
  · obtain ⟨a, C, v, rfl, _⟩ := h
    rfl
  · obtain ⟨a, C, v, rfl, T, no, ha, k⟩ := h
    rw [hb]
    refine ⟨_, pss_one (ps_ost (pe_var (i := 0) rfl hs) (pe_var (i := 1) rfl hv hd hcd) (hsw _)), ?_⟩
    exact ⟨v, rfl, .ref a, rfl, a, C, rfl, T, no, .inl ⟨ha, fun dx n ne => k dx n ne⟩⟩
/-- an own error class with one field, as the top leaves it -/
structure Err (P : Program) (w : World) (K : PySem.W.Frag) (mg : Str → Option Value) (base : Heap) (x f : Str) (C fI : Addr) (fd : FuncData) : Prop where
  T : OexC K C
  iC : PySem.W.findIn K (.ref C) "__init__" = some (some (.ref fI))
  tI : PySem.W.typeIn K (.ref fI) = some (.type "function")
  F : FnOk P w K mg base CX0 1 fI fd ["self", f] (spInit1 K f)
  b : Binds K fd ["self", f] []
  g : mg x = some (.ref C)
  no : PySem.W.findIn K (.ref C) f = some none
theorem del_back {H : Hp} {a d : Addr} {o1 o2 o3 o4 : HO} (ha : H a = none) (n : d ≠ a) : upd (del (upd (upd (upd H a o1) d o2) a o3) a) d o4 = upd H d o4 := by
  funext b
  by_cases e : b = d
  · rw [e, upd_same, upd_same]
  · rw [upd_ne e, upd_ne e]
    by_cases e2 : b = a
    · rw [e2, del_same, ha]
    · rw [del_ne e2, upd_ne e2, upd_ne e, upd_ne e2]
end
/-- raise X(e) -/
def tRaise1 (K : PySem.W.Frag) (C : Addr) (f : Str) (W : WX) (te : TE) : TS := fun _ σ H => tMkO C (spInit1 K f) [] (tCons te tNil) σ H fun cls d H' => W cls d σ H'
theorem raise1_of {K : PySem.W.Frag} {C : Addr} {f : Str} {W : WX} {σ : L2.St} {H1 : Hp} {v : V} (T : OexC K C) (no : PySem.W.findIn K (.ref C) f = some none) (h : ∀ d, H1 d = none → W (.ref C) (some d) σ (upd H1 d (.xd [(f, v)]))) :
    tNil σ H1 fun xs H2 => (v :: xs).length ≤ 1000 ∧ ∀ a, H2 a = none → spInit1 K f (.ref a :: ((v :: xs) ++ [])) (upd H2 a (exo a C none))
      (fun u H3 => u = .non ∧ ∃ (d : Addr) (fs : List (Str × V)), H3 a = some (exo a C (some d)) ∧ H3 d = some (exd d fs) ∧ H2 d = none ∧ W (.ref C) (some d) σ (upd (del H3 a) d (.xd fs))) (fun _ _ _ => False) := by
  refine ⟨by show 1 ≤ 1000; decide, fun a ha => ⟨a, C, v, rfl, T, no, upd_same, fun dx nd ne => ?_⟩⟩
  rw [upd_ne ne] at nd
  refine ⟨rfl, dx, [(f, v)], upd_same, ?_, nd, ?_⟩
  · rw [upd_ne ne, upd_same]
  · rw [del_back ha ne]
    exact h dx nd
theorem ps_raise1 {X : Cx} {W : WX} {x f : Str} {C fI : Addr} {fd : FuncData} {e : Expr} {te : TE} {p p2 pos : Pos} (hc : X.calm = true) (tk : Takes X W) (R : Err X.prog X.w X.K X.mg X.base x f C fI fd) (hr : Room 2 X.A) (hg : Gl X x) (he : PE X e te)
    (hx : Passes CX0 X (fun _ _ _ => False) := by exact pass0) (hs : starEach [e] X.env = [(false, eval e X.env)] := by rfl) (hdb : (x == ("__debug__" : Str)) = false := by decide) :
    PS X (.Raise (some (.Call (.Name x p) [e] [] p2)) none pos) (tRaise1 X.K C f W te) :=
  ps_raise (pos := pos) hc tk (pmk_oex (p := p) (pos := p2) R.T R.iC R.tI R.F hr R.b .nil hx hg R.g (pa_cons he pa_nil hs) hdb hs)
section
variable {X : Cx}
/-- 1 << k -/
theorem op_oneN : OpR X (binaryOp .LShift) (fun x y H Q => ∃ k : Nat, x = .int 1 ∧ y = .int (k : Int) ∧ k ≤ 1000000 ∧ Q (.int ((2 ^ k : Nat) : Int)) H) := by
  intro pins s σ H x y v u Q I rx ry h
  obtain ⟨k, rfl, rfl, c, q⟩ := h
  refine op_shl pins s σ H _ _ v u Q I rx ry ⟨_, _, rfl, rfl, ⟨Int.natCast_nonneg _, by omega, by decide⟩, ?_⟩
  have e : (1 : Int) * 2 ^ ((k : Int)).toNat = ((2 ^ k : Nat) : Int) := by
    rw [Int.one_mul, Int.toNat_natCast, Int.natCast_pow]
    rfl
  show Q (.int ((1 : Int) * 2 ^ ((k : Int)).toNat)) H
  rw [e]
  exact q
end
theorem pow_lt9 {i : Nat} (h : i ≤ 8000) : ((2 ^ i : Nat) : Int).natAbs < 2 ^ 9000 := by
  rw [Int.natAbs_natCast]
  exact Nat.pow_lt_pow_right (by decide) (by omega)
section
variable {X : Cx} {CX : CXT} {k : Nat} {f : Addr} {fd : FuncData} {ps ks : List Str} {sp : Sp} {E : XK} {x : Str} {p pos : Pos} {kws : List Keyword} {tk : TA} {g : List Value → List Value → List Value} {gV : List V → List V → List V}
/-- f(k = v, ..): keywords alone -/
theorem pe_callKo (F : FnOk X.prog X.w X.K X.mg X.base CX k f fd ps sp) (hr : Room k X.A) (hg : Gl X x) (hm : X.mg x = some (.ref f)) (hk : PySem.W.keepIn X.K (.ref f) = true) (hb : KBinds X.K fd ps ks g gV) (hx : Passes CX X E)
    (hkw : PK X kws tk) (hall : (backToKw pos (keywordEach kws X.env)).all (·.1.isSome) = true := by rfl) (hks : (backToKw pos (keywordEach kws X.env)).filterMap (·.1) = ks := by rfl)
    (hdb : (x == ("__debug__" : Str)) = false := by decide)
    (hpl : ((backTo pos (starEach [] X.env)).any (·.1) || (backToKw pos (keywordEach kws X.env)).any (·.1.isNone)) = false := by rfl) :
    PE X (.Call (.Name x p) [] kws pos) (tCallK sp gV E tNil tk) := by
  refine ⟨fun pins s σ H Q I h => ?_⟩
  refine wpAny_Call_Name_kw (ld_glob I hg hm ?_ hdb)
  refine PySem.W.callWith_KW0 (h₀ := X.base) I.ok.mod.kin hk hall ?_ hpl
  refine thn (hkw.run pos pins s σ H _ I h) fun ws s2 ⟨zs, H2, I2, rz, q2⟩ => ⟨I2.kIn, ?_⟩
  rw [hks]
  exact run_fnk (us := []) F hr hb hx I2 .nil rz q2
end
/-- how the keywords of a def without defaults bind -/
theorem kbinds {K : PySem.W.Frag} {x qual : Str} {st : Stmt} {f : Addr} {fd : FuncData} {ps ks : List Str} {g : List Value → List Value → List Value} {gV : List V → List V → List V} (F : Fun K x qual st f fd)
    (h : ∀ (kV doc pm : Value) (an : Option Addr) (cdv ct : Value) (us ws : List Value), (g us ws).length = ps.length → bindArgs (PySem.W.fnOf x qual (defArgs st) (defBody st) (defScope st) .none kV doc pm an cdv ct) ⟨us, ks.zip ws⟩ = pure (ps.zip (g us ws)))
    (r : ∀ {vs : List V} {us : List Value} {zs : List V} {ws : List Value}, Vals vs us → Vals zs ws → Vals (gV vs zs) (g us ws)) : KBinds K fd ps ks g gV := by
  obtain ⟨oc, od, kV, doc, pm, an, cdv, ct, osl, rfl, lk, hcd⟩ := F.ex
  exact ⟨fun s us ws _ hl => .of_eq (h kV doc pm an cdv ct us ws hl), r⟩
theorem inB_nat (m : Nat) : inB (some 0) none (.int (m : Int)) = true := by
  show (decide ((0 : Int) ≤ (m : Int)) && true) = true
  rw [decide_eq_true (Int.natCast_nonneg m)]
  rfl
/-- isinstance asks by the table of classes -/
theorem kit_sub {K : PySem.W.Frag} {t : Value} {C : Addr} {b : Bool} (h1 : PySem.W.isClsIn K C = true) (h2 : PySem.W.typeIn K (.ref C) = some (.type "type")) (self : PySem.W.subIn K (.ref C) (.ref C) = some true) (h : PySem.W.subIn K t (.ref C) = some b) :
    PySem.W.kitOne K t (.ref C) = some b := by
  unfold PySem.W.kitOne
  by_cases e : (t == Value.ref C) = true
  · rw [if_pos e]
    have e2 : t = Value.ref C := beq_iff_eq.mp e
    subst e2
    rw [self] at h
    exact h
  · rw [if_neg e]
    have h1' : (PySem.W.clsIn K C).isSome = true := h1
    show (if ((PySem.W.clsIn K C).isSome && PySem.W.typeIn K (.ref C) == some (.type "type")) = true then PySem.W.subIn K t (.ref C) else none) = some b
    rw [h1', h2]
    exact h
end OB
/-! len(set(x)) of a list or a tuple of ints, doubles among them. -/
namespace OB
open PySem PySem.Spec PyProof.Rows L2
theorem sub_len {α : Type} [DecidableEq α] : ∀ {l1 l2 : List α}, l1.Nodup → (∀ x ∈ l1, x ∈ l2) → l1.length ≤ l2.length
  | [], l2, _, _ => Nat.zero_le _
  | a :: r, l2, h, s => by
    have h2 := List.nodup_cons.mp h
    have ha : a ∈ l2 := s a List.mem_cons_self
    have ih := sub_len (l1 := r) (l2 := l2.erase a) h2.2 fun x hx => by
      have ne : x ≠ a := fun z => h2.1 (z ▸ hx)
      exact (List.mem_erase_of_ne ne).mpr (s x (List.mem_cons_of_mem _ hx))
    rw [List.length_erase_of_mem ha] at ih
    have pos : 0 < l2.length := List.length_pos_of_mem ha
    rw [List.length_cons]
    omega
theorem nodup_of_sub {α : Type} [DecidableEq α] : ∀ {l1 l2 : List α}, l1.Nodup → (∀ x ∈ l1, x ∈ l2) → l2.length ≤ l1.length → l2.Nodup
  | [], l2, _, _, hl => by
    have e : l2 = [] := List.length_eq_zero_iff.mp (Nat.le_zero.mp hl)
    rw [e]
    exact List.nodup_nil
  | a :: r, l2, h, s, hl => by
    have h2 := List.nodup_cons.mp h
    have ha : a ∈ l2 := s a List.mem_cons_self
    have hs : ∀ x ∈ r, x ∈ l2.erase a := fun x hx => by
      have ne : x ≠ a := fun z => h2.1 (z ▸ hx)
      exact (List.mem_erase_of_ne ne).mpr (s x (List.mem_cons_of_mem _ hx))
    have le := List.length_erase_of_mem ha
    have pos : 0 < l2.length := List.length_pos_of_mem ha
    rw [List.length_cons] at hl
    have ih := nodup_of_sub (l1 := r) (l2 := l2.erase a) h2.2 hs (by omega)
    have na : a ∉ l2.erase a := fun z => by
      have q := sub_len (l1 := a :: r) (l2 := l2.erase a) h fun x hx => by
        rcases List.mem_cons.mp hx with e | e
        · rw [e]
          exact z
        · exact hs x e
      rw [List.length_cons] at q
      omega
    exact ((List.perm_cons_erase ha).nodup_iff).mpr (List.nodup_cons.mpr ⟨na, ih⟩)
theorem same_len {α : Type} [DecidableEq α] {l1 l2 : List α} (h : l1.Nodup) (s : ∀ x, x ∈ l1 ↔ x ∈ l2) : l1.length ≤ l2.length ∧ (l1.length = l2.length ↔ l2.Nodup) := by
  have a := sub_len h fun x hx => (s x).mp hx
  refine ⟨a, fun e => nodup_of_sub h (fun x hx => (s x).mp hx) (by omega), fun e => ?_⟩
  have b := sub_len e fun x hx => (s x).mpr hx
  omega
theorem fm_nodup (val : Nat → Int) : ∀ i, (PyProof.Rows.firstMet val i).Nodup
  | 0 => List.nodup_nil
  | i + 1 => by
    rw [PyProof.Rows.firstMet_succ]
    have ih := fm_nodup val i
    show (if (PyProof.Rows.firstMet val i).any (· == val i) then PyProof.Rows.firstMet val i else PyProof.Rows.firstMet val i ++ [val i]).Nodup
    split
    · exact ih
    · rename_i h
      refine List.nodup_append.mpr ⟨ih, List.nodup_cons.mpr ⟨List.not_mem_nil, List.nodup_nil⟩, fun x hx y hy e => h ?_⟩
      rw [List.mem_singleton] at hy
      subst hy
      exact List.any_eq_true.mpr ⟨x, hx, by rw [e]; exact beq_self_eq_true _⟩
theorem fm_mem (ns : List Int) (x : Int) : x ∈ PyProof.Rows.firstMet (fun i => ns.getD i 0) ns.length ↔ x ∈ ns := by
  have e := PyProof.Rows.firstMet_any (fun i => ns.getD i 0) ns.length x
  have e2 : (List.range ns.length).map (fun i => ns.getD i 0) = ns := by
    apply List.ext_getElem
    · simp
    · intro i h1 h2
      simp [List.getD_eq_getElem?_getD, h2]
  rw [e2] at e
  have m : ∀ l : List Int, (l.any (· == x)) = true ↔ x ∈ l := fun l => by
    rw [List.any_eq_true]
    exact ⟨fun ⟨y, hy, ey⟩ => (eq_of_beq ey) ▸ hy, fun h => ⟨x, h, beq_self_eq_true _⟩⟩
  rw [← m, ← m, e]
/-- how many unlike ints -/
def tLenSet (K : PySem.W.Frag) (ta : TE) : TE := fun σ H Q => ta σ H fun x H1 => ∃ (p : Addr) (ns : List Int), x = .ref p ∧ (SqL K H1 p (ns.map V.int) ∨ SqT K H1 p (ns.map V.int)) ∧ ns.length ≤ 1100 ∧
  ∀ c : Nat, c ≤ ns.length → (c = ns.length ↔ ns.Nodup) → Q (.int (c : Nat)) H1
theorem pe_lenSet2 {X : Cx} {a : Expr} {ta : TE} {p p2 q pos : Pos} (hg : Gl X "len") (hm : X.mg "len" = none) (hg2 : Gl X "set") (hm2 : X.mg "set" = none) (ha : PE X a ta) (hc : X.calm = true := by rfl)
    (na : starEach [a] X.env = (false, eval a X.env) :: starEach [] X.env := by rfl) : PE X (.Call (.Name "len" p) [.Call (.Name "set" p2) [a] [] q] [] pos) (tLenSet X.K ta) := by
  refine ⟨fun pins s σ H Q I h => ?_⟩
  refine Call_ (ld_blt I hg hm boot_len ?_)
  refine PyProof.Rows.callWith_builtin1 (PyProof.Rows.args_cons ?_ rfl) rfl rfl
  refine Call_ (ld_blt I hg2 hm2 boot_set ?_)
  refine PyProof.Rows.callWith_type1 (PyProof.Rows.args_cons (thn (ha.run pins s σ H _ I h) fun v s1 ⟨x, H1, I1, r1, q1⟩ => PyProof.Rows.args_nil ?_) na) na rfl
  obtain ⟨l, ns, rfl, hq, hl, q1⟩ := q1
  cases r1
  rcases hq with hq | hq
  · obtain ⟨its, r, pl, hz⟩ := I1.list hq
    have hlen : its.toArray.size = ns.length := by rw [List.size_toArray, ← r.length, List.length_map]
    refine PySem.call_set_list (I1.ok.hd hc) pl.isList (ns := ns) (by simpa using RZ.intsAre_vals r) (by rw [hlen]; unfold scanBound; omega) fun h' tk hS hk => ?_
    refine PyProof.Rows.args_nil ?_
    rw [hlen] at hS
    have sl := same_len (fm_nodup (fun i => ns.getD i 0) ns.length) (fm_mem ns)
    obtain ⟨o, es, ep, t, ho, hex, hd, _, _, _, hf, hn⟩ := hS
    have I2 : Inv X pins σ H1 { s1 with heap := h', toks := tk } := I1.kept fun b o e => hk b o (Heap.lt_size e) e
    have q2 := q1 es.size (by rw [hn]; exact sl.1) (by rw [hn]; exact sl.2)
    exact call_len_set ho hex hd hf (by have := sl.1; omega) ⟨.int es.size, H1, I2.tok _, ⟨_, rfl⟩, q2⟩
  · obtain ⟨its, r, pt, hz⟩ := I1.tuple hq
    have hi : IntsAre its.toArray.toList ns := ints_of_vals r
    refine call_set_tupI ns (I1.ok.hd hc) (show s1.heap.IsTuple l its.toArray from pt) hi (by unfold scanBound; omega) fun h' tk c R1 hcn k => ?_
    refine PyProof.Rows.args_nil ?_
    obtain ⟨o, es, ep, t, ho, hex, hd, hgood, hnd, hmem, _, hf, hn, _⟩ := R1
    have I2 : Inv X pins σ H1 { s1 with heap := h', toks := tk } := I1.kept fun b o e => k b o e
    have sl := same_len (l2 := ns) hnd fun x => (by
      have z := (hmem x).symm
      simpa using z)
    rw [List.length_map, Array.length_toList] at sl
    have q2 := q1 es.size sl.1 sl.2
    exact call_len_set ho hex hd hf (by have := sl.1; omega) ⟨.int es.size, H1, I2.tok _, ⟨_, rfl⟩, q2⟩
end OB
set_option maxHeartbeats 4000000
/-! sorted(x) of a list or a tuple of ints. -/
namespace OB
open PySem PySem.Spec PyProof.Rows L2 SrtO
section
variable {prog : Program} {w : World} {A : Around} {E : Value → Shared → Prop} {s : Shared}
theorem collect_tup {l : Addr} {vs : List Value} {Q : List Value → Shared → Prop} (ht : IsTup s.heap l vs.toArray)
    (h : Q vs { s with heap := (s.heap.push (seqObj "list" #[] 0)).update s.heap.objs.size (Obj.mapSeq (· ++ vs.toArray)) }) (hz : vs.length ≤ sizeLine) :
    wpAny (model prog w) A (collect (.ref l)) Q E s := by
  obtain ⟨o, ho, hc, n, hd⟩ := id ht
  unfold collect
  refine wpAny_bind (wpAny_runValue (codeAny_builtin entry_proto_collect' ?_))
  show wpAny _ _ (do again (.builtin "list.__iadd__" ⟨[← newList [], .ref l], []⟩)) _ _ s
  refine wpAny_bind (wpAny_newList (wpAny_pure ⟨Code.quiet_builtin _ (by decide +kernel), codeAny_builtin entry_list_iadd' ?_⟩))
  show wpAny _ _ (Builtin.List.listExtendWith (.ref s.heap.objs.size) (.ref l) (.ref s.heap.objs.size)) _ _ { s with heap := s.heap.push (seqObj "list" #[] 0) }
  unfold Builtin.List.listExtendWith
  have o1 : (s.heap.push (seqObj "list" #[] 0)).get? l = some o := Heap.get?_push_of_some _ ho
  refine wpAny_bind (wpAny_typeOf (T := "tuple") ⟨o, o1, hc⟩ ?_)
  rw [if_pos (show (Builtin.List.listSameRef (Value.ref s.heap.objs.size) (Value.ref l) || Value.type "tuple" == Value.type "list" || Value.type "tuple" == Value.type "tuple") = true by
    rw [show (Value.type "tuple" == Value.type "tuple") = true from rfl, Bool.or_true])]
  refine wpAny_bind (listItems_at o1 hd (wpAny_bind (listItems_at (xs := #[]) (n := 0) (Heap.get?_push_size _ rfl) rfl ?_)))
  have room : ((#[] : Array Value) ++ vs.toArray).size ≤ sizeLine + 1 := by
    rw [Array.size_append, List.size_toArray, List.size_toArray, List.length_nil]
    omega
  rw [if_neg (show ¬ (!(#[] : Array Value).isEmpty && Builtin.List.listTooLong ((#[] : Array Value).size + vs.toArray.size)) = true from fun z => by
    have z : (false && _) = true := z
    rw [Bool.false_and] at z
    cases z)]
  refine wpAny_bind (listUpdate_at (xs := #[]) (n := 0) (Heap.get?_push_size _ rfl) rfl (wpAny_pure ?_) (Nat.zero_le _) room)
  refine wpAny_bind (wpAny_load (get?_update_seq (Heap.get?_push_size _ rfl) _) (wpAny_pure ?_))
  have e : ((#[] : Array Value) ++ vs.toArray).toList = vs := by simp
  rw [e]
  exact h
theorem sorted_tup {l : Addr} {vs : List Value} {ltv : Value → Value → Bool} {Q : Value → Shared → Prop} (O : Swo ltv) (ht : IsTup s.heap l vs.toArray) (hz : vs.length ≤ sizeLine)
    (hS : 2 ≤ vs.length → ∀ (h₁ : Heap) (a : Addr), h₁.get? a = some (seqObj "list" vs.toArray 0) → (∀ b o, s.heap.get? b = some o → b ≠ a ∧ h₁.get? b = some o) → SortableO prog w A.in1.in1 { s with heap := h₁ } a vs ltv)
    (h : ∀ out : List Value, Srtd ltv out → Stb ltv out vs → Q (.ref (s.heap.objs.size + 1)) { s with heap := sortedAll s.heap vs out.toArray }) :
    wpAny (model prog w) A (call (.builtin "sorted") [.ref l]) Q E s := by
  generalize hg : (s.heap.push (seqObj "list" #[] 0)).update s.heap.objs.size (Obj.mapSeq (· ++ vs.toArray)) = g
  have size : g.objs.size = s.heap.objs.size + 1 := by
    rw [← hg, Heap.size_update, Heap.size_push]
  have old : ∀ b o, s.heap.get? b = some o → g.get? b = some o := fun b o q => by
    rw [← hg, Heap.get?_update_ne _ _ _ _ (Nat.ne_of_lt (Heap.lt_size q))]
    exact Heap.get?_push_of_some _ q
  have new : (g.push (seqObj "list" vs.toArray 0)).get? (s.heap.objs.size + 1) = some (seqObj "list" vs.toArray 0) := by
    rw [← size]
    exact Heap.get?_push_size _ rfl
  refine Calls.call_function_entry kind_sorted plain_sorted entry_sorted (args_sorted1 _) ?_
  unfold Builtin.«sorted»
  refine wpAny_bind (m := checkCount "sorted" 1 1 _) (wpAny_pure (wpAny_bind (collect_tup ht ?_ hz)))
  rw [hg]
  refine wpAny_bind (wpAny_newList ?_ hz)
  show wpAny _ _ _ _ _ { s with heap := g.push (seqObj "list" vs.toArray 0) }
  rw [size]
  refine wpAny_bind (wpAny_holding (wpAny_call_entry slot_list_sort ⟨_, new, rfl⟩ entry_list_sort (list_sort_ord O new hz (fun h2 => hS h2 _ _ new fun b o q => ?_) fun out hs hb => ⟨_, rfl, wpAny_pure ⟨_, rfl, ?_⟩⟩) (args_list_sort _)))
  · exact ⟨Nat.ne_of_lt (Nat.lt_succ_of_lt (Heap.lt_size q)), Heap.get?_push_of_some _ (old b o q)⟩
  · rw [← hg]
    exact h out hs hb
end
section
variable {X : Cx}
def rSortedA (K : PySem.W.Frag) : List V → Hp → VK → Prop := fun vs H Q => ∃ (a : Addr) (ns : List Int), vs = [V.ref a] ∧ (SqL K H a (ns.map V.int) ∨ SqT K H a (ns.map V.int)) ∧
  ∀ (ns' : List Int) (p : Addr), ns'.Perm ns → ns'.Pairwise (· ≤ ·) → H p = none → Q (.ref p) (upd H p (.lst (ns'.map V.int)))
theorem cr_sortedA : CallR X (.builtin "sorted") (rSortedA X.K) := by
  intro pins s σ H vs us Q I r h
  obtain ⟨a, ns, rfl, hs, q⟩ := h
  rcases hs with hs | ht
  · exact cr_sortedI pins s σ H _ us Q I r ⟨a, ns, rfl, hs, q⟩
  · obtain ⟨its, rv, hl, hz⟩ := I.tuple ht
    rw [Vals.ref1 r]
    have hi := rv.ints
    refine sorted_tup swo_int hl (by rw [← rv.length]; exact hz) (fun h2 h₁ a' _ _ => ints_sortable hi h2) fun out h1 h2 => ?_
    obtain ⟨k1, k2, k3⟩ := ints_out hi h1 h2
    obtain ⟨ep, at'⟩ := PyProof.Rows.sortedAll_at s.heap its out.toArray
    have hlen : ((out.map iv).map V.int).length ≤ sizeLine := by
      rw [List.length_map] at hz ⊢
      rw [k2.length_eq]
      exact hz
    exact ⟨.ref _, upd H (s.heap.objs.size + 1) (.lst ((out.map iv).map V.int)), I.laid (t' := s.toks) (fun _ _ => PyProof.Rows.sortedAll_old) (Nat.le_succ _) ⟨hlen, out, ep, vals_of_ints k1, at'⟩, rfl, q _ _ k2 k3 (I.hok.fresh (Nat.le_succ _))⟩
end
end OB
/-! A list or a tuple: gone through, asked for its kind. -/
namespace OB
open PySem PySem.Spec PyProof.Rows L2
theorem sqL_same {K : PySem.W.Frag} {H H' : Hp} {a : Addr} {xs : List V} (h : SqL K H a xs) (s : Same H H') : SqL K H' a xs := by
  rcases h with (h | ⟨o, h⟩) | h
  · exact .inl (.inl (s _ _ h))
  · exact .inl (.inr ⟨o, s _ _ h⟩)
  · exact .inr h
theorem sqT_same {K : PySem.W.Frag} {H H' : Hp} {a : Addr} {xs : List V} (h : SqT K H a xs) (s : Same H H') : SqT K H' a xs := by
  rcases h with (h | ⟨o, h⟩) | h
  · exact .inl (.inl (s _ _ h))
  · exact .inl (.inr ⟨o, s _ _ h⟩)
  · exact .inr h
def iSeqA (K : PySem.W.Frag) (te : TE) : TI := fun σ H R => te σ H fun x H1 => ∃ a, x = .ref a ∧ (((∃ xs, SqL K H1 a xs) ∧ R (Itl K a) H1) ∨ ((∃ xs, SqT K H1 a xs) ∧ R (Itt K a) H1))
theorem pi_seqA {X : Cx} {tg e : Expr} {te : TE} (he : PE X e te) : PI X tg e (iSeqA X.K te) := by
  refine ⟨fun pins s σ H R I h => thn (he.run pins s σ H _ I h) fun v s1 ⟨x, H1, I1, r1, a, ex, q⟩ => ?_⟩
  subst ex
  cases r1
  rcases q with ⟨⟨xs, hq⟩, q⟩ | ⟨⟨xs, hq⟩, q⟩
  · obtain ⟨its, rv, p, hz⟩ := I1.list hq
    exact wpAny_pyIter_list p.isList (pi_one (tk := s1.toks) I1 _ (turn_list a _) ⟨_, Heap.get?_push_size _ rfl, rfl, rfl⟩ q)
  · obtain ⟨its, rv, p, hz⟩ := I1.tuple hq
    exact wpAny_pyIter_tuple (show s1.heap.IsTuple a its.toArray from p) (pi_one (tk := s1.toks) I1 _ (turn_tuple a _) ⟨_, Heap.get?_push_size _ rfl, rfl, rfl⟩ q)
/-- a row over it, a list or a tuple: Pv by the new list, the turn and the heap -/
theorem lc_seqA {K : PySem.W.Frag} {a : Addr} {xs : List V} {g : TG} {tt : TT} {te : TE} {vs : List Nat} {σ : L2.St} {H1 : Hp} {Qd : Addr → Hp → Prop} (h : SqL K H1 a xs ∨ SqT K H1 a xs) (Pv : Addr → Nat → Hp → Prop)
    (h0 : ∀ D, H1 D = none → Pv D 0 (upd H1 D (.lst []))) (keep : ∀ D i H, H1 D = none → i ≤ xs.length → Pv D i H → Same H1 H)
    (hs : ∀ D i x H, H1 D = none → xs[i]? = some x → Pv D i H → g x (wipe σ vs) H fun σ2 H2 => wipe σ2 vs = wipe σ vs ∧ tt σ2 H2 fun b H3 =>
      if b = true then te σ2 H3 fun y H4 => ∃ acc, H4 D = some (.lst acc) ∧ acc.length < sizeLine ∧ Pv D (i + 1) (upd H4 D (.lst (acc ++ [y]))) else Pv D (i + 1) H3) (hd : ∀ D H, H1 D = none → Pv D xs.length H → Qd D H) :
    ((∃ ys, SqL K H1 a ys) ∧ ∀ D, H1 D = none → ∃ W : Nat → Nat → Hp → Prop, (∃ m, W 0 m (upd H1 D (.lst []))) ∧ ∀ i m H, W i m H →
      ((Itl K a).stop i H ∧ Qd D H) ∨ ((Itl K a).go i H ∧ ∃ Nx : Hp → Prop, (∀ H', Nx H' → ∃ m', m' < m ∧ W (i + 1) m' H') ∧ ∀ x H', (Itl K a).yld i H x H' → g x (wipe σ vs) H' fun σ2 H2 => wipe σ2 vs = wipe σ vs ∧ tt σ2 H2 fun b H3 =>
        if b = true then te σ2 H3 fun y H4 => ∃ acc, H4 D = some (.lst acc) ∧ acc.length < sizeLine ∧ Nx (upd H4 D (.lst (acc ++ [y]))) else Nx H3)) ∨
    ((∃ ys, SqT K H1 a ys) ∧ ∀ D, H1 D = none → ∃ W : Nat → Nat → Hp → Prop, (∃ m, W 0 m (upd H1 D (.lst []))) ∧ ∀ i m H, W i m H →
      ((Itt K a).stop i H ∧ Qd D H) ∨ ((Itt K a).go i H ∧ ∃ Nx : Hp → Prop, (∀ H', Nx H' → ∃ m', m' < m ∧ W (i + 1) m' H') ∧ ∀ x H', (Itt K a).yld i H x H' → g x (wipe σ vs) H' fun σ2 H2 => wipe σ2 vs = wipe σ vs ∧ tt σ2 H2 fun b H3 =>
        if b = true then te σ2 H3 fun y H4 => ∃ acc, H4 D = some (.lst acc) ∧ acc.length < sizeLine ∧ Nx (upd H4 D (.lst (acc ++ [y]))) else Nx H3)) := by
  rcases h with h | h
  · exact .inl ⟨⟨xs, h⟩, fun D hD => lc_list (Pv D) (h0 D hD) (fun i H hi p => sqL_same h (keep D i H hD hi p)) (fun i x H hx p => hs D i x H hD hx p) fun H p => hd D H hD p⟩
  · exact .inr ⟨⟨xs, h⟩, fun D hD => lc_tup (Pv D) (h0 D hD) (fun i H hi p => sqT_same h (keep D i H hD hi p)) (fun i x H hx p => hs D i x H hD hx p) fun H p => hd D H hD p⟩
/-- whether a value is a list or a tuple -/
def IsL (K : PySem.W.Frag) (H : Hp) (x : V) (b : Bool) : Prop := ∃ (n : String) (b1 b2 : Bool), TyX K H x (.type n) ∧ kitB n "list" = some b1 ∧ kitB n "tuple" = some b2 ∧ b = (b1 || b2)
theorem isL_any {K : PySem.W.Frag} {H : Hp} {x : V} {b : Bool} (h : IsL K H x b) : ∃ t, TyX K H x t ∧ PySem.W.kitAny K t [.type "list", .type "tuple"] = some b := by
  obtain ⟨n, b1, b2, ty, e1, e2, rfl⟩ := h
  refine ⟨_, ty, kitAny_cons (kit_ty e1) (fun z => kitAny_cons (kit_ty e2) (fun z2 => ?_) fun z2 => ?_) fun z => ?_⟩
  · rw [z, z2]
    exact kitAny_nil
  · rw [z, z2]
    rfl
  · rw [z]
    rfl
section
variable {K : PySem.W.Frag} {H : Hp}
theorem isL_int (i : Int) : IsL K H (.int i) false := ⟨"int", false, false, .base (.int i), by decide +kernel, by decide +kernel, rfl⟩
theorem isL_non : IsL K H .non false := ⟨"NoneType", false, false, .base .non, by decide +kernel, by decide +kernel, rfl⟩
theorem isL_bl (b : Bool) : IsL K H (.bl b) false := ⟨"bool", false, false, .base (.bl b), by decide +kernel, by decide +kernel, rfl⟩
theorem isL_str (x : Str) : IsL K H (.str x) false := ⟨"str", false, false, .base (.str x), by decide +kernel, by decide +kernel, rfl⟩
theorem isL_dK {a : Addr} {kvs : List (Key × V)} (e : H a = some (.dK kvs)) : IsL K H (.ref a) false := ⟨"dict", false, false, .base (.dK e), by decide +kernel, by decide +kernel, rfl⟩
theorem isL_lst {a : Addr} {xs : List V} (e : H a = some (.lst xs)) : IsL K H (.ref a) true := ⟨"list", true, false, .base (.lst e), by decide +kernel, by decide +kernel, rfl⟩
theorem isL_tup {a : Addr} {xs : List V} (e : H a = some (.tup xs)) : IsL K H (.ref a) true := ⟨"tuple", false, true, .base (.tup e), by decide +kernel, by decide +kernel, rfl⟩
end
end OB
/-! Promises of defs where it is known that no repr is under way: there repr of a list or a tuple is its text. -/
namespace OB
open PySem PySem.Spec PyProof.Rows L2 LamX
/-- what FnOk promises, asked only where no repr is under way -/
structure FnG (P : Program) (w : World) (K : PySem.W.Frag) (mg : Str → Option Value) (base : Heap) (CX : CXT) (k : Nat) (f : Addr) (fd : FuncData) (ps : List Str) (sp : Sp) : Prop where
  len : ∀ vs H Q E, sp vs H Q E → vs.length = ps.length
  run : ∀ (A : Around) (outer : List Env) (s : Shared) (H : Hp) (args : Args) (us : List Value) (vs : List V) (Q : VK) (E : XK), A.guards = some [] → Room k A → Env0 P w K mg base A outer s H → BindsTo s fd args (ps.zip us) → Vals vs us → sp vs H Q E →
    codeAny (model P w) A (.call (.ref f) args) (CR CX outer P w H s Q E) s
section
variable {P : Program} {w : World} {K : PySem.W.Frag} {mg : Str → Option Value} {base : Heap} {CX : CXT} {k : Nat} {f : Addr} {fd : FuncData} {ps : List Str} {sp : Sp}
theorem FnG.of (F : FnOk P w K mg base CX k f fd ps sp) : FnG P w K mg base CX k f fd ps sp := ⟨F.len, fun A outer s H args us vs Q E _ => F.run A outer s H args us vs Q E⟩
theorem fnG_of {name qual : Str} {params : Arguments} {body : List Stmt} {scope : Scope} {dV kV doc pm cdv ct oc : Value} {an od : Option Addr} {osl : Array (Option Value)} {N : List Str}
    (lk : K.lookup f = some ⟨oc, od, .func (PySem.W.fnOf name qual params body scope dV kV doc pm an cdv ct), osl⟩) (hcd : PySem.W.codeIn K cdv qual = true) (S : FnScope N ps scope) (len : ∀ vs H Q E, sp vs H Q E → vs.length = ps.length)
    (hbody : ∀ (A : Around) (outer : List Env) (s : Shared) (H : Hp) (vs : List V) (Q : VK) (E : XK), A.guards = some [] → Room k (A.deeper (envOfC qual scope s.heap.objs.size f cdv)) → sp vs H Q E →
      ∃ t, PSs (cxOf CX P w K mg base N qual scope f cdv A outer s H E) body t ∧ t { nx := fun _ H' => Q .non H', rt := Q } (L2.start N vs) H) :
    FnG P w K mg base CX (k + 1) f (PySem.W.fnOf name qual params body scope dV kV doc pm an cdv ct) ps sp :=
  ⟨len, fun A outer s H args us vs Q E hgd hr e0 hb r hsp => run_ofS lk hcd S hr e0 hb r (len _ _ _ _ hsp) fun hr' => hbody A outer s H vs Q E hgd hr' hsp⟩
theorem okG {x qual : Str} {st : Stmt} {N : List Str} (F : Fun K x qual st f fd) (S : FnScope N ps (defScope st)) (len : ∀ vs H Q E, sp vs H Q E → vs.length = ps.length)
    (hbody : ∀ (cdv : Value) (A : Around) (outer : List Env) (s : Shared) (H : Hp) (vs : List V) (Q : VK) (E : XK), A.guards = some [] → Room k (A.deeper (envOfC qual (defScope st) s.heap.objs.size f cdv)) → sp vs H Q E →
      ∃ t, PSs (cxOf CX0 P w K mg base N qual (defScope st) f cdv A outer s H E).nox (defBody st) t ∧ t { nx := fun _ H' => Q .non H', rt := Q } (L2.start N vs) H) : FnG P w K mg base CX0 (k + 1) f fd ps sp := by
  obtain ⟨oc, od, kV, doc, pm, an, cdv, ct, osl, rfl, lk, hcd⟩ := F.ex
  refine fnG_of lk hcd S len fun A outer s H vs Q E hgd hr hsp => ?_
  obtain ⟨t, h, q⟩ := hbody cdv A outer s H vs Q E hgd hr hsp
  exact ⟨t, h.nox, q⟩
end
section
variable {X : Cx} {CX : CXT} {k : Nat} {f : Addr} {fd : FuncData} {ps : List Str} {sp : Sp} {E : XK} {x : Str} {p pos : Pos} {e : Expr} {es : List Expr} {t : TA} {ds : List Value} {dvs : List V}
theorem run_fnG {pins : List (Addr × Obj)} {σ : L2.St} {H : Hp} {s : Shared} {Q : VK} {us : List Value} {vs : List V} (F : FnG X.prog X.w X.K X.mg X.base CX k f fd ps sp) (hgd : X.A.guards = some []) (hr : Room k X.A) (hb : L2.Binds X.K fd ps ds) (hd : Vals dvs ds) (hx : Passes CX X E)
    (I : Inv X pins σ H s) (r : Vals vs us) (h : sp (vs ++ dvs) H Q E) : wpAny (model X.prog X.w) X.A (call (.ref f) us) (EP X pins σ Q) X.xe s := by
  have r2 : Vals (vs ++ dvs) (us ++ ds) := r.append hd
  have hl : (us ++ ds).length = ps.length := r2.length ▸ F.len _ _ _ _ h
  refine wpAny_call (codeAny_mono (F.run X.A X.stack s H ⟨us, []⟩ (us ++ ds) (vs ++ dvs) Q E hgd hr I.env0 (hb s us I.kIn hl) r2 h) fun res s' hq => ?_)
  match res, hq with
  | .error _, hq => exact hx pins σ H s _ s' I hq
  | .ok (.ret _), hq => exact I.after hq
/-- f(e, ..), f promised where no repr is under way -/
theorem pe_callG (F : FnG X.prog X.w X.K X.mg X.base CX k f fd ps sp) (hgd : X.A.guards = some []) (hr : Room k X.A) (hg : Gl X x) (hm : X.mg x = some (.ref f)) (hk : PySem.W.keepIn X.K (.ref f) = true) (hb : L2.Binds X.K fd ps ds) (hd : Vals dvs ds) (hx : Passes CX X E)
    (ha : PA X (e :: es) t) (hdb : (x == ("__debug__" : Str)) = false := by decide) (he : starEach (e :: es) X.env = (false, eval e X.env) :: starEach es X.env := by rfl) (hpl : (backTo pos (starEach es X.env)).any (·.1) = false := by rfl) :
    PE X (.Call (.Name x p) (e :: es) [] pos) (tCall sp dvs E t) :=
  ⟨fun pins s σ H Q I h => wpAny_Call_Name_kw (ld_glob I hg hm (PySem.W.callWith_K (h₀ := X.base) I.ok.mod.kin hk (thn (ha.run pos pins s σ H _ I h) fun us s1 ⟨vs, H1, I1, r, q⟩ => ⟨I1.kIn, run_fnG F hgd hr hb hd hx I1 r q⟩) he hpl) hdb)⟩
/-- repr(x), x data of lists and tuples -/
def rReprD (K : PySem.W.Frag) : List V → Hp → VK → Prop := fun xs H Q => ∃ (a : Addr) (d : PyData), xs = [.ref a] ∧ Dp K H (.ref a) d ∧ d.showable = true ∧ d.canLay0 = true ∧ d.depth ≤ 60 ∧ d.shown.length ≤ sizeLine ∧ Q (.str d.shown) H
theorem call_reprD (hgd : X.A.guards = some []) (hu : X.A.units + 64 < cLine) : CallR X (.builtin "repr") (rReprD X.K) := by
  intro pins s σ H xs us Q I r h
  obtain ⟨a, d, rfl, hd, hs, hl, hdp, hz, q⟩ := h
  cases r with
  | cons r rr =>
    cases rr
    obtain ⟨as, rd⟩ := Dp.reads I d _ _ hd r
    cases r
    refine repr_of_reads' rd hs (PyData.noDict_hsm (PyData.hasDict_of_canLay d hl)) hgd (by omega) (fun _ _ e => e) (fun h' u tk hk => ?_) hz
    exact ⟨.str d.shown, H, I.kept hk, ⟨_, rfl⟩, q⟩
end
end OB
/-! repr of a list or a tuple of ints. -/
namespace OB
open PySem PySem.Spec PyProof.Rows L2
theorem shown_ints : ∀ ns : List Int, PyData.shownAll (ns.map PyData.int) = ns.map fun n => Str.ofString (toString n)
  | [] => by simp [PyData.shownAll]
  | n :: r => by simp [PyData.shownAll, PyData.shown, shown_ints r]
theorem show_ints : ∀ ns : List Int, (∀ n ∈ ns, n.natAbs.log2 < 1920) → PyData.showableAll (ns.map PyData.int) = true
  | [], _ => by simp [PyData.showableAll]
  | n :: r, h => by
    have h1 := h n List.mem_cons_self
    have h2 := show_ints r fun x hx => h x (List.mem_cons_of_mem _ hx)
    simp [PyData.showableAll, PyData.showable, h2, h1]
theorem piled_ints : ∀ ns : List Int, (∀ n ∈ ns, n.natAbs.log2 < 1920) → piled (ns.map fun n => Str.ofString (toString n)) ≤ 1923 * ns.length
  | [], _ => Nat.zero_le _
  | n :: r, h => by
    have h1 := int_text_len_1921 (h n List.mem_cons_self)
    have h2 := piled_ints r fun x hx => h x (List.mem_cons_of_mem _ hx)
    rw [List.map_cons, piled_cons, List.length_cons]
    omega
theorem list_len (ts : List Str) : (listText ts).length ≤ piled ts + 2 := by
  have one : (("[" : String) : Str).length = 1 := rfl
  have two : (("]" : String) : Str).length = 1 := rfl
  unfold listText
  rw [strLen_append, two]
  cases ts with
  | nil =>
    show (("[" : String) : Str).length + 1 ≤ _
    rw [one]
    exact Nat.le_add_left _ _
  | cons t r =>
    show (textFrom 1 ((("[" : String) : Str) ++ t) r).length + 1 ≤ _
    rw [textFrom_length_pos r 1 _ (by decide), strLen_append, one, piled_cons]
    omega
theorem depth_ints (ns : List Int) : PyData.depthAll (ns.map PyData.int) ≤ 1 := deep_ints ns
/-- the text of a list, of a tuple of ints -/
def tl (ns : List Int) : Str := PyData.shown (.list (ns.map PyData.int))
def tt (ns : List Int) : Str := PyData.shown (.tuple (ns.map PyData.int))
theorem tl_len {ns : List Int} (h : ∀ n ∈ ns, n.natAbs.log2 < 1920) (hl : ns.length ≤ 1000) : (tl ns).length ≤ sizeLine := by
  have a := piled_ints ns h
  have b := list_len (ns.map fun n => Str.ofString (toString n))
  show (listText (PyData.shownAll (ns.map PyData.int))).length ≤ sizeLine
  rw [shown_ints, sizeLine_eq]
  omega
theorem tt_len {ns : List Int} (h : ∀ n ∈ ns, n.natAbs.log2 < 1920) (hl : ns.length ≤ 1000) : (tt ns).length ≤ sizeLine := by
  have a := piled_ints ns h
  have b := fmt_text (ns.map fun n => Str.ofString (toString n))
  show (tupleText (PyData.shownAll (ns.map PyData.int))).length ≤ sizeLine
  rw [shown_ints, sizeLine_eq]
  omega
section
variable {X : Cx}
def rReprI (K : PySem.W.Frag) : List V → Hp → VK → Prop := fun xs H Q => ∃ (a : Addr) (ns : List Int), xs = [.ref a] ∧ (∀ n ∈ ns, n.natAbs.log2 < 1920) ∧ ns.length ≤ 1000 ∧ ((SqL K H a (ns.map V.int) ∧ Q (.str (tl ns)) H) ∨ (SqT K H a (ns.map V.int) ∧ Q (.str (tt ns)) H))
theorem call_reprI (hgd : X.A.guards = some []) (hu : X.A.units + 64 < cLine) : CallR X (.builtin "repr") (rReprI X.K) := by
  intro pins s σ H xs us Q I r h
  obtain ⟨a, ns, rfl, hs, hl, q⟩ := h
  have sh := show_ints ns hs
  have d := depth_ints ns
  rcases q with ⟨hq, q⟩ | ⟨hq, q⟩
  · refine call_reprD hgd hu pins s σ H _ us Q I r ⟨a, .list (ns.map PyData.int), rfl, Dp.lst hq (dp_ints ns), by simp [PyData.showable, sh], by simp [PyData.canLay0, lay_ints], ?_, tl_len hs hl, q⟩
    show PyData.depthAll (ns.map PyData.int) + 1 ≤ 60
    omega
  · refine call_reprD hgd hu pins s σ H _ us Q I r ⟨a, .tuple (ns.map PyData.int), rfl, Dp.tup hq (dp_ints ns), by simp [PyData.showable, sh], by simp [PyData.canLay0, lay_ints], ?_, tt_len hs hl, q⟩
    show PyData.depthAll (ns.map PyData.int) + 1 ≤ 60
    omega
end
end OB
/-! What a reader of errors told, call by call, in a list that grows; things that stay meanwhile. -/
namespace OB
open PySem PySem.Spec PyProof.Rows L2 LamX
/-- a list that begins with a reference, or a table: what may change -/
def refL : HO → Bool
  | .lst (.ref _ :: _) => true
  | .tbl _ => true
  | _ => false
def Keep (H H' : Hp) : Prop := ∀ q o, H q = some o → refL o = false → H' q = some o
section
variable {H H' H1 H2 : Hp}
theorem Keep.refl : Keep H H := fun _ _ h _ => h
theorem Keep.trans (a : Keep H H1) (b : Keep H1 H2) : Keep H H2 := fun q o h n => b q o (a q o h n) n
theorem Keep.ext (e : ExtN H H') : Keep H H' := fun q o h n => e q o h fun ps z => by
  subst z
  cases n
theorem Keep.same (s : Same H H') : Keep H H' := fun q o h _ => s q o h
theorem Keep.but {p : Addr} (b : But p H H') (hp : ∃ x r, H p = some (.lst (.ref x :: r))) : Keep H H' := fun q o h n => b q o h fun z => by
  obtain ⟨x, r, hp⟩ := hp
  rw [z, hp] at h
  cases h
  cases n
theorem orch_ref {p b : Addr} {n : Nat} (o : Orch H p b n) : ∃ x r, H p = some (.lst (.ref x :: r)) := by
  obtain ⟨ns, t, l, h1, _⟩ := o
  exact ⟨_, _, h1⟩
theorem orch_extN {p b : Addr} {n : Nat} (o : Orch H p b n) (e : ExtN H H') : Orch H' p b n := by
  obtain ⟨ns, t, l, h1, h2, h3⟩ := o
  exact ⟨ns, t, l, e _ _ h1 (fun _ z => nomatch z), e _ _ h2 (fun _ z => nomatch z), h3⟩
theorem tabs_butN {T : List (Addr × Str)} {p : Addr} {xs : List V} (t : Tabs T H) (b : But p H H') (hp : H p = some (.lst xs)) : Tabs T H' := fun x hx => by
  obtain ⟨ps, h1, h2, h3⟩ := t x hx
  have n1 : x.1 ≠ p := fun z => by
    rw [z, hp] at h1
    cases h1
  refine ⟨ps, b _ _ h1 n1, h2, fun pos cv hc => ?_⟩
  obtain ⟨c, e1, e2⟩ := h3 pos cv hc
  have n2 : c ≠ p := fun z => by
    rw [z, hp] at e2
    have e2 := Option.some.inj e2
    cases e2
  exact ⟨c, e1, b _ _ e2 n2⟩
theorem tabs_orchN {T : List (Addr × Str)} {p b : Addr} {n : Nat} (t : Tabs T H) (B : But p H H') (o : Orch H p b n) : Tabs T H' := by
  obtain ⟨ns, x, y, hp, _⟩ := o
  exact tabs_butN t B hp
/-- things that stay -/
def Fix (A : List (Addr × HO)) (H : Hp) : Prop := ∀ a ∈ A, H a.1 = some a.2 ∧ refL a.2 = false
theorem Fix.nil : Fix [] H := fun a h => absurd h List.not_mem_nil
theorem Fix.cons {A : List (Addr × HO)} {a : Addr} {o : HO} (h : H a = some o) (n : refL o = false) (f : Fix A H) : Fix ((a, o) :: A) H := fun x hx => by
  rcases List.mem_cons.mp hx with e | e
  · rw [e]
    exact ⟨h, n⟩
  · exact f x e
theorem Fix.keep {A : List (Addr × HO)} (f : Fix A H) (k : Keep H H') : Fix A H' := fun a ha => ⟨k _ _ (f a ha).1 (f a ha).2, (f a ha).2⟩
theorem Fix.get {A : List (Addr × HO)} (f : Fix A H) {a : Addr} {o : HO} (h : (a, o) ∈ A) : H a = some o := (f _ h).1
theorem Fix.app {A B : List (Addr × HO)} (f : Fix A H) (g : Fix B H) : Fix (A ++ B) H := fun a ha => by
  rcases List.mem_append.mp ha with e | e
  · exact f a e
  · exact g a e
/-- what the reader told: a kind and a part, or None -/
def Ent (H : Hp) (v : V) : Option (Str × Str) → Prop
  | none => v = .non
  | some k => ∃ t, v = .ref t ∧ H t = some (.tup [.str k.1, .str k.2])
def Res (H : Hp) : List V → List (Option (Str × Str)) → Prop
  | [], [] => True
  | v :: r, k :: ks => Ent H v k ∧ Res H r ks
  | _, _ => False
theorem Ent.keep {v : V} {k : Option (Str × Str)} (e : Ent H v k) (q : Keep H H') : Ent H' v k := by
  cases k with
  | none => exact e
  | some k =>
    obtain ⟨t, rfl, h⟩ := e
    exact ⟨t, rfl, q _ _ h rfl⟩
theorem Res.keep (q : Keep H H') : ∀ {vs : List V} {ks : List (Option (Str × Str))}, Res H vs ks → Res H' vs ks
  | [], [], _ => trivial
  | _ :: _, _ :: _, ⟨a, b⟩ => ⟨a.keep q, Res.keep q b⟩
theorem Res.snoc {v : V} {k : Option (Str × Str)} (e : Ent H v k) : ∀ {vs : List V} {ks : List (Option (Str × Str))}, Res H vs ks → Res H (vs ++ [v]) (ks ++ [k])
  | [], [], _ => ⟨e, trivial⟩
  | _ :: _, _ :: _, ⟨a, b⟩ => ⟨a, Res.snoc e b⟩
theorem Res.length : ∀ {vs : List V} {ks : List (Option (Str × Str))}, Res H vs ks → vs.length = ks.length
  | [], [], _ => rfl
  | _ :: _, _ :: _, ⟨_, b⟩ => congrArg (· + 1) (Res.length b)
def entD : Option (Str × Str) → PyData
  | none => .none
  | some k => .tuple [.str k.1, .str k.2]
theorem Ent.dp {K : PySem.W.Frag} {v : V} {k : Option (Str × Str)} (e : Ent H v k) : Dp K H v (entD k) := by
  cases k with
  | none =>
    have e : v = .non := e
    rw [e]
    exact .non
  | some k =>
    obtain ⟨t, rfl, h⟩ := e
    exact Dp.tup (SqT.of h) (.cons (.str _) (.cons (.str _) .nil))
theorem Res.dp {K : PySem.W.Frag} : ∀ {vs : List V} {ks : List (Option (Str × Str))}, Res H vs ks → DpAll K H vs (ks.map entD)
  | [], [], _ => .nil
  | _ :: _, _ :: _, ⟨a, b⟩ => .cons a.dp (Res.dp b)
/-- between two calls of the reader -/
structure St (T : List (Addr × Str)) (p b h : Addr) (A : List (Addr × HO)) (n : Nat) (H : Hp) (vs : List V) (ks : List (Option (Str × Str))) : Prop where
  tabs : Tabs T H
  orch : Orch H p b n
  at' : H h = some (.lst vs)
  hp : h ≠ p
  hb : h ≠ b
  fix : Fix A H
  res : Res H vs ks
  first : ∃ x r, vs = .ref x :: r
variable {T : List (Addr × Str)} {p b h : Addr} {A : List (Addr × HO)} {n m : Nat} {vs : List V} {ks : List (Option (Str × Str))}
theorem St.ext (s : St T p b h A n H vs ks) (e : ExtN H H') (t : Tabs T H') : St T p b h A n H' vs ks :=
  ⟨t, orch_extN s.orch e, e _ _ s.at' (fun _ z => nomatch z), s.hp, s.hb, s.fix.keep (.ext e), s.res.keep (.ext e), s.first⟩
theorem St.but (s : St T p b h A n H vs ks) (B : But p H H') (O : Orch H' p b m) : St T p b h A m H' vs ks :=
  ⟨tabs_orchN s.tabs B s.orch, O, B _ _ s.at' s.hp, s.hp, s.hb, s.fix.keep (.but B (orch_ref s.orch)), s.res.keep (.but B (orch_ref s.orch)), s.first⟩
theorem St.add {v : V} {k : Option (Str × Str)} (s : St T p b h A n H vs ks) (e : Ent H v k) : St T p b h A n (upd H h (.lst (vs ++ [v]))) (vs ++ [v]) (ks ++ [k]) := by
  obtain ⟨x, r, ev⟩ := s.first
  have B : But h H (upd H h (.lst (vs ++ [v]))) := but_at
  have kp : Keep H (upd H h (.lst (vs ++ [v]))) := .but B ⟨x, r, by rw [s.at', ev]⟩
  refine ⟨tabs_butN s.tabs B s.at', s.orch.keep (fun u hu => B _ _ hu (fun z => s.hp z.symm)) (fun u hu => B _ _ hu (fun z => s.hb z.symm)), upd_same, s.hp, s.hb, s.fix.keep kp, (s.res.keep kp).snoc (e.keep kp), x, r ++ [v], by rw [ev]; rfl⟩
theorem St.begin {t h : Addr} {k : Str × Str} (hT : Tabs T H) (O : Orch H p b n) (F : Fix A H) (e : Ent H (.ref t) (some k)) (hh : H h = none) : St T p b h A n (upd H h (.lst [.ref t])) [.ref t] [some k] := by
  have S := same_new (o := .lst [.ref t]) hh
  obtain ⟨u, hu⟩ := O.pn
  obtain ⟨u2, hu2⟩ := O.bn
  exact ⟨hT.ext S, O.same S, upd_same, (ne_of_none hu hh).symm, (ne_of_none hu2 hh).symm, F.keep (.same S), ⟨e.keep (.same S), trivial⟩, t, [], rfl⟩
end
end OB
/-! The law's own call, its promise asked only where no repr is under way. -/
namespace OB
open PySem PySem.Spec PyProof.Rows L2 LamX
section
variable {P : Program} {w : World} {K : PySem.W.Frag} {mg mb : Str → Option Value} {CX : CXT} {k : Nat} {fa a : Addr} {cs : List (Addr × Addr)} {fd : FuncData} {x : Str} {sp : Sp} {s₁ : Shared} {vs : List Value} {ns : List Int}
/-- what is tracked as the law begins: its script, where it is no part of the text's own objects, and the tables of its lambdas -/
def top (K : PySem.W.Frag) (a : Addr) (vs : List Value) (ns : List Int) (T : List Addr) : Hp := fun b =>
  if b = a then (if K.lookup a = none then some (.frz { cls := .type "list", data := .seq vs.toArray } (.lst (ns.map V.int))) else none) else if b ∈ T then some (.tbl #[]) else none
theorem top_some {T : List Addr} {b : Addr} {u : HO} (h : top K a vs ns T b = some u) :
    (b = a ∧ K.lookup a = none ∧ u = .frz { cls := .type "list", data := .seq vs.toArray } (.lst (ns.map V.int))) ∨ (b ≠ a ∧ b ∈ T ∧ u = .tbl #[]) := by
  unfold top at h
  by_cases e : b = a
  · rw [if_pos e] at h
    by_cases n : K.lookup a = none
    · rw [if_pos n] at h
      exact .inl ⟨e, n, (Option.some.inj h).symm⟩
    · rw [if_neg n] at h
      cases h
  · rw [if_neg e] at h
    by_cases m : b ∈ T
    · rw [if_pos m] at h
      exact .inr ⟨e, m, (Option.some.inj h).symm⟩
    · rw [if_neg m] at h
      cases h
theorem top_none {T : List Addr} {b : Addr} (h1 : b = a → K.lookup a ≠ none) (h2 : b ∉ T) : top K a vs ns T b = none := by
  cases e : top K a vs ns T b with
  | none => rfl
  | some u =>
    rcases top_some e with ⟨q, n, _⟩ | ⟨_, m, _⟩
    · exact absurd n (h1 q)
    · exact absurd m h2
theorem law_callG (KX : K.In s₁.heap) (hns : s₁.heap.Ns mainGlobals mg) (hb : s₁.heap.Ns builtinsNs mb) (hbb : ∀ x : Str, x ≠ "__name__" → mb x = bootBuiltins x) (hlim : s₁.heap.NoLimit) (hg : s₁.gens = #[])
    (hT : ∀ p ∈ cs, s₁.heap.get? p.2 = some { cls := .none, data := .fields #[] }) (nT : ∀ p ∈ cs, K.lookup p.2 = none) (C : ∀ p ∈ cs, PySem.W.CodeHd s₁.heap p.1 p.2)
    (hbm : ∃ (bm : Addr) (ob : Obj), mg "__builtins__" = some (.ref bm) ∧ bm ≠ builtinsNs ∧ s₁.heap.get? bm = some ob ∧ ob.cls = .type "module" ∧ ob.dict = some builtinsNs ∧ ob.data = .plain)
    (ha : s₁.heap.get? a = some { cls := .type "list", data := .seq vs.toArray }) (hi : IntsAre vs ns) (hl : ns.length ≤ sizeLine) (hr : Room k callerA)
    (F : ∀ base : Heap, K.In base → base.Ns mainGlobals mg → (∀ p ∈ cs, TabB base mg p.1 p.2) → FnG P w K mg base CX k fa fd [x] sp) (hbind : ∀ (s : Shared) (u : Value), BindsTo s fd ⟨[u], []⟩ [(x, u)])
    (hsp : ∀ H : Hp, (∀ p ∈ cs, H p.2 = some (.tbl #[])) → SqL K H a (ns.map V.int) → sp [.ref a] H (fun v _ => v = .bl true) fun _ _ _ => False)
    (hCX : ∀ H e s', CX [] H s₁ (fun _ _ _ => False) e s' → False) :
    codeAny (model P w) callerA (.call (.ref fa) ⟨[.ref a], []⟩) (fun r s' => r = .ok (.ret (.bool true)) ∧ OldK s₁.heap s'.heap ∧ s'.os = s₁.os ∧ AllBare s'.gens) s₁ := by
  have rv := vals_ints hi
  obtain ⟨T, eT⟩ : ∃ T, T = cs.map (·.2) := ⟨_, rfl⟩
  have inT : ∀ p ∈ cs, p.2 ∈ T := fun p hp => eT ▸ List.mem_map.mpr ⟨p, hp, rfl⟩
  have ofT : ∀ b ∈ T, ∃ p ∈ cs, p.2 = b := fun b h => List.mem_map.mp (eT ▸ h)
  have tab : ∀ b ∈ T, s₁.heap.get? b = some { cls := .none, data := .fields #[] } := fun b h => by
    obtain ⟨p, hp, rfl⟩ := ofT b h
    exact hT p hp
  have aT : a ∉ T := fun z => by
    have q := (tab a z).symm.trans ha
    have q := congrArg Obj.data (Option.some.inj q)
    cases q
  obtain ⟨H, eH⟩ : ∃ H, H = top K a vs ns T := ⟨_, rfl⟩
  have some_ : ∀ {b u}, H b = some u → (b = a ∧ K.lookup a = none ∧ u = .frz { cls := .type "list", data := .seq vs.toArray } (.lst (ns.map V.int))) ∨ (b ≠ a ∧ b ∈ T ∧ u = .tbl #[]) := fun h => top_some (by rw [eH] at h; exact h)
  have hH : ∀ p ∈ cs, H p.2 = some (.tbl #[]) := fun p hp => by
    have ne : p.2 ≠ a := fun z => aT (z ▸ inT p hp)
    rw [eH]
    unfold top
    rw [if_neg ne, if_pos (inT p hp)]
  have hok : HOk P w H s₁.heap := fun b u z => by
    rcases some_ z with ⟨rfl, _, rfl⟩ | ⟨_, m, rfl⟩
    · exact ⟨ha, by rw [List.length_map]; exact hl, vs, _, rv, ha⟩
    · exact tab b m
  have hS : SqL K H a (ns.map V.int) := by
    cases hk : K.lookup a with
    | none =>
      refine .inl (.inr ⟨{ cls := .type "list", data := .seq vs.toArray }, ?_⟩)
      rw [eH]
      unfold top
      rw [if_pos rfl, if_pos hk]
    | some o =>
      have e := (KX a o hk).symm.trans ha
      cases e
      exact .inr ⟨_, vs.toArray, _, hk, rfl, rfl, rfl, by rw [List.size_toArray, hi.length]; exact hl, by simpa using rv⟩
  -- what is no list and no empty table is not tracked
  have bare : ∀ {b : Addr} {o : Obj}, s₁.heap.get? b = some o → (∀ vs n, o.data ≠ .seq vs n) → o.data ≠ .fields #[] → H b = none := fun {b o} e h1 h2 => by
    cases q : H b with
    | none => rfl
    | some u =>
      rcases some_ q with ⟨rfl, _, _⟩ | ⟨_, m, _⟩
      · cases e.symm.trans ha
        exact (h1 _ _ rfl).elim
      · cases e.symm.trans (tab b m)
        exact (h2 rfl).elim
  have under : ∀ {b : Addr} {o : Obj}, s₁.heap.get? b = some o → H b = none → (hidT s₁.heap H).get? b = some o := fun e n => hidT_get e n
  have names : ∀ {b : Addr} {m : Str → Option Value}, s₁.heap.Ns b m → (hidT s₁.heap H).Ns b m := fun {b m} ⟨o, es, ep, e, d, r⟩ =>
    ⟨o, es, ep, under e (bare e (fun vs n z => by rw [d] at z; cases z) fun z => by rw [d] at z; cases z), d, r⟩
  have hKb : K.In (hidT s₁.heap H) := fun b o e => under (KX b o e) (by
    cases q : H b with
    | none => rfl
    | some u =>
      rcases some_ q with ⟨rfl, n, _⟩ | ⟨_, m, _⟩
      · rw [n] at e
        cases e
      · obtain ⟨p, hp, rfl⟩ := ofT b m
        rw [nT p hp] at e
        cases e)
  have hM : L2.Mod K mg (hidT s₁.heap H) := ⟨hKb, names hns, ⟨mb, names hb, hbb⟩, let ⟨mc, h1, h2⟩ := hlim; ⟨mc, names h1, h2⟩⟩
  have TB : ∀ p ∈ cs, TabB (hidT s₁.heap H) mg p.1 p.2 := fun p hp => by
    have hTp := hT p hp
    refine ⟨?_, ?_, fun z => ?_⟩
    · obtain ⟨o, us, file, tf, flags, tg, inF, text, tt, e1, r1, r2, r3, rest⟩ := C p hp
      exact ⟨o, us, file, tf, flags, tg, inF, text, tt, under e1 (bare e1 (fun vs n z => by rw [r2] at z; cases z) fun z => by
        rw [r2] at z
        cases z
        simp at r3), r1, r2, r3, rest⟩
    · obtain ⟨bm, ob, b1, b2, b3, b4, b5, b6⟩ := hbm
      refine ⟨bm, ob, b1, b2, fun q => ?_, fun q => ?_, under b3 (bare b3 (fun vs n z => by rw [b6] at z; cases z) fun z => by rw [b6] at z; cases z), b4, b5, b6⟩
      · obtain ⟨o, es, ep, e, hd, _⟩ := hns
        rw [q, e] at b3
        cases b3
        rw [hd] at b6
        cases b6
      · rw [q, hTp] at b3
        cases b3
        cases b6
    · obtain ⟨o, es, ep, e, hd, _⟩ := hns
      rw [z, hTp] at e
      cases e
      cases hd
  have e0 : Env0 P w K mg (hidT s₁.heap H) callerA [] s₁ H := ⟨rfl, hM, fun b o e => of_hidT e, Nat.le_of_eq (hidT_size _ _), trivial, fun b hb => absurd (show b ∈ ([] : List Addr) from hb) (by simp), hok, .of_eq hg⟩
  refine codeAny_mono ((F _ hKb (names hns) TB).run callerA [] s₁ H ⟨[.ref a], []⟩ [.ref a] [.ref a] _ _ rfl hr e0 (hbind s₁ (.ref a)) (.cons rfl .nil) (hsp H hH hS)) fun r s' h => ?_
  match r, h with
  | .error e, h => exact (hCX H e s' h).elim
  | .ok (.ret u), h =>
    obtain ⟨v, H', os, bs, un, hok', r', q⟩ := h
    have q : v = .bl true := q
    subst q
    obtain rfl : u = Value.bool true := r'
    have key : ∀ b o, b ∉ T → s₁.heap.get? b = some o → s'.heap.get? b = some o := fun b o nb e => by
      cases q : H b with
      | none => exact un.keep b o e q (by intro z; exact absurd (show b ∈ ([] : List Addr) from z) (by simp)) (by simp)
      | some u =>
        rcases some_ q with ⟨rfl, _, rfl⟩ | ⟨_, m, _⟩
        · obtain ⟨e1, _⟩ := hok b _ q
          obtain ⟨e2, _⟩ := hok' b _ (un.frzs b _ _ q)
          rw [e] at e1
          cases e1
          exact e2
        · exact absurd m nb
    have grown : ∀ p ∈ cs, ∃ more : Array Value, s'.heap.get? p.2 = some { cls := .none, data := .fields more } := fun p hp => by
      obtain ⟨more, z⟩ := un.tbls p.2 #[] (hH p hp)
      exact ⟨_, hok' p.2 _ z⟩
    refine ⟨rfl, ⟨fun b o e => ?_, fun b o e => ?_⟩, os, bs⟩
    · by_cases m : b ∈ T
      · obtain ⟨p, hp, rfl⟩ := ofT b m
        obtain ⟨more, hm⟩ := grown p hp
        rw [hT p hp] at e
        cases e
        exact .inr (.inl ⟨((C p hp).tab (hT p hp)).isCodeTable, rfl, #[], more, rfl, by rw [Array.empty_append]; exact hm⟩)
      · exact .inl (key b o m e)
    · by_cases m : b ∈ T
      · obtain ⟨p, hp, rfl⟩ := ofT b m
        obtain ⟨more, hm⟩ := grown p hp
        exact ⟨_, hm⟩
      · exact ⟨o, key b o m e⟩
/-- what is known of the law's promise at the head's heap -/
def LawG (l : PySem.W.OpenLaw) (w : World) (K : PySem.W.Frag) (CX : CXT) (k n : Nat) (x : Str) (mg : Str → Option Value) (fa : Addr) (h : Heap) : Prop :=
  ∃ (fd : FuncData) (cs : List (Addr × Addr)) (sp : Sp), ((∀ p ∈ cs, h.get? p.2 = some { cls := .none, data := .fields #[] }) ∧ (∀ p ∈ cs, K.lookup p.2 = none) ∧ (∀ p ∈ cs, PySem.W.CodeHd h p.1 p.2)) ∧ (∀ (s : Shared) (u : Value), BindsTo s fd ⟨[u], []⟩ [(x, u)]) ∧
    (∀ (H : Hp) (a : Addr) (ns : List Int), ns.length ≤ n → (∀ z ∈ ns, Builtin.Int.intBits z ≤ 1048576) → (∀ p ∈ cs, H p.2 = some (.tbl #[])) → SqL K H a (ns.map V.int) → sp [.ref a] H (fun v _ => v = .bl true) fun _ _ _ => False) ∧
    ∀ base : Heap, K.In base → base.Ns mainGlobals mg → (∀ p ∈ cs, TabB base mg p.1 p.2) → FnG l.prog w K mg base CX k fa fd [x] sp
end
theorem walk_G {l : PySem.W.OpenLaw} {n k : Nat} {q : Program} {loose : List Str} {XP : (Str → Option Value) → Heap → Prop} {YP : World → Heap → Prop} {d : DefRec} {K : Params → PySem.W.Frag} {CX : World → CXT} {x : Str}
    (hn : l.most = some n) (hn2 : n ≤ sizeLine) (hdf : d.params.defaults = []) (hr : Room k callerA) (hY : ∀ (w : World) (h : Heap), YP w h → (K w.params).In h)
    (F : ∀ (w : World) (mg : Str → Option Value) (fa : Addr) (h : Heap), YP w h → (K w.params).In h → h.Ns mainGlobals mg → mg d.name = some (.ref fa) → LawG l w (K w.params) (CX w) k n x mg fa h)
    (hCX : ∀ (w : World) (H : Hp) (s : Shared) (e : Value) (s' : Shared), CX w [] H s (fun _ _ _ => False) e s' → False) :
    PySem.W.WalkO q loose XP YP l.row.toRowW d [] (fun f vs => PySem.call f vs) := by
  refine Att.attach_callB hn hdf fun w s₀ s₁ mg mb fa o pm cd doc a vs ns G Y ho hd hcd hmg hobj hints hlen hbits hg => ?_
  have KX := hY w _ Y
  obtain ⟨fd, cs, sp, ⟨hT, nT, C⟩, hb, hsp, hF⟩ := F w mg fa _ Y KX G.T.g hmg
  exact law_callG KX G.T.g G.T.b G.T.builtins G.T.nolimit hg hT nT C G.T.bmain hobj hints (Nat.le_trans hlen hn2) hr hF hb (fun H hH hS => hsp H a ns hlen hbits hH hS) fun H e s' => hCX w H s₁ e s'
end OB
/-! Own errors with two fields, raised. -/
namespace OB
open PySem PySem.Spec PyProof.Rows L2
/-- __init__(self, f, g): self.f = f; self.g = g of an own error -/
def spInit2 (K : PySem.W.Frag) (f g : Str) : Sp := fun vs H Q _ => ∃ (a C : Addr) (v u : V), vs = [.ref a, v, u] ∧ OexC K C ∧ PySem.W.findIn K (.ref C) f = some none ∧ PySem.W.findIn K (.ref C) g = some none ∧ H a = some (exo a C none) ∧
  ∀ dx, H dx = none → dx ≠ a → Q .non (upd (upd H dx (exd dx [(g, u), (f, v)])) a (exo a C (some dx)))
section
variable {P : Program} {w : World} {K : PySem.W.Frag} {mg : Str → Option Value} {base : Heap}
theorem ok_init2 {qual : Str} {st : Stmt} {fI : Addr} {fd : FuncData} {f g : Str} {p1 p2 p3 p4 r1 r2 r3 r4 : Pos} (F : Fun K "__init__" qual st fI fd) (S : FnScope ["self", f, g] ["self", f, g] (defScope st)) (hfg : ¬ f = g)
    (hb : defBody st = [.Assign [.Attribute (.Name "self" p1) f p2] (.Name f p3) p4, .Assign [.Attribute (.Name "self" r1) g r2] (.Name g r3) r4])
    (hv : Vis (defScope st) f) (hw : Vis (defScope st) g) (hs : Vis (defScope st) "self") (hd : (f == ("__debug__" : Str)) = false := by decide) (hcd : (f == ("__classdict__" : Str)) = false := by decide)
    (hd2 : (g == ("__debug__" : Str)) = false := by decide) (hcd2 : (g == ("__classdict__" : Str)) = false := by decide)
    (hsw : ∀ env : Env, swapsWith (.Name f p3) (some (.Attribute (.Name "self" p1) f p2)) p4.line env = pure false := by intro _; rfl)
    (hsw2 : ∀ env : Env, swapsWith (.Name g r3) (some (.Attribute (.Name "self" r1) g r2)) r4.line env = pure false := by intro _; rfl) :
    FnOk P w K mg base CX0 1 fI fd ["self", f, g] (spInit2 K f g) := by
  refine F.ok S (fun vs H Q E h => ?_) (fun cdv A outer s H vs Q E hr h => ?_)
  · obtain ⟨a, C, v, u, rfl, _⟩ := h
    rfl
  · obtain ⟨a, C, v, u, rfl, T, no, no2, ha, k⟩ := h
    rw [hb]
    refine ⟨_, pss_cons (ps_ost (pe_var (i := 0) rfl hs) (pe_var (i := 1) rfl hv hd hcd) (hsw _)) (pss_one (ps_ost (pe_var (i := 0) rfl hs) (pe_var (i := 2) rfl hw hd2 hcd2) (hsw2 _))), ?_⟩
    refine ⟨v, rfl, .ref a, rfl, a, C, rfl, T, no, .inl ⟨ha, fun dx n ne => ?_⟩⟩
    refine ⟨u, rfl, .ref a, rfl, a, C, rfl, T, no2, ?_⟩
    refine .inr ⟨dx, [(f, v)], upd_same, by rw [upd_ne ne, upd_same], (by show 1 ≤ 900; decide), ?_⟩
    have e : upd (upd (upd H dx (exd dx [(f, v)])) a (exo a C (some dx))) dx (exd dx ((g, u) :: [(f, v)])) = upd (upd H dx (exd dx [(g, u), (f, v)])) a (exo a C (some dx)) := by
      funext b
      by_cases h1 : b = a
      · rw [h1, upd_ne ne.symm, upd_same, upd_same]
      · by_cases h2 : b = dx
        · rw [h2, upd_same, upd_ne ne, upd_same]
        · rw [upd_ne h2, upd_ne h1, upd_ne h2, upd_ne h1, upd_ne h2]
    rw [e]
    exact k dx n ne
/-- an own error class with two fields, as the top leaves it -/
structure Err2 (P : Program) (w : World) (K : PySem.W.Frag) (mg : Str → Option Value) (base : Heap) (x f g : Str) (C fI : Addr) (fd : FuncData) : Prop where
  T : OexC K C
  iC : PySem.W.findIn K (.ref C) "__init__" = some (some (.ref fI))
  tI : PySem.W.typeIn K (.ref fI) = some (.type "function")
  F : FnOk P w K mg base CX0 1 fI fd ["self", f, g] (spInit2 K f g)
  b : Binds K fd ["self", f, g] []
  gl : mg x = some (.ref C)
  no : PySem.W.findIn K (.ref C) f = some none
  no2 : PySem.W.findIn K (.ref C) g = some none
end
/-- raise X(e, e2) -/
def tRaise2 (K : PySem.W.Frag) (C : Addr) (f g : Str) (W : WX) (te te2 : TE) : TS := fun _ σ H => tMkO C (spInit2 K f g) [] (tCons te (tCons te2 tNil)) σ H fun cls d H' => W cls d σ H'
theorem raise2_of {K : PySem.W.Frag} {C : Addr} {f g : Str} {W : WX} {σ : L2.St} {H1 : Hp} {v u : V} (T : OexC K C) (no : PySem.W.findIn K (.ref C) f = some none) (no2 : PySem.W.findIn K (.ref C) g = some none) (h : ∀ d, H1 d = none → W (.ref C) (some d) σ (upd H1 d (.xd [(g, u), (f, v)]))) :
    tNil σ H1 fun xs H2 => (v :: u :: xs).length ≤ 1000 ∧ ∀ a, H2 a = none → spInit2 K f g (.ref a :: ((v :: u :: xs) ++ [])) (upd H2 a (exo a C none))
      (fun z H3 => z = .non ∧ ∃ (d : Addr) (fs : List (Str × V)), H3 a = some (exo a C (some d)) ∧ H3 d = some (exd d fs) ∧ H2 d = none ∧ W (.ref C) (some d) σ (upd (del H3 a) d (.xd fs))) (fun _ _ _ => False) := by
  refine ⟨by show 2 ≤ 1000; decide, fun a ha => ⟨a, C, v, u, rfl, T, no, no2, upd_same, fun dx nd ne => ?_⟩⟩
  rw [upd_ne ne] at nd
  refine ⟨rfl, dx, [(g, u), (f, v)], upd_same, ?_, nd, ?_⟩
  · rw [upd_ne ne, upd_same]
  · rw [del_back ha ne]
    exact h dx nd
theorem ps_raise2 {X : Cx} {W : WX} {x f g : Str} {C fI : Addr} {fd : FuncData} {e e2 : Expr} {te te2 : TE} {p p2 pos : Pos} (hc : X.calm = true) (tk : Takes X W) (R : Err2 X.prog X.w X.K X.mg X.base x f g C fI fd) (hr : Room 2 X.A) (hg : Gl X x) (he : PE X e te) (he2 : PE X e2 te2)
    (hx : Passes CX0 X (fun _ _ _ => False) := by exact pass0) (hs2 : starEach [e2] X.env = [(false, eval e2 X.env)] := by rfl) (hs : starEach [e, e2] X.env = (false, eval e X.env) :: starEach [e2] X.env := by rfl) (hdb : (x == ("__debug__" : Str)) = false := by decide)
    (hpl : (backTo p2 (starEach [e2] X.env)).any (·.1) = false := by rfl) :
    PS X (.Raise (some (.Call (.Name x p) [e, e2] [] p2)) none pos) (tRaise2 X.K C f g W te te2) :=
  ps_raise (pos := pos) hc tk (pmk_oex (p := p) (pos := p2) R.T R.iC R.tI R.F hr R.b .nil hx hg R.gl (pa_cons he (pa_cons he2 pa_nil hs2) hs) hdb hs hpl)
end OB
/-! == and != of an own object with any value, by the class's own __eq__, with both answers. -/
namespace OB
open PySem PySem.Spec PyProof.Rows L2
section
variable {X : Cx} {n : Nat} {A : Around} {pins : List (Addr × Obj)} {σ : L2.St} {H : Hp} {s : Shared}
theorem sub_run {CX : CXT} {f : Addr} {fd : FuncData} {ps : List Str} {sp : Sp} {E : XK} {Q : VK} {us : List Value} {vs : List V} (F : FnOk X.prog X.w X.K X.mg X.base CX n f fd ps sp) (hb : L2.Binds X.K fd ps []) (hx : Passes CX X E)
    (sb : Sub X n A) (I : Inv X pins σ H s) (r : Vals vs us) (h : sp vs H Q E) : wpAny (model X.prog X.w) A (call (.ref f) us) (EP X pins σ Q) X.xe s := by
  have e0 : Env0 X.prog X.w X.K X.mg X.base A X.stack s H := by
    have e := I.env0
    exact ⟨by rw [sb.fr]; exact e.frames, e.mod, e.bs, e.bsz, e.funs, e.frf, e.hok, e.bare⟩
  have hl := F.len _ _ _ _ h
  have hl2 : us.length = ps.length := by rw [← r.length]; exact hl
  refine wpAny_call (codeAny_mono (F.run A X.stack s H ⟨us, []⟩ us vs Q E sb.room e0 (by
    have := hb s us I.kIn (by simpa using hl2)
    simpa using this) r h) fun r s' hq => ?_)
  cases r with
  | error e => exact hx pins σ H s e s' I hq
  | ok fl =>
    cases fl with
    | ret w =>
      obtain ⟨z, H', I', rz, q⟩ := I.after hq
      exact ⟨z, H', I', rz, q⟩
    | next => exact False.elim hq
    | brk => exact False.elim hq
    | cont => exact False.elim hq
end
/-- of the two the left one is asked first -/
def NotFirst (K : PySem.W.Frag) (C : Addr) (y : V) (H : Hp) : Prop := (∃ b dy gs, y = .ref b ∧ H b = some (.ins C dy gs)) ∨ (∃ b xs, y = .ref b ∧ SqT K H b xs ∧ PySem.W.subIn K (.type "tuple") (.ref C) = some false)
section
variable {X : Cx} {pins : List (Addr × Obj)} {σ : L2.St} {H : Hp} {s : Shared}
theorem nf_looks {C : Addr} {y : V} {v : Value} (I : Inv X pins σ H s) (ry : RelV y v) (h : NotFirst X.K C y H) : ∃ tb, PySem.W.Looks (model X.prog X.w) s.heap (typeOf v) tb ∧ PySem.W.notFirst X.K C tb = true := by
  rcases h with ⟨b, dy, gs, rfl, hb⟩ | ⟨b, xs, rfl, hb, hs⟩
  · cases (show v = Value.ref b from ry)
    obtain ⟨mB, J, _⟩ := ins_get I.hok hb
    obtain ⟨od, J, _⟩ := J.look
    exact ⟨.ref C, J.type, by simp [PySem.W.notFirst]⟩
  · cases (show v = Value.ref b from ry)
    obtain ⟨its, r, ⟨o, ho, hc, _⟩, z⟩ := I.tuple hb
    refine ⟨.type "tuple", hc ▸ (PySem.W.Looks.ld (part := none) ho).andThen .now, ?_⟩
    unfold PySem.W.notFirst
    rw [hs]
    simp
end
section
variable {prog : Program} {w : World} {A : Around} {E : Value → Shared → Prop} {s : Shared} {K : PySem.W.Frag} {x C L f : Addr} {h₀ : Heap} {m : Str → Option Value} {ox : Obj} {od : Option Obj} {name : Str} {b tb : Value}
open PySem.W PySem.Builtin in
theorem ifBound_bi {M : Model} {id : String} {args : List Value} {Q : Option Value → Shared → Prop} (X : K.In s.heap) (I : InstAt s.heap x ox C od) (hs : findIn K (.ref C) name = some (some (.builtin id)))
    (hb : ∀ self, bindSpecial (.builtin id) self = pure (.builtin id, [self])) (h : wpAny M A (call (.builtin id) (.ref x :: args)) (fun v => Q (some v)) E s) : wpAny M A (callSpecialIfBound? (.ref x) name args) Q E s := by
  simp only [callSpecialIfBound?, bindSpecialIfBound?]
  refine wpAny_holding (wpAny_bind (wpAny_bind (wpAny_bind (I.type.here ((looks_findIn X hs).here ?_)))))
  refine wpAny_bind (wpAny_askSetting (wpAny_ite ?_))
  have fin : wpAny M A (call (.builtin id) ([.ref x] ++ args) >>= fun v => pure (some v)) Q E s := wpAny_bind (wpAny_mono h (fun v s' h' => wpAny_pure h') fun _ _ h' => h')
  split
  · exact wpAny_bind ((Looks.of_pure (hb _)).here (wpAny_pure (by exact fin)))
  · exact wpAny_tryCatch (wpAny_bind ((Looks.of_pure (hb _)).here (wpAny_pure (by exact fin))))
open PySem.W PySem.Builtin in
theorem cmp_ne {Q : Value → Shared → Prop} (hu : A.units + 1 < cLine) (hu1 : A.in1.units < cLine) (F : Fr h₀ L s.heap m) (X₀ : K.In h₀) (I : InstAt s.heap x ox C od) (hb : Looks (model prog w) s.heap (typeOf b) tb) (hn : notFirst K C tb = true)
    (hne : findIn K (.ref C) "__ne__" = some (some (.builtin "object.__ne__"))) (hm : mroIn K C (.type "object") = some true)
    (hs : findIn K (.ref C) "__eq__" = some (some (.ref f))) (hf : isFn K (.ref f) = true)
    (h : wpAny (model prog w) A.in1 (call (.ref f) [.ref x, b]) (fun v s' => ∃ k, v = .bool k ∧ Q (.bool (!k)) s') E s) : wpAny (model prog w) A (richCompare .NotEq (.ref x) b) Q E s := by
  have X := X₀.keeps F.keep
  have body : wpAny (model prog w) A (call (.builtin "object.__ne__") [.ref x, b]) (fun v s' => ∃ k, v = .bool k ∧ Q v s') E s := by
    refine wpAny_call (codeAny_call_builtin PySem.F.slot_object_ne.plain PySem.F.entry_object_ne (check_slot (i := "object.__ne__") (owner := "object") (n := "__ne__") (by decide +kernel) (by decide +kernel) (I.type.andThen (looks_mroIn X hm)) (PySem.F.args_object_ne_2 _ _) ?_))
    unfold Builtin.«object.__ne__»
    refine wpAny_bind (m := slotArgs "__ne__" 1 _) (wpAny_pure ?_)
    refine wpAny_bind (m := cRoomFor _ _) (wpAny_cRoomFor hu1 ?_)
    refine wpAny_bind (m := callSpecialIfBound? (.ref x) (Str.ofString "__eq__") _) (ifBound_K X I hs hf (wpAny_mono h (fun r s' hq => ?_) fun _ _ y => y))
    obtain ⟨k, rfl, q⟩ := hq
    refine wpAny_bind (m := truthy (.bool k)) (wpAny_truthy_bool ?_)
    exact wpAny_pure ⟨!k, rfl, q⟩
  have one : wpAny (model prog w) A (tryCompare (.ref x) (cmpInfo .NotEq).2.1 b) (fun r s' => ∃ v, r = some v ∧ Q v s') E s := by
    unfold tryCompare
    refine wpAny_bind (ifBound_bi X I hne PySem.F.slot_object_ne.bind (wpAny_mono body (fun v s' hv => ?_) fun _ _ e => e))
    obtain ⟨k, rfl, q⟩ := hv
    exact wpAny_pure ⟨_, rfl, q⟩
  unfold richCompare
  simp only [oneThing_ref]
  refine wpAny_holding (wpAny_bind (wpAny_cRoomFor (Nat.lt_of_succ_lt hu) ?_))
  refine wpAny_bind (I.type.here (wpAny_bind (hb.here ?_)))
  split
  · rename_i q
    have e : subIn K tb (.ref C) = some false := by
      rcases Bool.or_eq_true_iff.mp hn with e | e
      · rw [beq_iff_eq.mp e] at q; simp at q
      · exact beq_iff_eq.mp e
    refine wpAny_bind ((looks_subIn X e).here ?_)
    simp only [Bool.false_eq_true, if_false]
    refine wpAny_bind (wpAny_mono one (fun r s' z => ?_) fun _ _ e => e)
    obtain ⟨v, rfl, hq⟩ := z
    exact wpAny_pure hq
  · refine wpAny_bind (wpAny_pure ?_)
    simp only [Bool.false_eq_true, if_false]
    refine wpAny_bind (wpAny_mono one (fun r s' z => ?_) fun _ _ e => e)
    obtain ⟨v, rfl, hq⟩ := z
    exact wpAny_pure hq
end
/-- a class's own ==: where its def stands, and that != is the usual one -/
structure OwnEqC (K : PySem.W.Frag) (C f : Addr) : Prop where
  eq : PySem.W.findIn K (.ref C) "__eq__" = some (some (.ref f))
  fn : PySem.W.isFn K (.ref f) = true
  ne : PySem.W.findIn K (.ref C) "__ne__" = some (some (.builtin "object.__ne__"))
  ob : PySem.W.mroIn K C (.type "object") = some true
def rEqO (K : PySem.W.Frag) (C : Addr) (sp : Sp) (E : XK) : R2 := fun x y H Q => ∃ a dx fs, x = .ref a ∧ H a = some (.ins C dx fs) ∧ NotFirst K C y H ∧ sp [x, y] H (fun v H' => ∃ b, v = .bl b ∧ Q (.bl b) H') E
def rNeO (K : PySem.W.Frag) (C : Addr) (sp : Sp) (E : XK) : R2 := fun x y H Q => ∃ a dx fs, x = .ref a ∧ H a = some (.ins C dx fs) ∧ NotFirst K C y H ∧ sp [x, y] H (fun v H' => ∃ b, v = .bl b ∧ Q (.bl (!b)) H') E
section
variable {X : Cx} {n : Nat} {CX : CXT} {C f : Addr} {fd : FuncData} {ps : List Str} {sp : Sp} {E : XK}
theorem op_eqO (F : FnOk X.prog X.w X.K X.mg X.base CX n f fd ps sp) (O : OwnEqC X.K C f) (hb : L2.Binds X.K fd ps []) (hx : Passes CX X E) (hr : Room n X.A) : OpR X (compareOp .Eq) (rEqO X.K C sp E) := by
  intro pins s σ H x y v u Q I rx ry hq
  obtain ⟨a, dx, fs, rfl, ha, nf, h⟩ := hq
  cases (show v = Value.ref a from rx)
  obtain ⟨mA, J, _⟩ := ins_get I.hok ha
  obtain ⟨od, J, _⟩ := J.look
  obtain ⟨m, hF⟩ := I.fr
  obtain ⟨tb, L, nf⟩ := nf_looks I ry nf
  show wpAny (model X.prog X.w) X.A (richCompare .Eq (.ref a) u) (EP X pins σ Q) X.xe s
  refine PySem.W.cmp_K (op := .Eq) hr.units0 hF I.ok.mod.kin J L nf O.eq O.fn ?_
  refine wpAny_mono (sub_run F hb hx ⟨hr, rfl⟩ I (Paired.cons (show L2.RelV (.ref a) (.ref a) from rfl) (.cons ry .nil)) h) (fun r s' q => ?_) fun _ _ z => z
  obtain ⟨z, H', I', rz, b, rfl, q⟩ := q
  cases rz
  exact ⟨.bl b, H', I', rfl, q⟩
theorem op_neO (F : FnOk X.prog X.w X.K X.mg X.base CX n f fd ps sp) (O : OwnEqC X.K C f) (hb : L2.Binds X.K fd ps []) (hx : Passes CX X E) (hr : Room (n + 1) X.A) : OpR X (compareOp .NotEq) (rNeO X.K C sp E) := by
  intro pins s σ H x y v u Q I rx ry hq
  obtain ⟨a, dx, fs, rfl, ha, nf, h⟩ := hq
  cases (show v = Value.ref a from rx)
  obtain ⟨mA, J, _⟩ := ins_get I.hok ha
  obtain ⟨od, J, _⟩ := J.look
  obtain ⟨m, hF⟩ := I.fr
  obtain ⟨tb, L, nf⟩ := nf_looks I ry nf
  show wpAny (model X.prog X.w) X.A (richCompare .NotEq (.ref a) u) (EP X pins σ Q) X.xe s
  refine cmp_ne (by have := hr.units; omega) hr.in1.units0 hF I.ok.mod.kin J L nf O.ne O.ob O.eq O.fn ?_
  refine wpAny_mono (sub_run F hb hx ⟨hr.in1, rfl⟩ I (Paired.cons (show L2.RelV (.ref a) (.ref a) from rfl) (.cons ry .nil)) h) (fun r s' q => ?_) fun _ _ z => z
  obtain ⟨z, H', I', rz, b, rfl, q⟩ := q
  cases rz
  exact ⟨b, rfl, .bl (!b), H', I', rfl, q⟩
end
end OB
/-! Static methods off a class, str of an own object by its own __str__, making by keywords alone. -/
namespace OB
open PySem PySem.Spec PyProof.Rows L2 ClX
/-- C.m is a static method: its record at p, its def at g -/
structure CStat (K : PySem.W.Frag) (C : Addr) (mc : Value) (m : Str) (p g : Addr) : Prop where
  at_ : PySem.W.findCls K (.ref C) mc m = some (.get (.builtin "staticmethod.__get__") (.ref p) .none (.ref C))
  rc : ∃ rest, PySem.W.recIn K p "staticmethod" = some (.ref g :: rest)
  kp : PySem.W.keepIn K (.ref g) = true
/-- e.m(..), e the class at C -/
def tSMeth (C : Addr) (sp : Sp) (E : XK) (ta : TE) (t : TA) : TE := fun σ H Q => ta σ H fun x H1 => x = .ref C ∧ t σ H1 fun vs H2 => sp vs H2 Q E
def tSMethK (C : Addr) (sp : Sp) (gV : List V → List V → List V) (E : XK) (ta : TE) (tk : TA) : TE := fun σ H Q => ta σ H fun x H1 => x = .ref C ∧ tk σ H1 fun zs H2 => sp (gV [] zs) H2 Q E
section
variable {X : Cx} {pins : List (Addr × Obj)} {σ : L2.St} {H : Hp} {s : Shared} {C p g : Addr} {mc : Value} {m : Str} {A : Around} {E : Value → Shared → Prop}
theorem getmethsm_ok {pl : Sem Bool} {Q : Value × List Value → Shared → Prop} (I : Inv X pins σ H s) (r : CRead X.K C mc) (k : CStat X.K C mc m p g)
    (h : ∀ s', Inv X pins σ H s' → Q (.ref g, []) s') : wpAny (model X.prog X.w) A (getMethod (.ref C) m pl) Q E s := by
  obtain ⟨rest, hp⟩ := k.rc
  exact PySem.W.method_cls I.kIn r.ga (PySem.W.cls_bind I.kIn r.rd k.at_ (wpAny_call (PySem.W.sm_get (s := { s with toks := s.toks + 1 }) I.kIn hp (PySem.W.handed_on rfl (h _ (I.tok _))))))
end
section
variable {X : Cx} {CX : CXT} {k : Nat} {C p g : Addr} {fd : FuncData} {ps ks : List Str} {mc : Value} {sp : Sp} {E : XK} {o e : Expr} {es : List Expr} {kws : List Keyword} {m : Str} {pos apos : Pos} {ta : TE} {t tk : TA} {pl : Sem Bool} {gg : List Value → List Value → List Value} {gV : List V → List V → List V}
theorem pe_smeth (he : PE X o ta) (r : CRead X.K C mc) (c : CStat X.K C mc m p g) (F : FnOk X.prog X.w X.K X.mg X.base CX k g fd ps sp) (hr : Room k X.A) (hb : L2.Binds X.K fd ps []) (hx : Passes CX X E) (ha : PA X (e :: es) t)
    (hst : starEach (e :: es) X.env = (false, eval e X.env) :: starEach es X.env := by rfl) (hpl : (backTo pos (starEach es X.env)).any (·.1) = false := by rfl)
    (ht : eval (.Call (.Attribute o m apos) (e :: es) [] pos) X.env = (do
      let ov ← eval o X.env
      standAt apos.atName
      let (f, first) ← holding [ov] (getMethod ov m pl)
      callWith pos f first (backTo pos (starEach (e :: es) X.env)) (backToKw pos (keywordEach [] X.env))) := by rfl) :
    PE X (.Call (.Attribute o m apos) (e :: es) [] pos) (tSMeth C sp E ta t) := by
  refine ⟨fun pins s σ H Q I h => ?_⟩
  refine PySem.W.methodCall_KW (pl := pl) (thn (he.run pins s σ H _ I h) fun u s1 ⟨x, H1, I1, rx, ex, q⟩ => ?_) ht
  subst ex
  obtain rfl : u = Value.ref C := rx
  refine getmethsm_ok I1 r c fun s2 I2 => ?_
  refine PySem.W.callWith_K (h₀ := X.base) (first := []) I.ok.mod.kin c.kp (thn (ha.run pos pins s2 σ H1 _ I2 q) fun us s3 ⟨vs, H2, I3, rv, q2⟩ => ⟨I3.kIn, ?_⟩) hst hpl
  exact run_fn F hr hb .nil hx I3 rv (by rw [List.append_nil]; exact q2)
theorem pe_smethK (he : PE X o ta) (r : CRead X.K C mc) (c : CStat X.K C mc m p g) (F : FnOk X.prog X.w X.K X.mg X.base CX k g fd ps sp) (hr : Room k X.A) (hb : KBinds X.K fd ps ks gg gV) (hx : Passes CX X E) (hkw : PK X kws tk)
    (hall : (backToKw pos (keywordEach kws X.env)).all (·.1.isSome) = true := by rfl) (hks : (backToKw pos (keywordEach kws X.env)).filterMap (·.1) = ks := by rfl)
    (hpl : ((backTo pos (starEach [] X.env)).any (·.1) || (backToKw pos (keywordEach kws X.env)).any (·.1.isNone)) = false := by rfl)
    (ht : eval (.Call (.Attribute o m apos) [] kws pos) X.env = (do
      let ov ← eval o X.env
      standAt apos.atName
      let (f, first) ← holding [ov] (getMethod ov m pl)
      callWith pos f first (backTo pos (starEach [] X.env)) (backToKw pos (keywordEach kws X.env))) := by rfl) :
    PE X (.Call (.Attribute o m apos) [] kws pos) (tSMethK C sp gV E ta tk) := by
  refine ⟨fun pins s σ H Q I h => ?_⟩
  refine PySem.W.methodCall_KW (pl := pl) (thn (he.run pins s σ H _ I h) fun u s1 ⟨x, H1, I1, rx, ex, q⟩ => ?_) ht
  subst ex
  obtain rfl : u = Value.ref C := rx
  refine getmethsm_ok I1 r c fun s2 I2 => ?_
  refine PySem.W.callWith_KW0 (h₀ := X.base) I.ok.mod.kin c.kp hall ?_ hpl
  refine thn (hkw.run pos pins s2 σ H1 _ I2 q) fun ws s3 ⟨zs, H2, I3, rz, q2⟩ => ⟨I3.kIn, ?_⟩
  rw [hks]
  exact run_fnk (us := []) F hr hb hx I3 .nil rz q2
end
/-- how keywords alone bind, from how they bind at all -/
theorem kbn {K : PySem.W.Frag} {fd : FuncData} {ps ks : List Str} {g : List Value → List Value → List Value} {gV : List V → List V → List V} {n : Nat} (h : KBinds K fd ps ks g gV) (hl : ∀ us ws, us.length = n → ws.length = ks.length → (g us ws).length = ps.length) : KBn K fd ps n ks g gV :=
  ⟨fun s us ws X h1 h2 => h.to s us ws X (hl us ws h1 h2), h.rel⟩
/-- a class's own __str__ -/
structure OwnStrC (K : PySem.W.Frag) (C f : Addr) : Prop where
  st : PySem.W.findIn K (.ref C) "__str__" = some (some (.ref f))
  fn : PySem.W.isFn K (.ref f) = true
section
variable {prog : Program} {w : World} {A : Around} {E : Value → Shared → Prop} {s : Shared} {K : PySem.W.Frag} {x C f : Addr} {ox : Obj} {od : Option Obj}
open PySem.W PySem.Builtin PySem.Builtin.Str in
theorem str_own {Q : Value → Shared → Prop} (hu : A.in1.in1.units < cLine) (X : K.In s.heap) (I : InstAt s.heap x ox C od) (hs : findIn K (.ref C) "__str__" = some (some (.ref f))) (hf : isFn K (.ref f) = true)
    (h : wpAny (model prog w) A.in1.in1 (call (.ref f) [.ref x]) (StrBack Q) E s) : wpAny (model prog w) A (call (.type "str") [.ref x]) Q E s := by
  refine callType_codes (T := "str") (Bi := Builtin.«object.__init__») (Q₁ := fun r s₁ => ∃ y u, r = .str y u ∧ Q r s₁) PySem.F.called_str (PySem.F.typeCall_str_1 _) PySem.F.entry_object_init ?_ ?_
  · refine codeAny_of_tree ?_
    show wpAny _ A.in1.in1 (do checkBuiltinCall "str.__new__" ⟨[.type "str", .ref x], []⟩; again (.builtin "str.__new__" ⟨[.type "str", .ref x], []⟩)) _ _ s
    refine wpAny_bind (wpAny_of_eq (PySem.F.newCall_str_1 _) (wpAny_pure ⟨plainId_quiet (by decide +kernel) _, codeAny_builtin PySem.F.entry_str_new ?_⟩))
    rw [Around.under_plainId (by decide +kernel) _]
    rw [str_new_tree]
    refine wpAny_bind (wpAny_pure ?_)
    refine wpAny_bind (wpAny_of_eq isSubtype_str_str ?_)
    have key : wpAny (model prog w) A.in1.in1 (PySem.Builtin.Str.strOf (.ref x)) (fun r s₁ => ∃ y u, r = .str y u ∧ Q r s₁) E s := by
      unfold PySem.Builtin.Str.strOf
      rw [show isExactStr (.ref x) = false from rfl]
      refine wpAny_bind (m := cRoomFor _ _) (wpAny_cRoomFor hu ?_)
      refine wpAny_bind (m := callSpecial? (.ref x) (Str.ofString "__str__")) (special_fn X I hs (beq_iff_eq.mp hf) (wpAny_mono h (fun r s' z => ?_) fun _ _ y => y))
      cases r <;> first | exact z.elim | exact wpAny_pure ⟨_, _, rfl, z⟩
    exact wpAny_bind (wpAny_mono key (fun r s₁ hr => wpAny_pure hr) fun _ _ y => y)
  · rintro obj s₁ ⟨y, u, rfl, hq⟩
    exact ⟨typeIs_str _ _ _, PySem.F.args_object_init_2 _ _, object_init_meets PySem.F.called_str.init.lookup PySem.F.called_str.made (by decide) prog w A.in1 _ s₁ ⟨typeIs_str _ _ _, rfl, hq⟩⟩
end
/-- str(o), o an instance of the class at C -/
def rStrO (C : Addr) (sp : Sp) (E : XK) : List V → Hp → VK → Prop := fun xs H Q => ∃ a dx fs, xs = [.ref a] ∧ H a = some (.ins C dx fs) ∧ sp [.ref a] H (fun v H' => ∃ z, v = .str z ∧ Q (.str z) H') E
section
variable {X : Cx} {n : Nat} {CX : CXT} {C f : Addr} {fd : FuncData} {ps : List Str} {sp : Sp} {E : XK}
theorem call_strO (F : FnOk X.prog X.w X.K X.mg X.base CX n f fd ps sp) (O : OwnStrC X.K C f) (hb : L2.Binds X.K fd ps []) (hx : Passes CX X E) (hr : Room (n + 2) X.A) : CallR X (.type "str") (rStrO C sp E) := by
  intro pins s σ H xs us Q I r h
  obtain ⟨a, dx, fs, rfl, ha, h⟩ := h
  rw [Vals.ref1 r]
  obtain ⟨mA, J, _⟩ := ins_get I.hok ha
  obtain ⟨od, J, _⟩ := J.look
  refine str_own hr.in1.in1.units0 I.kIn J O.st O.fn ?_
  refine wpAny_mono (sub_run F hb hx ⟨hr.in1.in1, rfl⟩ I (Paired.cons (show L2.RelV (.ref a) (.ref a) from rfl) .nil) h) (fun r s' q => ?_) fun _ _ z => z
  obtain ⟨z, H', I', rz, y, rfl, q⟩ := q
  obtain ⟨t, rfl⟩ := (show ∃ t, r = Value.str y t from rz)
  exact ⟨.str y, H', I', ⟨_, rfl⟩, q⟩
end
end OB
/-! An own class, as the top leaves it; what an object of it is when it is asked for its kind. -/
namespace OB
open PySem PySem.Spec PyProof.Rows L2 ClX
structure OwnC (K : PySem.W.Frag) (mg : Str → Option Value) (x : Str) (C fI : Addr) : Prop where
  cl : Cls K C
  g : mg x = some (.ref C)
  made : Mk K C fI
  ha : PySem.W.findIn K (.ref C) "__class__" = some (some (.builtin "object.__class__"))
  hn : PySem.W.specialIn K (.builtin "object.__class__") "__get__" = some (some (.builtin "getset_descriptor.__get__"))
  ht : PySem.W.takesIn K (.builtin "object.__class__") = some true
  hm : PySem.W.mroIn K C (.type "object") = some true
  self : PySem.W.kitOne K (.ref C) (.ref C) = some true
  no : ∀ n ∈ ["NoneType", "int", "bool", "str", "list", "tuple", "dict"], PySem.W.kitOne K (.type n) (.ref C) = some false
  sT : PySem.W.subIn K (.type "tuple") (.ref C) = some false
section
variable {K : PySem.W.Frag} {mg : Str → Option Value} {x : Str} {C fI : Addr}
theorem OwnC.ty (Z : OwnC K mg x C fI) {H : Hp} {a dx : Addr} {fs : List (Str × V)} (e : H a = some (.ins C dx fs)) : TyX K H (.ref a) (.ref C) := .base (.ins e Z.cl Z.ha Z.hn Z.ht Z.hm)
/-- a value is no object of the class -/
def NotO (K : PySem.W.Frag) (C : Addr) (H : Hp) (y : V) : Prop := ∃ t, TyX K H y t ∧ PySem.W.kitOne K t (.ref C) = some false
theorem OwnC.non (Z : OwnC K mg x C fI) {H : Hp} : NotO K C H .non := ⟨_, .base .non, Z.no _ (by decide)⟩
theorem OwnC.int (Z : OwnC K mg x C fI) {H : Hp} (i : Int) : NotO K C H (.int i) := ⟨_, .base (.int i), Z.no _ (by decide)⟩
theorem OwnC.bl (Z : OwnC K mg x C fI) {H : Hp} (i : Bool) : NotO K C H (.bl i) := ⟨_, .base (.bl i), Z.no _ (by decide)⟩
theorem OwnC.str (Z : OwnC K mg x C fI) {H : Hp} (i : Str) : NotO K C H (.str i) := ⟨_, .base (.str i), Z.no _ (by decide)⟩
theorem OwnC.lst (Z : OwnC K mg x C fI) {H : Hp} {a : Addr} {xs : List V} (e : H a = some (.lst xs)) : NotO K C H (.ref a) := ⟨_, .base (.lst e), Z.no _ (by decide)⟩
theorem OwnC.tup (Z : OwnC K mg x C fI) {H : Hp} {a : Addr} {xs : List V} (e : H a = some (.tup xs)) : NotO K C H (.ref a) := ⟨_, .base (.tup e), Z.no _ (by decide)⟩
theorem OwnC.dK (Z : OwnC K mg x C fI) {H : Hp} {a : Addr} {xs : List (Key × V)} (e : H a = some (.dK xs)) : NotO K C H (.ref a) := ⟨_, .base (.dK e), Z.no _ (by decide)⟩
end
end OB
/-! A call by keywords alone that may raise. -/
namespace OB
open PySem PySem.Spec PyProof.Rows L2
section
variable {X : Cx} {CX : CXT} {k : Nat} {f : Addr} {fd : FuncData} {ps ks : List Str} {sp : Sp} {E : L2.St → XK} {x : Str} {p pos : Pos} {e : Expr} {es : List Expr} {kws : List Keyword} {t tk : TA} {g : List Value → List Value → List Value} {gV : List V → List V → List V}
def tCallKS (sp : Sp) (gV : List V → List V → List V) (E : L2.St → XK) (t tk : TA) : TE := fun σ H Q => t σ H fun vs H1 => tk σ H1 fun zs H2 => sp (gV vs zs) H2 Q (E σ)
theorem run_fnkS {pins : List (Addr × Obj)} {σ : L2.St} {H : Hp} {s : Shared} {Q : VK} {us ws : List Value} {vs zs : List V} {E : XK} (F : FnOk X.prog X.w X.K X.mg X.base CX k f fd ps sp) (hr : Room k X.A) (hb : KBinds X.K fd ps ks g gV) (hx : PassesAt CX X σ E)
    (I : Inv X pins σ H s) (r : Vals vs us) (rz : Vals zs ws) (h : sp (gV vs zs) H Q E) : wpAny (model X.prog X.w) X.A (call (.ref f) us (ks.zip ws)) (EP X pins σ Q) X.xe s := by
  have r2 := hb.rel r rz
  have hl : (g us ws).length = ps.length := r2.length ▸ F.len _ _ _ _ h
  refine wpAny_call (codeAny_mono (F.run X.A X.stack s H ⟨us, ks.zip ws⟩ (g us ws) (gV vs zs) Q E hr I.env0 (hb.to s us ws I.kIn hl) r2 h) fun res s' hq => ?_)
  match res, hq with
  | .error _, hq => exact hx pins H s _ s' I hq
  | .ok (.ret _), hq => exact I.after hq
theorem pe_callKoS (F : FnOk X.prog X.w X.K X.mg X.base CX k f fd ps sp) (hr : Room k X.A) (hg : Gl X x) (hm : X.mg x = some (.ref f)) (hk : PySem.W.keepIn X.K (.ref f) = true) (hb : KBinds X.K fd ps ks g gV) (hx : ∀ σ, PassesAt CX X σ (E σ))
    (hkw : PK X kws tk) (hall : (backToKw pos (keywordEach kws X.env)).all (·.1.isSome) = true := by rfl) (hks : (backToKw pos (keywordEach kws X.env)).filterMap (·.1) = ks := by rfl)
    (hdb : (x == ("__debug__" : Str)) = false := by decide)
    (hpl : ((backTo pos (starEach [] X.env)).any (·.1) || (backToKw pos (keywordEach kws X.env)).any (·.1.isNone)) = false := by rfl) :
    PE X (.Call (.Name x p) [] kws pos) (tCallKS sp gV E tNil tk) := by
  refine ⟨fun pins s σ H Q I h => wpAny_Call_Name_kw (ld_glob I hg hm ?_ hdb)⟩
  refine PySem.W.callWith_KW0 (h₀ := X.base) I.ok.mod.kin hk hall ?_ hpl
  refine thn (hkw.run pos pins s σ H _ I h) fun ws s2 ⟨zs, H2, I2, rz, q2⟩ => ⟨I2.kIn, ?_⟩
  rw [hks]
  exact run_fnkS (us := []) F hr hb (hx σ) I2 .nil rz q2
end
/-- some of a list, by their places -/
def pm {α : Type} : List Nat → List α → List α
  | [], _ => []
  | i :: r, l => match l[i]? with
    | some x => x :: pm r l
    | none => pm r l
theorem pm_vals {vs : List V} {us : List Value} (h : Vals vs us) : ∀ is, Vals (pm is vs) (pm is us)
  | [] => .nil
  | i :: r => by
    unfold pm
    cases e : vs[i]? with
    | none =>
      have e2 : us[i]? = none := by
        rw [List.getElem?_eq_none_iff] at e ⊢
        rw [← h.length]
        exact e
      rw [e2]
      exact pm_vals h r
    | some x =>
      obtain ⟨u, hu, ru⟩ := h.get e
      rw [hu]
      exact .cons ru (pm_vals h r)
/-- keywords alone, in any order -/
def kg {α : Type} (is : List Nat) : List α → List α → List α
  | [], ws => pm is ws
  | _ :: _, _ => []
theorem kg_vals {is : List Nat} {vs : List V} {us : List Value} {zs : List V} {ws : List Value} (h : Vals vs us) (r : Vals zs ws) : Vals (kg is vs zs) (kg is us ws) := by
  cases h with
  | nil => exact pm_vals r is
  | cons _ _ => exact .nil
/-- .. behind the object itself -/
def kg1 {α : Type} (is : List Nat) : List α → List α → List α
  | [x], ws => x :: pm is ws
  | _, _ => []
theorem kg1_vals {is : List Nat} {vs : List V} {us : List Value} {zs : List V} {ws : List Value} (h : Vals vs us) (r : Vals zs ws) : Vals (kg1 is vs zs) (kg1 is us ws) := by
  cases h with
  | nil => exact .nil
  | cons a b =>
    cases b with
    | nil => exact .cons a (pm_vals r is)
    | cons _ _ => exact .nil
end OB
/-! repr of a text; numbers as items of texts. -/
namespace OB
open PySem PySem.Spec PyProof.Rows L2
section
variable {X : Cx}
def rReprS : List V → Hp → VK → Prop := fun xs H Q => ∃ z : Str, xs = [.str z] ∧ z.length ≤ 1000000 ∧ (∀ c ∈ z.cps.toList, c < 16 ^ 8) ∧ Q (.str (reprText z)) H
theorem call_reprS : CallR X (.builtin "repr") rReprS := by
  intro pins s σ H xs us Q I r h
  obtain ⟨z, rfl, hz, hc, q⟩ := h
  obtain ⟨u, rfl, t, rfl⟩ := vals1 r
  refine PySem.P.repr_of_str ⟨.str _, H, I.tok _, ⟨_, rfl⟩, q⟩ ?_
  have := PySem.StrLaws.reprText_len z hc
  rw [sizeLine_eq]
  omega
end
/-- how a number from 0 on is written -/
def ds (n : Nat) : Str := toString (n : Int)
/-- what the small ones are like -/
theorem ds_small : ∀ n < 256, Txt.removeprefix (ds n) "-" = ds n ∧ Txt.isascii (ds n) = true ∧ Txt.isdigit (ds n) = true ∧ (ds n).length ≤ 3 ∧ (Txt.startswith (ds n) "0" = true → n = 0) ∧ PySem.intText? (ds n) = some (n : Int) ∧ ds n ≠ "-" ∧ (∀ c ∈ (ds n).cps.toList, c ≠ 32 ∧ c < 256) := by decide +kernel
end OB
/-! repr of nested data of None, truths, ints, texts, lists and tuples: a bound of its length that is reckoned part by part. -/
namespace OB
open PySem PySem.Spec PyProof.Rows L2
mutual
/-- a bound for the length of the text -/
def sz : PyData → Nat
  | .none => 4
  | .bool _ => 5
  | .int _ => 1921
  | .str x => 10 * x.length + 2
  | .list xs => szAll xs + 2
  | .tuple xs => szAll xs + 2
  | .dict _ => 0
def szAll : List PyData → Nat
  | [] => 0
  | x :: xs => sz x + 2 + szAll xs
end
mutual
/-- ints that are not too great, texts of signs; no dict -/
def nice : PyData → Bool
  | .none | .bool _ => true
  | .int i => decide (i.natAbs.log2 < 1920)
  | .str x => x.cps.toList.all fun c => decide (c < 1114112)
  | .list xs | .tuple xs => niceAll xs
  | .dict _ => false
def niceAll : List PyData → Bool
  | [] => true
  | x :: xs => nice x && niceAll xs
end
mutual
theorem nice_show : ∀ d, nice d = true → d.showable = true
  | .none, _ => by simp [PyData.showable]
  | .bool _, _ => by simp [PyData.showable]
  | .int _, h => by simpa [nice, PyData.showable] using h
  | .str _, _ => by simp [PyData.showable]
  | .list xs, h => by
    have := niceAll_show xs (by simpa [nice] using h)
    simpa [PyData.showable] using this
  | .tuple xs, h => by
    have := niceAll_show xs (by simpa [nice] using h)
    simpa [PyData.showable] using this
  | .dict _, h => by simp [nice] at h
theorem niceAll_show : ∀ ds, niceAll ds = true → PyData.showableAll ds = true
  | [], _ => by simp [PyData.showableAll]
  | x :: xs, h => by
    have h : nice x = true ∧ niceAll xs = true := by simpa [niceAll] using h
    have h1 := nice_show x h.1
    have h2 := niceAll_show xs h.2
    simp [PyData.showableAll, h1, h2]
end
mutual
theorem shown_sz : ∀ d, nice d = true → d.shown.length ≤ sz d
  | .none, _ => by decide +kernel
  | .bool b, _ => by cases b <;> decide +kernel
  | .int i, h => int_text_len_1921 (by simpa [nice] using h)
  | .str x, h => PySem.StrLaws.reprText_len x fun c hc => by
    have h : (x.cps.toList.all fun c => decide (c < 1114112)) = true := h
    have := of_decide_eq_true (List.all_eq_true.mp h c hc)
    have : (1114112 : Nat) < 16 ^ 8 := by decide
    omega
  | .list xs, h => by
    have a := shownAll_sz xs (by simpa [nice] using h)
    have b := list_len (PyData.shownAll xs)
    show (listText (PyData.shownAll xs)).length ≤ szAll xs + 2
    omega
  | .tuple xs, h => by
    have a := shownAll_sz xs (by simpa [nice] using h)
    have b := fmt_text (PyData.shownAll xs)
    show (tupleText (PyData.shownAll xs)).length ≤ szAll xs + 2
    omega
  | .dict _, h => by simp [nice] at h
theorem shownAll_sz : ∀ ds, niceAll ds = true → piled (PyData.shownAll ds) ≤ szAll ds
  | [], _ => Nat.le_refl _
  | x :: xs, h => by
    have h : nice x = true ∧ niceAll xs = true := by simpa [niceAll] using h
    have h1 := shown_sz x h.1
    have h2 := shownAll_sz xs h.2
    show piled (x.shown :: PyData.shownAll xs) ≤ sz x + 2 + szAll xs
    rw [piled_cons]
    omega
end
theorem nice_ints : ∀ ns : List Int, (∀ n ∈ ns, n.natAbs.log2 < 1920) → niceAll (ns.map PyData.int) = true
  | [], _ => by simp [niceAll]
  | n :: r, h => by
    have h1 := h n List.mem_cons_self
    have h2 := nice_ints r fun x hx => h x (List.mem_cons_of_mem _ hx)
    simp [niceAll, nice, h1, h2]
theorem sz_ints : ∀ ns : List Int, szAll (ns.map PyData.int) = 1923 * ns.length
  | [] => rfl
  | n :: r => by
    have := sz_ints r
    show 1921 + 2 + szAll (r.map PyData.int) = _
    rw [List.length_cons]
    omega
section
variable {X : Cx}
/-- repr of nested data -/
def rReprN (K : PySem.W.Frag) : List V → Hp → VK → Prop := fun xs H Q => ∃ (a : Addr) (d : PyData), xs = [.ref a] ∧ Dp K H (.ref a) d ∧ nice d = true ∧ d.canLay0 = true ∧ d.depth ≤ 60 ∧ sz d ≤ 16000000 ∧ Q (.str d.shown) H
theorem call_reprN (hgd : X.A.guards = some []) (hu : X.A.units + 64 < cLine) : CallR X (.builtin "repr") (rReprN X.K) := by
  intro pins s σ H xs us Q I r h
  obtain ⟨a, d, rfl, hd, hn, hl, hdp, hz, q⟩ := h
  refine call_reprD hgd hu pins s σ H _ us Q I r ⟨a, d, rfl, hd, nice_show d hn, hl, hdp, ?_, q⟩
  have := shown_sz d hn
  rw [sizeLine_eq]
  omega
end
end OB
/-! sorted(set(x)) of a list or a tuple of ints, doubles among them. -/
namespace OB
open PySem PySem.Spec PyProof.Rows L2 SrtO Builtin
section
variable {P : Program} {w : World} {A : Around} {E : Value → Shared → Prop} {s : Shared}
abbrev setObj (w : World) : Obj := { cls := .type "set", dict := none, data := .set #[] 0 (.fresh 0 0 (!w.params.followText "set-order")) }
set_option maxHeartbeats 6400000 in
/-- set(x), x a list of ints -/
theorem set_of_list {l : Addr} {items : Array Value} (ns : List Int) {Q : Value → Shared → Prop} (hh : A.handled = none) (hl : s.heap.IsList l items) (hit : IntsAre items.toList ns) (hb : ns.length + 1 < scanBound)
    (h : ∀ (h' : Heap) (tk c : Nat), SetR w h' s.heap.objs.size (fun j => decide (j ∈ ns)) c → c ≤ ns.length → (∀ b o, s.heap.get? b = some o → h'.get? b = some o) → Q (.ref s.heap.objs.size) { s with heap := h', toks := tk }) :
    wpAny (model P w) A (call (.type "set") [.ref l]) Q E s := by
  have sz : items.size = ns.length := by
    have q := IntsAre.length hit
    rwa [Array.length_toList] at q
  obtain ⟨c, tl, hmro⟩ := F.called_set.mro
  have f1 := F.called_set.made
  have f2 := F.called_set.sub
  refine wpAny_call (codeAny_of_tree ?_)
  show wpAny _ _ (callAny (.type "set") _) _ _ _
  refine wpAny_pure ⟨Code.quiet_builtin _ (by decide +kernel), codeAny_builtin F.entry_type_call ?_⟩
  rw [Around.under_plain (weight_type_call_type "set" [.ref l] []) rfl]
  have f3 := F.called_set.notType
  have f4 := F.called_set.canCreate
  have f5 := F.typeCall_set_1 (.ref l)
  repeat (any_goals (first | assumption | wp_step))
  refine codeAny_mono (code_set_led1 (.ref l) (E := E) (Q₁ := fun z t => z = .ref s.heap.objs.size ∧ t = { s with heap := s.heap.push (setObj w) }) ⟨rfl, rfl⟩) fun r s₁ hr => ?_
  cases r with
  | error e => exact hr
  | ok fl =>
    cases fl with
    | ret obj =>
      obtain ⟨rfl, rfl⟩ := hr
      have hS : (s.heap.push (setObj w)).get? s.heap.objs.size = some (setObj w) := Heap.get?_push_size _ rfl
      have hT : Shared.TypeIs { s with heap := s.heap.push (setObj w) } (.ref s.heap.objs.size) "set" := ⟨_, hS, rfl⟩
      have f6 := F.called_set.init.lookup
      have f7 := F.called_set.init.bind (.ref s.heap.objs.size)
      repeat (any_goals (first | assumption | wp_step))
      refine codeAny_mono (codeAny_call_builtin (R := wants (fun r t => r = .none ∧ ∃ h' tk c, t = { s with heap := h', toks := tk } ∧ SetR w h' s.heap.objs.size (fun j => decide (j ∈ ns)) c ∧ c ≤ ns.length ∧
          (∀ b o, s.heap.get? b = some o → h'.get? b = some o)) E) F.called_set.init.plain F.entry_set_init (check_set_init_1 hT ?_)) fun r₂ s₂ hr₂ => ?_
      · have hlt : l < s.heap.objs.size := by
          obtain ⟨o, e, _⟩ := hl
          exact Heap.lt_size e
        have hl1 : (s.heap.push (setObj w)).IsList l items := hl.push _
        have n1 := F.sub_list_set
        have n2 := F.sub_list_frozenset
        have n3 : (Value.type "list" == Value.type "dict") = false := by decide
        obtain ⟨ol, e0, cl, nl, dl⟩ := id hl1
        unfold Builtin.«set.__init__» noKeywords Builtin.Frozenset.updateFrom
        generalize hPI : pyIter = PI
        obtain ⟨oc, od, dt, os⟩ := ol
        simp only at cl dl
        subst cl dl
        wp_walk
        subst hPI
        refine wpAny_pyIter_list hl1 ?_
        refine wpAny_bind (wpAny_runValue ?_)
        have ne : l ≠ (s.heap.push (setObj w)).objs.size := by
          rw [Heap.size_push]
          exact Nat.ne_of_lt (Nat.lt_succ_of_lt hlt)
        have hSf : s.heap.objs.size ∉ [(s.heap.push (setObj w)).objs.size, l] := by
          rw [Heap.size_push]
          simp only [List.mem_cons, List.mem_singleton, List.not_mem_nil, or_false, not_or]
          exact ⟨Nat.ne_of_lt (Nat.lt_succ_self _), Nat.ne_of_gt hlt⟩
        have hval : ∀ (i : Nat) (v : Value), items[i]? = some v → ∃ k t, ns[i]? = some k ∧ v = .int k t := fun i v hv => by
          have hi : i < ns.length := by
            rw [← sz]
            exact (Array.getElem?_eq_some_iff.mp hv).1
          obtain ⟨t, e⟩ := PyProof.Rows.IntsAre.int_at hit i v (by rw [Array.getElem?_toList]; exact hv)
          refine ⟨ns[i], t, List.getElem?_eq_getElem hi, ?_⟩
          rw [e, List.getD_eq_getElem?_getD, List.getElem?_eq_getElem hi] <;> rfl
        have h3 : A.in1.in1.in1.handled = none := by simp [hh]
        refine set_update_ints ((Walks.list h3 _ l ne items).toS) s.heap.objs.size hSf ns sz hb hval (items.size - 0) 0 _ (by omega) (Nat.zero_le _) ⟨⟨_, Heap.get?_push_size _ rfl, rfl, rfl⟩, (hl1.push _)⟩ ⟨0, Nat.le_refl 0, setR_new_at (Heap.get?_push_of_some _ hS)⟩ ?_
        intro t c' hm hc' hS'
        obtain ⟨h', g2, d', tk', os'⟩ := t
        have eg : g2 = s.gens := hm.gens
        have ed : d' = s.drawn := hm.drawn
        have eo : os' = s.os := hm.os
        subst eg ed eo
        rw [sz] at hc'
        refine wpAny_pure (wpAny_pure ⟨rfl, h', tk', c', rfl, hS', hc', fun b o e => ?_⟩)
        have b0 : b < s.heap.objs.size := Heap.lt_size e
        refine hm.heap b o ?_ (Heap.get?_push_of_some _ (Heap.get?_push_of_some _ e))
        rw [Heap.size_push]
        simp only [List.mem_cons, List.mem_singleton, List.not_mem_nil, or_false, not_or]
        exact ⟨Nat.ne_of_lt b0, Nat.ne_of_lt (Nat.lt_succ_of_lt b0)⟩
      · cases r₂ with
        | error e => exact hr₂
        | ok fl₂ =>
          cases fl₂ with
          | ret r =>
            obtain ⟨rfl, h', tk, c', rfl, k1, k2, k3⟩ := hr₂
            repeat (any_goals (first | assumption | wp_step))
            exact h _ _ _ k1 k2 k3
          | _ => exact hr₂.elim
    | _ => exact hr.elim
/-- sorted(x), x a set of ints -/
theorem sorted_of_set {a : Addr} {S : Int → Bool} {n : Nat} {Q : Value → Shared → Prop} (R : SetR w s.heap a S n) (hh : A.handled = none)
    (hQ : ∀ s' p (out : Array Value) (c : Nat) (ns : List Int), (∀ b o, s.heap.get? b = some o → s'.heap.get? b = some o) → s'.gens = s.gens → s'.os = s.os → s.heap.objs.size ≤ p →
      s'.heap.get? p = some (seqObj "list" out c) → IntsAre out.toList ns → ns.Pairwise (· < ·) → (∀ k, k ∈ ns ↔ S k = true) → ns.length ≤ sizeLine → Q (.ref p) s') :
    wpAny (model P w) A (call (.builtin "sorted") [.ref a]) Q E s := by
  obtain ⟨o, es, ep, t, ho, hex, hd, g, nd, hm, hb, hf, hn, hr, hl⟩ := R
  refine Calls.call_function_entry kind_sorted plain_sorted entry_sorted (args_sorted1 _) ?_
  unfold Builtin.«sorted»
  refine wpAny_bind (m := checkCount "sorted" 1 1 _) (wpAny_pure ?_)
  refine wpAny_bind (collect_set (A := A.in1) hh ⟨o, ho, hex.1, hd⟩ hf hb hr hl fun s1 vs k1 hz g1 o1 pm => ?_)
  have vl : vs.length = n := by rw [pm.length_eq, List.length_map, Array.length_toList]; exact hn
  have sl : vs.length ≤ sizeLine := by
    rw [vl, ← hn]
    have : scanBound ≤ sizeLine := by decide +kernel
    omega
  have hI : IntsAre vs (vs.map Builtin.Re.reRawOf) := ints_of vs fun v hv => by
    obtain ⟨e, he, q⟩ := List.mem_map.mp (pm.mem_iff.mp hv)
    obtain ⟨k, tk, h1, _⟩ := g e he
    exact ⟨k, tk, by rw [← q]; exact h1⟩
  have pk : (vs.map Builtin.Re.reRawOf).Perm (es.toList.map keyOf) := by
    have q := pm.map Builtin.Re.reRawOf
    rwa [List.map_map] at q
  refine wpAny_bind (wpAny_newList ?_ sl)
  have hoL : (s1.heap.push (seqObj "list" vs.toArray 0)).get? s1.heap.objs.size = some (seqObj "list" vs.toArray 0) := Heap.get?_push_size _ rfl
  refine wpAny_bind (wpAny_holding (wpAny_call_entry slot_list_sort ⟨_, hoL, rfl⟩ entry_list_sort (list_sort_ord swo_int hoL sl (fun h2 => ints_sortable hI h2) fun out a1 a2 => ⟨_, rfl, ?_⟩) (args_list_sort _)))
  obtain ⟨i1, i2, i3⟩ := ints_out hI a1 a2
  obtain ⟨c, hc⟩ := sortedHeap_at (vs := vs) (out := out.toArray) hoL
  have pn : (out.map iv).Perm (es.toList.map keyOf) := i2.trans pk
  refine wpAny_pure ⟨_, rfl, hQ _ s1.heap.objs.size out.toArray c (out.map iv) (fun b u e => ?_) g1 o1 hz hc (by simpa using i1) (lt_of_le_nodup _ i3 (pn.nodup_iff.mpr nd)) (fun k => by rw [pn.mem_iff, ← hm k]) ?_⟩
  · have q := k1 b u e
    have hlt := Heap.lt_size q
    show (sortedHeap (s1.heap.push (seqObj "list" vs.toArray 0)) s1.heap.objs.size vs out.toArray).get? b = some u
    rw [sortedHeap_old (Nat.ne_of_lt hlt) (by rw [size_push']; exact Nat.lt_succ_of_lt hlt)]
    exact Heap.get?_push_of_some _ q
  · rw [i2.length_eq, List.length_map]
    exact sl
end
theorem sorted_set_ep {X : Cx} {pins : List (Addr × Obj)} {σ : L2.St} {H : Hp} {s : Shared} {a : Addr} {S : Int → Bool} {n : Nat} {Q : VK} (hc : X.calm = true) (I : Inv X pins σ H s) (R : SetR X.w s.heap a S n)
    (h : ∀ (ms : List Int) (q : Addr), ms.Pairwise (· < ·) → (∀ k, k ∈ ms ↔ S k = true) → H q = none → Q (.ref q) (upd H q (.lst (ms.map V.int)))) : wpAny (model X.prog X.w) X.A (call (.builtin "sorted") [.ref a]) (EP X pins σ Q) X.xe s := by
  refine sorted_of_set R (I.ok.hd hc) fun s' p out c ms k2 g o hp hg hi hs hm hl2 => ?_
  have hz : (ms.map V.int).length ≤ sizeLine := by rw [List.length_map]; exact hl2
  have hn : H p = none := I.hok.fresh hp
  have J : Inv X pins σ (upd H p (.lst (ms.map V.int))) { s with heap := s'.heap, gens := s'.gens, drawn := s'.drawn, toks := s'.toks } :=
    I.call (ch := []) (Un.laid k2 hp hn) (I.hok.laid k2 hp ⟨hz, out.toList, c, vals_of_ints hi, hg⟩) (by rw [g]; exact I.bare) (fun _ z => nomatch z)
  have e : s' = { s with heap := s'.heap, gens := s'.gens, drawn := s'.drawn, toks := s'.toks } := by
    cases s'
    cases s
    cases o
    rfl
  rw [e]
  exact ⟨.ref p, _, J, rfl, h ms p hs hm hn⟩
/-- the unlike ints of x, ascending -/
def tSortedSet (K : PySem.W.Frag) (ta : TE) : TE := fun σ H Q => ta σ H fun x H1 => ∃ (p : Addr) (ns : List Int), x = .ref p ∧ (SqL K H1 p (ns.map V.int) ∨ SqT K H1 p (ns.map V.int)) ∧ ns.length ≤ 2000 ∧
  ∀ (ms : List Int) (q : Addr), ms.Pairwise (· < ·) → (∀ k, k ∈ ms ↔ k ∈ ns) → H1 q = none → Q (.ref q) (upd H1 q (.lst (ms.map V.int)))
theorem pe_sortedSet {X : Cx} {a : Expr} {ta : TE} {p p2 q pos : Pos} (hg : Gl X "sorted") (hm : X.mg "sorted" = none) (hg2 : Gl X "set") (hm2 : X.mg "set" = none) (ha : PE X a ta) (hc : X.calm = true := by rfl)
    (na : starEach [a] X.env = (false, eval a X.env) :: starEach [] X.env := by rfl) : PE X (.Call (.Name "sorted" p) [.Call (.Name "set" p2) [a] [] q] [] pos) (tSortedSet X.K ta) := by
  refine ⟨fun pins s σ H Q I h => ?_⟩
  refine Call_ (ld_blt I hg hm boot_sorted ?_)
  refine PyProof.Rows.callWith_builtin1 (PyProof.Rows.args_cons ?_ rfl) rfl rfl
  refine Call_ (ld_blt I hg2 hm2 boot_set ?_)
  refine PyProof.Rows.callWith_type1 (PyProof.Rows.args_cons (thn (ha.run pins s σ H _ I h) fun v s1 ⟨x, H1, I1, r1, q1⟩ => PyProof.Rows.args_nil ?_) na) na rfl
  obtain ⟨l, ns, rfl, hq, hl, q1⟩ := q1
  cases r1
  have fin : ∀ (h' : Heap) (tk c : Nat), SetR X.w h' s1.heap.objs.size (fun j => decide (j ∈ ns)) c → (∀ b o, s1.heap.get? b = some o → h'.get? b = some o) →
      wpAny (model X.prog X.w) X.A (call (.builtin "sorted") [.ref s1.heap.objs.size]) (EP X pins σ Q) X.xe { s1 with heap := h', toks := tk } := by
    intro h' tk c R k
    have I2 : Inv X pins σ H1 { s1 with heap := h', toks := tk } := I1.kept fun b o e => k b o e
    exact sorted_set_ep hc I2 R fun ms q hs hm hn => q1 ms q hs (fun k => by rw [hm k, decide_eq_true_eq]) hn
  rcases hq with hq | hq
  · obtain ⟨its, r, pl, hz⟩ := I1.list hq
    exact set_of_list ns (I1.ok.hd hc) pl.isList (by simpa using ints_of_vals r) (by unfold scanBound; omega) fun h' tk c R1 hcn k => PyProof.Rows.args_nil (fin h' tk c R1 k)
  · obtain ⟨its, r, pt, hz⟩ := I1.tuple hq
    exact call_set_tupI ns (I1.ok.hd hc) (show s1.heap.IsTuple l its.toArray from pt) (ints_of_vals r) (by unfold scanBound; omega) fun h' tk c R1 hcn k => PyProof.Rows.args_nil (fin h' tk c R1 k)
end OB
namespace K46
open PySem PySem.Spec PyProof.Rows L2 OB SkE
def top (i : Nat) : Stmt := PySem.Challenge.pw_oneflip_k46_phases_and_their_texts.main.body.getD i (.Pass ⟨0, 0, 0, 0⟩)
abbrev s_init_BadPhases : Stmt := inClass (top 2) 0
abbrev s_init_BadText : Stmt := inClass (top 3) 0
abbrev s_is_integer : Stmt := top 6
abbrev s_is_within : Stmt := top 7
abbrev s_is_list : Stmt := top 8
abbrev s_are_unlike : Stmt := top 9
abbrev s_is_lot : Stmt := top 10
abbrev s_is_phases : Stmt := top 11
abbrev s_need_phases : Stmt := top 12
abbrev s_items_of : Stmt := top 15
abbrev s_integer_of : Stmt := top 16
abbrev s_item_at : Stmt := top 17
abbrev s_integer_at : Stmt := top 18
abbrev s_need_end : Stmt := top 19
abbrev s_phases_text : Stmt := top 23
abbrev s_phases_read : Stmt := top 24
abbrev s__law_quarry : Stmt := top 26
abbrev s__law_chip : Stmt := top 27
abbrev s__law_pick : Stmt := top 28
abbrev s__law_mixed : Stmt := top 29
abbrev s__law_phases : Stmt := top 30
abbrev s__law_items : Stmt := top 31
abbrev s__law_is_bit : Stmt := top 32
abbrev s__law_stop : Stmt := top 33
abbrev s__law_bent : Stmt := top 34
abbrev s__law_heard : Stmt := top 35
abbrev s__law_text_right : Stmt := top 36
abbrev s_law : Stmt := top 37
theorem sc_init_BadPhases : FnScope ["self", "part"] ["self", "part"] (defScope s_init_BadPhases) := ⟨rfl, rfl, rfl, by decide +kernel, rfl, by decide +kernel, by decide +kernel⟩
theorem sc_init_BadText : FnScope ["self", "line", "item"] ["self", "line", "item"] (defScope s_init_BadText) := ⟨rfl, rfl, rfl, by decide +kernel, rfl, by decide +kernel, by decide +kernel⟩
/-- what the module leaves as it is, and its own constants -/
structure Blt (mg : Str → Option Value) : Prop where
  g_MOST_BIT : ∃ t, mg "MOST_BIT" = some (.int 20000 t)
  g_MOST_DIGITS : ∃ t, mg "MOST_DIGITS" = some (.int 140 t)
  g_BAR : ∃ t, mg "BAR" = some (.str "|" t)
  g_NO_PHASE : ∃ t, mg "NO_PHASE" = some (.str "-" t)
  n_abs : mg "abs" = none
  n_all : mg "all" = none
  n_bool : mg "bool" = none
  n_enumerate : mg "enumerate" = none
  n_int : mg "int" = none
  n_isinstance : mg "isinstance" = none
  n_len : mg "len" = none
  n_list : mg "list" = none
  n_range : mg "range" = none
  n_repr : mg "repr" = none
  n_set : mg "set" = none
  n_sorted : mg "sorted" = none
  n_str : mg "str" = none
  n_tuple : mg "tuple" = none
section
variable {P : Program} {w : World} {K : PySem.W.Frag} {mg : Str → Option Value} {base : Heap}
/-! ### checks -/
theorem sc_is_integer : FnScope ["value"] ["value"] (defScope s_is_integer) := ⟨rfl, rfl, rfl, by decide +kernel, rfl, by decide +kernel, by decide +kernel⟩
theorem ok_is_integer {f : Addr} {fd : FuncData} (F : Fun K "is_integer" "is_integer" s_is_integer f fd) (T : Blt mg) : FnOk P w K mg base CX0 1 f fd ["value"] (spIsInt K) := by
  refine F.ok sc_is_integer (fun vs H Q E h => ?_) (fun cdv A outer s H vs Q E hr h => ?_)
  · obtain ⟨x, b, rfl, _⟩ := h
    rfl
  · obtain ⟨x, b, rfl, ⟨n, b1, b2, ty, e1, e2, e3⟩, k⟩ := h
    refine ⟨_, (pss_one (ps_ret (pe_and (pe_callB call_isi (by rfl) T.n_isinstance (by decide +kernel) (pa_cons (pv 0) (pa_cons (pe_bltn (v := .ty "int") (by rfl) T.n_int (by decide +kernel) rfl) pa_nil))) (pe_one (pe_not (pe_callB call_isi (by rfl) T.n_isinstance (by decide +kernel) (pa_cons (pv 0) (pa_cons (pe_bltn (v := .ty "bool") (by rfl) T.n_bool (by decide +kernel) rfl) pa_nil)))))))), ?_⟩
    refine ⟨x, rfl, x, .ty "int", .type n, .type "int", b1, rfl, .ty _, ty, kit_ty e1, b1, rfl, ?_⟩
    refine iteB (fun c => ?_) (fun c => ?_)
    · refine ⟨x, rfl, x, .ty "bool", .type n, .type "bool", b2, rfl, .ty _, ty, kit_ty e2, b2, rfl, ?_⟩
      rw [c] at e3
      rw [show (!b2) = b by rw [e3, Bool.true_and]]
      exact k
    · rw [c] at e3
      rw [show false = b by rw [e3, Bool.false_and]]
      exact k
theorem sc_is_within : FnScope ["value", "least", "most"] ["value", "least", "most"] (defScope s_is_within) := ⟨rfl, rfl, rfl, by decide +kernel, rfl, by decide +kernel, by decide +kernel⟩
theorem within_end {lo hi : Option Int} {x : V} {b : Bool} {Q : VK} {H : Hp} (hI : IsI K H x b) (k : Q (.bl (b && inB lo hi x)) H) (hb : b = true) : ∃ i, x = .int i ∧ Q (.bl (loOk lo i && hiOk hi i)) H := by
  subst hb
  obtain ⟨i, rfl⟩ := isI_true hI
  exact ⟨i, rfl, k⟩
theorem ok_is_within {f f1 : Addr} {fd fd1 : FuncData} (F : Fun K "is_within" "is_within" s_is_within f fd) (D_is_integer : Df K mg "is_integer" s_is_integer ["value"] f1 fd1) (T : Blt mg) : FnOk P w K mg base CX0 2 f fd ["value", "least", "most"] (spWithin K) := by
  have G_is_integer : FnOk P w K mg base CX0 1 f1 fd1 ["value"] (spIsInt K) := ok_is_integer D_is_integer.F T
  refine F.ok sc_is_within (fun vs H Q E h => ?_) (fun cdv A outer s H vs Q E hr h => ?_)
  · obtain ⟨x, lo, hi, b, rfl, _⟩ := h
    rfl
  · obtain ⟨x, lo, hi, b, rfl, hI, k⟩ := h
    refine ⟨_, (pss_cons (ps_if (pt_not (pt_val (pe_call G_is_integer (hr.mono (by decide)) (by rfl) D_is_integer.g D_is_integer.F.kp D_is_integer.b .nil pass0 (pa_cons (pv 0) pa_nil)))) (pss_one (ps_ret pe_bl)) pss_nil)
  (pss_one (ps_ret (pe_and (pe_or (pe_cmpR op_isN (pv 1) pe_non (nomark _)) (pe_one (pe_cmpR op_le (pv 1) (pv 0) (nomark _)))) (pe_one (pe_or (pe_cmpR op_isN (pv 2) pe_non (nomark _)) (pe_one (pe_cmpR op_le (pv 0) (pv 2) (nomark _))))))))), ?_⟩
    refine ⟨x, rfl, x, b, rfl, hI, b, rfl, ?_⟩
    cases b with
    | false => exact iteT k
    | true =>
      obtain ⟨i, rfl, k'⟩ := within_end hI k rfl
      clear k
      have k := k'
      clear k'
      refine iteF ?_
      refine ⟨_, rfl, rfl, _, rfl, ?_⟩
      cases lo with
      | none =>
        refine iteT ?_
        refine ⟨_, rfl, iteT ?_⟩
        refine ⟨_, rfl, rfl, _, rfl, ?_⟩
        cases hi with
        | none => exact iteT k
        | some h => exact iteF ⟨_, rfl, _, rfl, _, _, rfl, rfl, k⟩
      | some l =>
        refine iteF ?_
        refine ⟨_, rfl, _, rfl, _, _, rfl, rfl, _, rfl, ?_⟩
        refine iteB (fun c => ?_) (fun c => ?_)
        · refine ⟨_, rfl, rfl, _, rfl, ?_⟩
          have e : loOk (some l) i = true := c
          rw [e, Bool.true_and] at k
          cases hi with
          | none => exact iteT k
          | some h => exact iteF ⟨_, rfl, _, rfl, _, _, rfl, rfl, k⟩
        · have e : loOk (some l) i = false := c
          rw [e, Bool.false_and] at k
          exact k
end
end K46
namespace K46
open PySem PySem.Spec PyProof.Rows L2 OB SkE
section
variable {P : Program} {w : World} {K : PySem.W.Frag} {mg : Str → Option Value} {base : Heap}
theorem cut60 (ns : List Int) : cutV (ns.map V.int) none (some 60) = (ns.take 60).map V.int := by
  unfold cutV
  have a : HT.sIx (ns.map V.int).length 0 none = 0 := rfl
  rw [a, List.drop_zero, Nat.sub_zero, List.map_take]
  have e : HT.sIx (ns.map V.int).length (ns.map V.int).length (some 60) = min 60 (ns.map V.int).length := HT.sIx_nat _ _ 60
  rw [e]
  by_cases h : (ns.map V.int).length ≤ 60
  · rw [Nat.min_eq_right h, List.take_length, List.take_of_length_le h]
  · rw [Nat.min_eq_left (by omega)]
theorem take_more {α : Type} {l : List α} {i : Nat} {x : α} (h : l[i]? = some x) : l.take (i + 1) = l.take i ++ [x] := by
  rw [List.take_add_one, h]
  rfl
theorem sc__law_quarry : FnScope ["script", "cell"] ["script"] (defScope s__law_quarry) := ⟨rfl, rfl, rfl, by decide +kernel, rfl, by decide +kernel, by decide +kernel⟩
abbrev N__law_quarry : List Str := ["script", "cell"]
theorem ok__law_quarry {f : Addr} {fd : FuncData} (F : Fun K "_law_quarry" "_law_quarry" s__law_quarry f fd) (T : Blt mg) : FnOk P w K mg base CX0 1 f fd ["script"] (spLot K) := by
  refine F.ok sc__law_quarry (fun vs H Q E h => ?_) (fun cdv A outer s H vs Q E hr h => ?_)
  · obtain ⟨a, ns, rfl, _⟩ := h
    rfl
  · obtain ⟨a, ns, rfl, hS, hl, k⟩ := h
    refine ⟨_, (pss_one (ps_ret (pe_lst (pa_cons (pe_lc (own := [("cell", 1)]) (g := (gName 1)) (tt := tYes) rfl sc__law_quarry.nd (pi_list (pe_slice sl_list (pv 0) po_none (po_some pe_int))) (blkOk_by (N := N__law_quarry) (own := [("cell", 1)]) (sc := defScope s__law_quarry) (by decide +kernel)) (fun _ _ _ _ _ => (pg_name (i := 1) sc__law_quarry.nd rfl (Or.inl rfl))) (fun _ _ _ _ _ => pts_nil) (fun _ _ _ _ _ => (pe_callTy call_int1 (by rfl) T.n_int (by decide +kernel) (pa_cons (pv 1) pa_nil)))) (pa_cons pe_int (pa_cons pe_int pa_nil)))))), ?_⟩
    refine ⟨_, rfl, _, rfl, a, _, rfl, hS, fun c hc => ?_⟩
    have e1 : cutV (ns.map V.int) none (some 60) = (ns.take 60).map V.int := cut60 ns
    rw [e1]
    have S0 : Same H (upd H c (.lst ((ns.take 60).map V.int))) := same_new hc
    refine ⟨c, rfl, ⟨_, .inl (.inl upd_same)⟩, fun b hb => ?_⟩
    have ncb : c ≠ b := ne_of_none upd_same hb
    refine lc_list (K := K) (a := c) (xs := (ns.take 60).map V.int) (fun i H' => Same (upd H c (.lst ((ns.take 60).map V.int))) H' ∧ H' b = some (.lst (((ns.take 60).map V.int).take i)))
      ⟨same_new hb, upd_same⟩ (fun i H' _ h => h.1.seq (.inl (.inl upd_same))) ?_ ?_
    · rintro i y H' hy ⟨S1, h1⟩
      obtain ⟨z, hz, rfl⟩ : ∃ z, (ns.take 60)[i]? = some z ∧ y = V.int z := by
        rw [List.getElem?_map] at hy
        cases e : (ns.take 60)[i]? with
        | none => rw [e] at hy; cases hy
        | some z => rw [e] at hy; exact ⟨z, rfl, (Option.some.inj hy).symm⟩
      refine ⟨rfl, _, rfl, .inl ⟨_, rfl, _, h1, ?_, ?_, ?_⟩⟩
      · refine small1000 ?_
        rw [List.length_take, List.length_map, List.length_take]
        omega
      · intro q o e
        have nb : q ≠ b := ne_of_none e hb
        rw [upd_ne nb]
        exact S1 q o e
      · rw [upd_same, ← List.map_take, ← List.map_take, take_more hz, List.map_append]
        rfl
    · rintro H' ⟨S1, h1⟩
      rw [List.take_length] at h1
      refine ⟨(by show 3 ≤ sizeLine; decide), fun p hp => ?_⟩
      have S2 : Same H H' := S0.trans S1
      have hb0 : H b = none := S0.free hb
      refine k p b _ (S2.free hp) hb0 ⟨ns.take 60, 0, 0, upd_same, ?_, Int.le_refl _, Int.le_refl _⟩ (S2.trans (same_new hp))
      rw [upd_ne (ne_of_none h1 hp)]
      exact h1
theorem sc__law_chip : FnScope ["quarry", "many", "rest", "turn", "cell", "mixed"] ["quarry", "many"] (defScope s__law_chip) := ⟨rfl, rfl, rfl, by decide +kernel, rfl, by decide +kernel, by decide +kernel⟩
theorem ok__law_chip {f : Addr} {fd : FuncData} (F : Fun K "_law_chip" "_law_chip" s__law_chip f fd) (T : Blt mg) : FnOk P w K mg base CX0 1 f fd ["quarry", "many"] spDraw := by
  refine F.ok sc__law_chip (fun vs H Q E h => ?_) (fun cdv A outer s H vs Q E hr h => ?_)
  · obtain ⟨p, b, n, many, rfl, _⟩ := h
    rfl
  · obtain ⟨p, b, n, many, rfl, O, hn, hm, hm2, k⟩ := h
    obtain ⟨ns, t, l, hp, hb, ht, htn⟩ := id O
    have npb : p ≠ b := O.ne
    refine ⟨_, (pss_cons (ps_if (pt_cmpR op_gt (pe_ix ix_list (pv 0) pe_int (fun _ _ => rfl)) pe_int (nomark _)) (pss_cons (ps_set (i := 2) sc__law_chip.nd rfl (Or.inl rfl) (pe_ix ix_list (pv 0) pe_int (fun _ _ => rfl)))
  (pss_cons (ps_asg (pe_op op_fdivW (pe_callTy call_int1 (by rfl) T.n_int (by decide +kernel) (pa_cons (pv 2) pa_nil)) (pv 1)) (pg_sub (pv 0) pe_int set_list))
  (pss_one (ps_ret (pe_op op_mod (pe_callTy call_int1 (by rfl) T.n_int (by decide +kernel) (pa_cons (pv 2) pa_nil)) (pv 1)))))) pss_nil)
  (pss_cons (ps_set (i := 3) sc__law_chip.nd rfl (Or.inl rfl) (pe_ix ix_list (pv 0) pe_int (fun _ _ => rfl)))
  (pss_cons (ps_asg (pe_op op_add (pv 3) pe_int) (pg_sub (pv 0) pe_int set_list))
  (pss_cons (ps_set (i := 4) sc__law_chip.nd rfl (Or.inl rfl) (pe_op op_add (pe_op op_mul pe_int (pv 3)) pe_int))
  (C8.pss_cut (ps_if (pt_cmpR (op_neD hr.units) (pe_ix ix_list (pv 0) pe_int (fun _ _ => rfl)) (pe_lst pa_nil) (nomark _)) (pss_one (ps_set (i := 4) sc__law_chip.nd rfl (Or.inl rfl) (pe_ix ix_list (pe_ix ix_list (pv 0) pe_int (fun _ _ => rfl)) (pe_op op_mod (pe_callTy call_int1 (by rfl) T.n_int (by decide +kernel) (pa_cons (pv 3) pa_nil)) (pe_callB call_len_seq (by rfl) T.n_len (by decide +kernel) (pa_cons (pe_ix ix_list (pv 0) pe_int (fun _ _ => rfl)) pa_nil))) (fun _ _ => rfl)))) pss_nil)
  (pss_cons (ps_if (PW.pt (pw_and (pt_cmpR op_lt (pv 3) (pe_callB call_len_seq (by rfl) T.n_len (by decide +kernel) (pa_cons (pe_ix ix_list (pv 0) pe_int (fun _ _ => rfl)) pa_nil)) (nomark _)) (pw_and1 (pt_cmpR op_ge (pe_callB call_abs (by rfl) T.n_abs (by decide +kernel) (pa_cons (pv 4) pa_nil)) (pe_op op_pow pe_int pe_int) (nomark _))))) (pss_cons (ps_set (i := 2) sc__law_chip.nd rfl (Or.inl rfl) (pe_op op_add (pe_op op_mul pe_int (pe_op op_sub (pe_callB call_abs (by rfl) T.n_abs (by decide +kernel) (pa_cons (pv 4) pa_nil)) (pe_op op_pow pe_int pe_int))) (pe_callTy call_int1 (by rfl) T.n_int (by decide +kernel) (pa_cons (pe_cmpR op_lt (pv 4) pe_int (nomark _)) pa_nil))))
  (pss_cons (ps_asg (pe_op op_fdivW (pe_callTy call_int1 (by rfl) T.n_int (by decide +kernel) (pa_cons (pv 2) pa_nil)) (pv 1)) (pg_sub (pv 0) pe_int set_list))
  (pss_one (ps_ret (pe_op op_mod (pe_callTy call_int1 (by rfl) T.n_int (by decide +kernel) (pa_cons (pv 2) pa_nil)) (pv 1)))))) pss_nil)
  (pss_cons (ps_set (i := 5) sc__law_chip.nd rfl (Or.inl rfl) (pe_op op_mod (pe_callTy call_int1 (by rfl) T.n_int (by decide +kernel) (pa_cons (pe_op op_pow (pe_op op_add (pe_op op_add (pe_op op_mod (pe_callTy call_int1 (by rfl) T.n_int (by decide +kernel) (pa_cons (pv 4) pa_nil)) pe_int) (pe_op op_mul pe_int (pv 3))) pe_int) pe_int) pa_nil)) pe_int))
  (pss_cons (ps_set (i := 5) sc__law_chip.nd rfl (Or.inl rfl) (pe_op op_mod (pe_callTy call_int1 (by rfl) T.n_int (by decide +kernel) (pa_cons (pe_op op_pow (pe_op op_add (pe_op op_add (pe_op op_mul (pv 5) (pe_op op_add (pe_op op_mul pe_int (pv 3)) pe_int)) (pe_op op_mul (pe_op op_mul pe_int (pv 3)) (pv 3))) pe_int) pe_int) pa_nil)) pe_int))
  (pss_one (ps_ret (pe_op op_mod (pe_callTy call_int1 (by rfl) T.n_int (by decide +kernel) (pa_cons (pe_op op_fdiv (pv 5) pe_int) pa_nil)) (pv 1)))))))))))), ?_⟩
    -- quay[2] > 0
    refine ⟨_, rfl, p, _, _, _, rfl, rfl, SqL.of hp, rfl, _, _, rfl, rfl, _, rfl, ?_⟩
    refine ite2 (fun c => ?_) (fun c => ?_)
    · -- left = int(quay[2]); quay[2] = left // many; return int(left) % many
      refine ⟨_, rfl, p, _, _, _, rfl, rfl, SqL.of hp, rfl, ?_⟩
      refine ⟨_, rfl, .inl ⟨_, rfl, _, rfl, _, _, rfl, rfl, wide_div hm hm2 (by decide) (by decide), _, rfl, p, _, _, _, rfl, rfl, hp, rfl, ?_⟩⟩
      refine ⟨_, rfl, .inl ⟨_, rfl, _, rfl, _, _, rfl, rfl, hm, ?_⟩⟩
      refine k _ _ (Int.emod_nonneg _ (by omega)) (Int.emod_lt_of_pos _ hm) ⟨ns, t, _, upd_same, ?_, ht, by omega⟩ but_at
      rw [upd_ne npb.symm]
      exact hb
    · -- turn = quay[1]; quay[1] = turn + 1; cell = A * turn + B
      refine ⟨_, rfl, p, _, _, _, rfl, rfl, SqL.of hp, rfl, ?_⟩
      refine ⟨_, rfl, _, _, rfl, rfl, _, rfl, p, _, _, _, rfl, rfl, hp, rfl, ?_⟩
      refine ⟨_, rfl, _, _, rfl, rfl, .inl ⟨by decide, by decide⟩, _, _, rfl, rfl, ?_⟩
      -- quay[0] != []
      refine ⟨fun σ' H' => ∃ c0 : Int, σ' = [some (.ref p), some (.int many), none, some (.int t), some (.int c0), none] ∧ H' p = some (.lst [.ref b, .int (t + 1), .int l]) ∧ H' b = some (.lst (ns.map V.int)) ∧ But p H H', ?_, ?_⟩
      rotate_left
      · rintro σ' H' ⟨c0, rfl, hp2, hb2, S2⟩
        have ht2 : t ≤ 1000000 := by omega
        have fin : ∀ r : Int, 0 ≤ r → r < many → Q (.int r) H' := fun r h1 h2 => k r H' h1 h2 ⟨ns, t + 1, l, hp2, hb2, by omega, by omega⟩ S2
        have end_ : ∀ x : Int, Q (.int (x % many)) H' := fun x => fin _ (Int.emod_nonneg _ (by omega)) (Int.emod_lt_of_pos _ hm)
        refine ⟨_, rfl, _, rfl, p, _, _, _, rfl, rfl, SqL.of hp2, rfl, b, _, rfl, .inl (SqL.of hb2), _, _, rfl, rfl, _, rfl, ?_⟩
        refine ite2 (fun c1 => ?_) (fun c1 => ?_)
        · refine ⟨_, rfl, _, rfl, _, _, rfl, rfl, ⟨by decide, by decide, by decide⟩, _, _, rfl, rfl, _, rfl, ?_⟩
          refine ite2 (fun c2 => ?_) (fun c2 => ?_)
          · refine ⟨_, rfl, _, rfl, _, _, rfl, rfl, ⟨by decide, by decide, by decide⟩, _, _, rfl, rfl, _, _, rfl, rfl, .inl ⟨by decide, by decide⟩, ?_⟩
            refine ⟨_, rfl, _, _, rfl, rfl, .inr ⟨_, rfl, _, _, rfl, rfl, ?_⟩⟩
            refine ⟨_, rfl, .inl ⟨_, rfl, _, rfl, _, _, rfl, rfl, wide_div hm hm2 (by decide) (by decide), _, rfl, p, _, _, _, rfl, rfl, hp2, rfl, ?_⟩⟩
            refine ⟨_, rfl, .inl ⟨_, rfl, _, rfl, _, _, rfl, rfl, hm, ?_⟩⟩
            refine k _ _ (Int.emod_nonneg _ (by omega)) (Int.emod_lt_of_pos _ hm) ⟨ns, t + 1, _, upd_same, ?_, by omega, by omega⟩ (S2.trans but_at)
            rw [upd_ne npb.symm]
            exact hb2
          · refine ⟨_, rfl, .inl ⟨_, rfl, _, _, rfl, rfl, (by show (0 : Int) < _; decide), _, rfl, _, _, rfl, rfl, .inl ⟨by decide, by decide⟩, _, _, rfl, rfl, _, _, rfl, rfl, _, _, rfl, rfl, ⟨by decide, by decide, mix1 (by decide) (by decide) ht ht2 (by decide) (by decide) (by decide) (by decide)⟩, .inl ⟨_, rfl, _, _, rfl, rfl, (by show (0 : Int) < _; decide), ?_⟩⟩⟩
            refine ⟨_, rfl, _, rfl, _, _, rfl, rfl, .inl ⟨by decide, by decide⟩, _, _, rfl, rfl, _, _, rfl, rfl, .inl (mod_lim (by decide) (by decide)), _, rfl, _, _, rfl, rfl, .inl ⟨by decide, by decide⟩, _, rfl, _, _, rfl, rfl, .inr ⟨by omega, by omega⟩, _, _, rfl, rfl, _, _, rfl, rfl, _, _, rfl, rfl,
              ⟨by decide, by decide, mix2 (by decide) (by decide) ht ht2 (by decide) (by decide) (by decide) (by decide) (by decide) (by decide)⟩, .inl ⟨_, rfl, _, _, rfl, rfl, (by show (0 : Int) < _; decide), ?_⟩⟩
            exact ⟨_, rfl, _, _, rfl, rfl, ⟨by decide, by decide⟩, .inl ⟨_, rfl, _, rfl, _, _, rfl, rfl, hm, end_ _⟩⟩
        · refine ⟨_, rfl, .inl ⟨_, rfl, _, _, rfl, rfl, (by show (0 : Int) < _; decide), _, rfl, _, _, rfl, rfl, .inl ⟨by decide, by decide⟩, _, _, rfl, rfl, _, _, rfl, rfl, _, _, rfl, rfl, ⟨by decide, by decide, mix1 (by decide) (by decide) ht ht2 (by decide) (by decide) (by decide) (by decide)⟩, .inl ⟨_, rfl, _, _, rfl, rfl, (by show (0 : Int) < _; decide), ?_⟩⟩⟩
          refine ⟨_, rfl, _, rfl, _, _, rfl, rfl, .inl ⟨by decide, by decide⟩, _, _, rfl, rfl, _, _, rfl, rfl, .inl (mod_lim (by decide) (by decide)), _, rfl, _, _, rfl, rfl, .inl ⟨by decide, by decide⟩, _, rfl, _, _, rfl, rfl, .inr ⟨by omega, by omega⟩, _, _, rfl, rfl, _, _, rfl, rfl, _, _, rfl, rfl,
            ⟨by decide, by decide, mix2 (by decide) (by decide) ht ht2 (by decide) (by decide) (by decide) (by decide) (by decide) (by decide)⟩, .inl ⟨_, rfl, _, _, rfl, rfl, (by show (0 : Int) < _; decide), ?_⟩⟩
          exact ⟨_, rfl, _, _, rfl, rfl, ⟨by decide, by decide⟩, .inl ⟨_, rfl, _, rfl, _, _, rfl, rfl, hm, end_ _⟩⟩
      refine ⟨_, rfl, p, _, _, _, rfl, rfl, SqL.of upd_same, rfl, Nat.zero_le _, fun l0 hl0 => ?_⟩
      have hp1 : (upd (upd H p (.lst [.ref b, .int (t + 1), .int l])) l0 (.lst [])) p = some (.lst [.ref b, .int (t + 1), .int l]) := by
        rw [upd_ne (ne_of_none upd_same hl0), upd_same]
      have hb1 : (upd (upd H p (.lst [.ref b, .int (t + 1), .int l])) l0 (.lst [])) b = some (.lst (ns.map V.int)) := by
        have e : (upd H p (.lst [.ref b, .int (t + 1), .int l])) b = some (.lst (ns.map V.int)) := by
          rw [upd_ne npb.symm]
          exact hb
        rw [upd_ne (ne_of_none e hl0)]
        exact e
      have S1 : But p H (upd (upd H p (.lst [.ref b, .int (t + 1), .int l])) l0 (.lst [])) := but_at.trans (But.of (same_new hl0))
      refine ⟨.list (ns.map PyData.int), .list [], Dp.lst (SqL.of hb1) (dp_ints ns), Dp.lst (SqL.of upd_same) .nil, shaped_ints ns, shaped_ints [], _, rfl, ?_⟩
      rw [eqv_nil]
      refine ite2 (fun c => ?_) (fun c => ?_)
      · have c : ns ≠ [] := by simpa using c
        have hl : 0 < ns.length := List.length_pos_iff.mpr c
        have hl2 : (0 : Int) < ((ns.map V.int).length : Nat) := by
          rw [List.length_map]
          omega
        have h1 := Int.emod_nonneg t (show (((ns.map V.int).length : Nat) : Int) ≠ 0 by omega)
        have h2 := Int.emod_lt_of_pos t hl2
        obtain ⟨j, hj⟩ : ∃ j : Nat, t % (((ns.map V.int).length : Nat) : Int) = (j : Int) := ⟨_, (Int.toNat_of_nonneg h1).symm⟩
        have hj2 : j < ns.length := by
          rw [List.length_map] at hj h2
          omega
        have hx : (ns.map V.int)[j]? = some (V.int ns[j]) := by
          rw [List.getElem?_map, List.getElem?_eq_getElem hj2]
          rfl
        refine ⟨_, rfl, p, _, _, _, rfl, rfl, SqL.of hp1, rfl, ?_⟩
        refine ⟨_, rfl, .inl ⟨_, rfl, _, rfl, p, _, _, _, rfl, rfl, SqL.of hp1, rfl, b, _, rfl, .inl (SqL.of hb1), _, _, rfl, rfl, hl2, ?_⟩⟩
        exact ⟨b, _, _, V.int ns[j], rfl, rfl, SqL.of hb1, at_of hj hx, ns[j], rfl, hp1, hb1, S1⟩
      · exact ⟨_, rfl, hp1, hb1, S1⟩

/-- one of some things, drawn -/
def spOne : Sp := fun vs H Q _ => ∃ (p b l : Addr) (n : Nat) (xs : List V), vs = [.ref p, .ref l] ∧ Orch H p b n ∧ n < 1000000 ∧ H l = some (.lst xs) ∧ l ≠ p ∧ 0 < xs.length ∧ xs.length ≤ 1000 ∧
  ∀ (j : Nat) (x : V) (H' : Hp), xs[j]? = some x → Orch H' p b (n + 1) → But p H H' → Q x H'

theorem sc__law_pick : FnScope ["quarry", "some"] ["quarry", "some"] (defScope s__law_pick) := ⟨rfl, rfl, rfl, by decide +kernel, rfl, by decide +kernel, by decide +kernel⟩
theorem ok__law_pick {f f1 : Addr} {fd fd1 : FuncData} (F : Fun K "_law_pick" "_law_pick" s__law_pick f fd) (T : Blt mg) (D__law_chip : Df K mg "_law_chip" s__law_chip ["quarry", "many"] f1 fd1) : FnOk P w K mg base CX0 2 f fd ["quarry", "some"] spOne := by
  have G__law_chip : FnOk P w K mg base CX0 1 f1 fd1 ["quarry", "many"] spDraw := ok__law_chip D__law_chip.F T
  refine F.ok sc__law_pick (fun vs H Q E h => ?_) (fun cdv A outer s H vs Q E hr h => ?_)
  · obtain ⟨p, b, l, n, xs, rfl, _⟩ := h
    rfl
  · obtain ⟨p, b, l, n, xs, rfl, O, hn, hl, nlp, h0, h1, k⟩ := h
    refine ⟨_, (pss_one (ps_ret (pe_ix ix_list (pv 1) (pe_call G__law_chip (hr.mono (by decide)) (by rfl) D__law_chip.g D__law_chip.F.kp D__law_chip.b .nil pass0 (pa_cons (pv 0) (pa_cons (pe_callB call_len_seq (by rfl) T.n_len (by decide +kernel) (pa_cons (pv 1) pa_nil)) pa_nil))) (fun _ _ => rfl)))), ?_⟩
    refine ⟨_, rfl, _, rfl, _, rfl, l, xs, rfl, .inl (SqL.of hl), p, b, n, _, rfl, O, hn, by omega, ?_, fun r H' r0 r1 O' B' => ?_⟩
    · show (xs.length : Int).natAbs < 2 ^ 9000
      rw [Int.natAbs_natCast]
      exact Nat.lt_of_le_of_lt h1 (by decide)
    · obtain ⟨j, rfl⟩ := Int.eq_ofNat_of_zero_le r0
      have hj : j < xs.length := by omega
      exact ⟨l, xs, _, xs[j], rfl, rfl, SqL.of (B' l _ hl nlp), atI_nat (List.getElem?_eq_getElem hj), k j _ H' (List.getElem?_eq_getElem hj) O' B'⟩

end
end K46
/-! Texts of numbers: what the program's integer_of tells of any text. -/
namespace MT
open PySem PySem.Spec PyProof.Rows L2
abbrev cs (s : Str) : List Nat := s.cps.toList
def dig (c : Nat) : Bool := decide (48 ≤ c) && decide (c ≤ 57)
def digs (l : List Nat) : Bool := !l.isEmpty && l.all dig
def worth (l : List Nat) : Nat := l.foldl (fun n c => n * 10 + (c - 48)) 0
theorem len_cs (s : Str) : (cs s).length = s.length := by
  show s.cps.toList.length = s.cps.size
  simp
theorem str_ext {s t : Str} (h : cs s = cs t) : s = t := by
  cases s; cases t
  exact congrArg Str.mk (Array.toList_inj.mp h)
theorem ascii_dig : ∀ c < 128, Unicode.isDigit c = dig c := by decide +kernel
theorem digit_iff (s : Str) : (Txt.isascii s && Txt.isdigit s) = digs (cs s) := by
  unfold Txt.isascii Txt.isdigit digs
  have e1 : decide (s.length > 0) = !(cs s).isEmpty := by
    rw [← len_cs]
    cases cs s <;> simp
  rw [e1]
  rw [← Array.all_toList, ← Array.all_toList]
  show ((cs s).all (fun x => decide (x < 128)) && (!(cs s).isEmpty && (cs s).all Unicode.isDigit)) = _
  generalize cs s = l
  rw [Bool.and_left_comm]
  refine congrArg (fun b => (!l.isEmpty) && b) ?_
  induction l with
  | nil => rfl
  | cons a r ih =>
    simp only [List.all_cons]
    rw [← ih]
    by_cases h : a < 128
    · rw [ascii_dig a h, decide_eq_true h]
      cases dig a <;> cases (r.all fun x => decide (x < 128)) <;> cases r.all Unicode.isDigit <;> rfl
    · have : dig a = false := by
        unfold dig
        rw [decide_eq_false (show ¬ a ≤ 57 by omega), Bool.and_false]
      rw [this, decide_eq_false h]
      rfl
theorem digs_all {l : List Nat} (h : digs l = true) : ∀ c ∈ l, 48 ≤ c ∧ c ≤ 57 := by
  unfold digs at h
  rw [Bool.and_eq_true] at h
  intro c hc
  have := List.all_eq_true.mp h.2 c hc
  unfold dig at this
  rw [Bool.and_eq_true] at this
  exact ⟨of_decide_eq_true this.1, of_decide_eq_true this.2⟩
theorem digs_ne {l : List Nat} (h : digs l = true) : l ≠ [] := by
  rintro rfl
  cases h
theorem worth_is (l : List Nat) : NumText.digitsVal l = worth l := rfl
theorem int_pos (s : Str) (h : digs (cs s) = true) (hl : s.length ≤ 4300) : PySem.intText? s = some (worth (cs s) : Int) := PySem.intText_digits (digs_all h) (digs_ne h) hl
theorem int_neg (s : Str) {l : List Nat} (e : cs s = 45 :: l) (h : digs l = true) (hl : s.length ≤ 4300) : PySem.intText? s = some (-(worth l : Int)) := PySem.intText_neg e (digs_all h) (digs_ne h) hl
/-- the text behind a '-' -/
def behind (l : List Nat) : List Nat := match l with | 45 :: r => r | l => l
theorem drop_minus (s : Str) : cs (Txt.removeprefix s "-") = behind (cs s) := by
  have hm : ("-" : Str) = ⟨#[45]⟩ := by decide +kernel
  rw [hm]
  obtain ⟨⟨l⟩⟩ := s
  cases l with
  | nil => rfl
  | cons a r =>
    unfold Txt.removeprefix Builtin.Str.subAt
    have e1 : (#[45] : Array Nat).size = 1 := rfl
    have ex : ((⟨a :: r⟩ : Array Nat).extract 0 (0 + (⟨#[45]⟩ : Str).length) == #[45]) = decide (a = 45) := by
      show ((⟨a :: r⟩ : Array Nat).extract 0 1 == #[45]) = _
      have : (⟨a :: r⟩ : Array Nat).extract 0 1 = #[a] := by
        apply Array.toList_inj.mp
        simp
      rw [this]
      show (([a] : List Nat) == [45]) = _
      by_cases h : a = 45
      · subst h; rfl
      · rw [decide_eq_false h]
        exact beq_false_of_ne (by simpa using h)
    rw [ex]
    by_cases h : a = 45
    · subst h
      rw [decide_eq_true rfl, if_pos rfl]
      unfold Txt.affix
      show cs (if (r.length + 1 - 1 == r.length + 1) = true then _ else _) = r
      rw [if_neg (by rw [beq_false_of_ne (by omega)]; decide)]
      show ((⟨45 :: r⟩ : Array Nat).extract 1 (r.length + 1)).toList = r
      simp
    · rw [decide_eq_false h, if_neg (by decide)]
      show a :: r = behind (a :: r)
      unfold behind
      split
      · rename_i z
        exact absurd (List.cons.inj z).1 h
      · rfl
theorem starts_zero (s : Str) : Txt.startswith s "0" = decide ((cs s).head? = some 48) := by
  have hm : ("0" : Str) = ⟨#[48]⟩ := by decide +kernel
  rw [hm]
  obtain ⟨⟨l⟩⟩ := s
  cases l with
  | nil => rfl
  | cons a r =>
    unfold Txt.startswith Builtin.Str.subAt
    have ex : ((⟨a :: r⟩ : Array Nat).extract 0 (0 + (⟨#[48]⟩ : Str).length) == #[48]) = decide (a = 48) := by
      show ((⟨a :: r⟩ : Array Nat).extract 0 1 == #[48]) = _
      have : (⟨a :: r⟩ : Array Nat).extract 0 1 = #[a] := by
        apply Array.toList_inj.mp
        simp
      rw [this]
      show (([a] : List Nat) == [48]) = _
      by_cases h : a = 48
      · subst h; rfl
      · rw [decide_eq_false h]
        exact beq_false_of_ne (by simpa using h)
    rw [ex]
    show (decide (0 + 1 ≤ r.length + 1) && decide (a = 48)) = _
    rw [decide_eq_true (by omega), Bool.true_and]
    show decide (a = 48) = decide (some a = some 48)
    exact decide_eq_decide.mpr (by simp)
/-- what integer_of tells -/
def intOf (s : Str) : Option Int :=
  let d := behind (cs s)
  if digs d = true ∧ d.length ≤ 140 ∧ (d.head? = some 48 → s = "0") then some (if (cs s).head? = some 45 then -(worth d : Int) else (worth d : Int)) else none
theorem in_digits (c : Nat) : (!(Builtin.Str.occurrences ("0123456789" : Str) ⟨#[c]⟩ 0 ("0123456789" : Str).length 1).isEmpty) = dig c := by
  rw [StrLaws.found_one, show ("0123456789" : Str).cps.toList = [48, 49, 50, 51, 52, 53, 54, 55, 56, 57] by decide +kernel]
  unfold dig
  rw [← Bool.decide_and]
  refine decide_eq_decide.mpr ?_
  simp
  omega
end MT
/-! A text times a number. -/
namespace OB
open PySem PySem.Spec PyProof.Rows L2
theorem mul_len (x : Str) (n : Nat) : (Txt.mul x (n : Int)).length ≤ x.length * n := by
  unfold Txt.mul
  by_cases h1 : (n : Int) < 1
  · rw [if_pos h1]
    show (0 : Nat) ≤ _
    omega
  · rw [if_neg h1]
    by_cases h2 : (((n : Int) == 1 || x.length == 0) = true)
    · rw [if_pos h2]
      exact Nat.le_mul_of_pos_right _ (by omega)
    · rw [if_neg h2, Int.toNat_natCast]
      have gen : ∀ (m : Nat) (a : Array Nat), ((List.replicate m x.cps).foldl (· ++ ·) a).size = a.size + x.cps.size * m := by
        intro m
        induction m with
        | zero => intro a; simp
        | succ m ih =>
          intro a
          rw [List.replicate_succ, List.foldl_cons, ih, Array.size_append, Nat.mul_succ]
          omega
      show ((List.replicate n x.cps).foldl (· ++ ·) #[]).size ≤ x.cps.size * n
      rw [gen]
      simp
theorem op_mulS {X : Cx} : OpR X (binaryOp .Mult) (fun x y H Q => ∃ (a : Str) (n : Nat), x = .str a ∧ y = .int (n : Int) ∧ a.length * n ≤ 1000000 ∧ n ≤ 1000000 ∧ ∀ z, z = Txt.mul a (n : Int) → Q (.str z) H) := by
  intro pins s σ H x y v u Q I rx ry h
  obtain ⟨a, n, rfl, rfl, hz, hn, q⟩ := h
  obtain ⟨t, rfl⟩ := rx
  obtain ⟨t', rfl⟩ := ry
  refine SB.mul ⟨?_, fun h1 h2 h3 => ?_, fun h1 h2 => ?_⟩ fun t' k => ⟨.str _, H, I.tok _, ⟨_, rfl⟩, q _ rfl⟩
  · rw [decide_eq_false (show ¬ (n : Int) < -(2 ^ 63) by omega), decide_eq_false (show ¬ (n : Int) ≥ 2 ^ 63 by omega)]
    rfl
  · have h4 : (2 ^ 63 - 1 : Int) / (n : Int) < (a.length : Int) := h3
    rw [Int.ediv_lt_iff_lt_mul (by omega)] at h4
    have : ((a.length * n : Nat) : Int) ≤ 1000000 := by omega
    rw [Int.natCast_mul] at this
    omega
  · unfold Builtin.Str.tooLong
    have : a.length * n ≤ sizeLine := by rw [sizeLine_eq]; omega
    rw [Int.toNat_natCast]
    exact decide_eq_false (by omega)
end OB
/-! Texts of numbers from 0 on: what is canonical, and that only the number's own text is. -/
namespace MN
open PySem PySem.Spec PyProof.Rows L2 MT OB PySem.NumText
def num (s : Str) : Option Nat := if digs (cs s) = true ∧ s.length ≤ 140 ∧ ((cs s).head? = some 48 → s = "0") then some (worth (cs s)) else none
def inR (s : Str) (lo hi : Int) : Bool := match num s with
  | some n => decide (lo ≤ (n : Int)) && decide ((n : Int) ≤ hi)
  | none => false
theorem cs_ds (n : Nat) : cs (ds n) = (Nat.toDigits 10 n).map Char.toNat := PySem.W.KIN.signs_num n
theorem back : ∀ c, 48 ≤ c → c ≤ 57 → (Char.ofNat c).toNat = c := fun c h1 h2 => (show ∀ d < 58, 48 ≤ d → (Char.ofNat d).toNat = d by decide) c (by omega) h1
theorem num_text {s : Str} {n : Nat} (h : num s = some n) : s = ds n := by
  unfold num at h
  split at h
  · rename_i c
    obtain ⟨hd, hl, hz⟩ := c
    have e := (Option.some.inj h).symm
    subst e
    refine str_ext ?_
    rw [cs_ds]
    have al := digs_all hd
    have ne := digs_ne hd
    have key : Nat.toDigits 10 (worth (cs s)) = (cs s).map Char.ofNat := by
      refine NumText.toDigits_digitsVal ((cs s).length - 1) (cs s) ?_ al ?_
      · have := List.length_pos_iff.mpr ne
        omega
      · by_cases z : (cs s).head? = some 48
        · left
          rw [hz z]
          decide +kernel
        · right
          cases e : cs s with
          | nil => exact absurd e ne
          | cons c r =>
            refine ⟨c, r, rfl, ?_⟩
            have h1 := al c (by rw [e]; exact List.mem_cons_self)
            have h2 : c ≠ 48 := fun y => z (by rw [e, y]; rfl)
            omega
    rw [key, List.map_map]
    have : ∀ c ∈ cs s, (Char.toNat ∘ Char.ofNat) c = c := fun c hc => back c (al c hc).1 (al c hc).2
    rw [List.map_congr_left this, List.map_id']
  · cases h
theorem toD_dig (n : Nat) : digs ((Nat.toDigits 10 n).map Char.toNat) = true := by
  unfold digs
  rw [Bool.and_eq_true]
  constructor
  · have := toDigits_len_ge 10 n
    cases e : Nat.toDigits 10 n with
    | nil => rw [e] at this; simp at this
    | cons a r => rfl
  · rw [List.all_eq_true]
    intro c hc
    obtain ⟨d, hd, rfl⟩ := List.mem_map.mp hc
    have := Nat.isDigit_of_mem_toDigits (by decide) (by decide) hd
    unfold Char.isDigit at this
    simp at this
    have h1 : (48 : UInt32).toNat ≤ d.val.toNat := this.1
    have h2 : d.val.toNat ≤ (57 : UInt32).toNat := this.2
    unfold dig
    rw [Bool.and_eq_true]
    exact ⟨decide_eq_true h1, decide_eq_true h2⟩
theorem worth_toD (n : Nat) : worth ((Nat.toDigits 10 n).map Char.toNat) = n := PySem.W.KIN.val_back n
theorem head_pos (n : Nat) (h : ((Nat.toDigits 10 n).map Char.toNat).head? = some 48) : n = 0 := by
  induction n using Nat.strongRecOn with
  | ind n ih =>
    by_cases c : n < 10
    · clear ih
      exact (show ∀ m < 10, ((Nat.toDigits 10 m).map Char.toNat).head? = some 48 → m = 0 by decide) n c h
    · have hd : Nat.toDigits 10 n = Nat.toDigits 10 (n / 10) ++ [Nat.digitChar (n % 10)] := by
        rw [Nat.toDigits_of_base_le (by decide) (by omega)]
      have ne : Nat.toDigits 10 (n / 10) ≠ [] := fun e => by
        have := toDigits_len_ge 10 (n / 10)
        rw [e] at this
        simp at this
      rw [hd, List.map_append, List.head?_append] at h
      have hs : ∃ x, ((Nat.toDigits 10 (n / 10)).map Char.toNat).head? = some x := by
        cases e : Nat.toDigits 10 (n / 10) with
        | nil => exact absurd e ne
        | cons a r => exact ⟨_, rfl⟩
      obtain ⟨x, hx⟩ := hs
      rw [hx] at h
      have h : some x = some 48 := h
      rw [← hx] at h
      have := ih (n / 10) (by omega) h
      omega
theorem num_ds {n : Nat} (h : (ds n).length ≤ 140) : num (ds n) = some n := by
  unfold num
  rw [if_pos, cs_ds, worth_toD]
  refine ⟨by rw [cs_ds]; exact toD_dig n, h, fun z => ?_⟩
  rw [cs_ds] at z
  rw [head_pos n z]
  decide +kernel
theorem worth_pos {l : List Nat} (h : digs l = true) (h0 : l.head? ≠ some 48) : 0 < worth l := by
  cases l with
  | nil => cases h
  | cons c r =>
    have := digs_all h c List.mem_cons_self
    have h2 : c ≠ 48 := fun y => h0 (by rw [y]; rfl)
    exact NumText.digitsVal_pos (by omega)
theorem behind_not {l : List Nat} (h : l.head? ≠ some 45) : behind l = l := by
  unfold behind
  split
  · exact absurd rfl h
  · rfl
theorem int_num {s : Str} {lo hi : Int} (h0 : 0 ≤ lo) : (match intOf s with | some v => decide (lo ≤ v) && decide (v ≤ hi) | none => false) = inR s lo hi := by
  by_cases z : (cs s).head? = some 45
  · have nn : num s = none := by
      unfold num
      rw [if_neg]
      rintro ⟨h1, _, _⟩
      cases e : cs s with
      | nil => rw [e] at z; cases z
      | cons a r =>
        rw [e] at z h1
        have := digs_all h1 a List.mem_cons_self
        have := Option.some.inj z
        omega
    unfold inR
    rw [nn]
    unfold intOf
    simp only
    split
    · rename_i v hv
      split at hv
      · rename_i c
        have e := Option.some.inj hv
        obtain ⟨h1, h2, h3⟩ := c
        have : 0 < worth (behind (cs s)) := worth_pos h1 fun y => by
          have e0 := h3 y
          rw [e0] at z
          exact absurd z (by decide +kernel)
        rw [decide_eq_false (show ¬ lo ≤ v by omega)]
        rfl
      · cases hv
    · rfl
  · unfold intOf inR num
    simp only [behind_not z, len_cs, if_neg z]
    by_cases c : digs (cs s) = true ∧ s.length ≤ 140 ∧ ((cs s).head? = some 48 → s = "0")
    · rw [if_pos c, if_pos c]
    · rw [if_neg c, if_neg c]
theorem inR_ds {n : Nat} {lo hi : Int} (h : (ds n).length ≤ 140) : inR (ds n) lo hi = (decide (lo ≤ (n : Int)) && decide ((n : Int) ≤ hi)) := by
  unfold inR
  rw [num_ds h]
theorem inR_ex {s : Str} {lo hi : Int} (h : inR s lo hi = true) : ∃ n : Nat, s = ds n ∧ num s = some n ∧ lo ≤ (n : Int) ∧ (n : Int) ≤ hi := by
  unfold inR at h
  cases e : num s with
  | none => rw [e] at h; cases h
  | some n =>
    rw [e] at h
    have h : (decide (lo ≤ (n : Int)) && decide ((n : Int) ≤ hi)) = true := h
    rw [Bool.and_eq_true] at h
    exact ⟨n, num_text e, rfl, of_decide_eq_true h.1, of_decide_eq_true h.2⟩
theorem int_of_num {s : Str} {n : Nat} (h : num s = some n) : intOf s = some (n : Int) := by
  unfold num at h
  split at h
  · rename_i c
    obtain ⟨hd, hl, hz⟩ := c
    have e := (Option.some.inj h).symm
    subst e
    have z : ¬ (cs s).head? = some 45 := fun z => by
      cases e : cs s with
      | nil => rw [e] at z; cases z
      | cons a r =>
        rw [e] at z hd
        have := digs_all hd a List.mem_cons_self
        have := Option.some.inj z
        omega
    unfold intOf
    simp only [behind_not z, len_cs, if_neg z]
    rw [if_pos ⟨hd, hl, hz⟩]
  · cases h
theorem int_ok {s : Str} (D : digs (behind (cs s)) = true) (hl : (behind (cs s)).length ≤ 140) (h3 : (behind (cs s)).head? = some 48 → s = "0") (sl : s.length ≤ 4300) : ∃ v, intOf s = some v ∧ PySem.intText? s = some v := by
  by_cases hm : (cs s).head? = some 45
  · obtain ⟨l, el⟩ : ∃ l, cs s = 45 :: l := by
      cases e : cs s with
      | nil => rw [e] at hm; cases hm
      | cons a r =>
        rw [e] at hm
        cases hm
        exact ⟨r, rfl⟩
    have bl : behind (cs s) = l := by rw [el]; rfl
    refine ⟨-(worth l : Int), ?_, MT.int_neg s el (bl ▸ D) sl⟩
    unfold intOf
    simp only
    rw [if_pos ⟨D, hl, h3⟩, if_pos hm, bl]
  · refine ⟨(worth (cs s) : Int), ?_, MT.int_pos s (by rw [behind_not hm] at D; exact D) sl⟩
    unfold intOf
    simp only
    rw [if_pos ⟨D, hl, h3⟩, if_neg hm, behind_not hm]
theorem inR_of {s : Str} {n : Nat} {lo hi : Int} (h : num s = some n) (h1 : lo ≤ (n : Int)) (h2 : (n : Int) ≤ hi) : inR s lo hi = true := by
  unfold inR
  rw [h]
  show (decide (lo ≤ (n : Int)) && decide ((n : Int) ≤ hi)) = true
  rw [decide_eq_true h1, decide_eq_true h2]
  rfl
theorem mem_sum {α : Type} {f : α → Nat} : ∀ {l : List α} {y : α}, y ∈ l → f y ≤ (l.map f).sum
  | a :: r, y, h => by
    rw [List.map_cons, List.sum_cons]
    rcases List.mem_cons.mp h with rfl | h
    · omega
    · have := mem_sum (f := f) h
      omega
theorem split_short {z y : Str} (h : y ∈ Txt.split z " ") : y.length ≤ z.length := by
  have w := PyProof.Rows.split_weight z " " (by decide +kernel)
  have := mem_sum (f := (·.length)) h
  have := List.length_pos_of_mem h
  omega
/-- each sign is below 256 -/
def asc (s : Str) : Prop := ∀ c ∈ cs s, c < 256
theorem in_join {y : Str} {c : Nat} (hc : c ∈ cs y) : ∀ {l : List Str}, y ∈ l → c ∈ cs (Str.join " " l)
  | [a], h => by
    rw [List.mem_singleton.mp h] at hc
    exact hc
  | a :: b :: r, h => by
    show c ∈ TL.tl (a ++ " " ++ Str.join " " (b :: r))
    rw [TL.tl_append, TL.tl_append, List.mem_append, List.mem_append]
    rcases List.mem_cons.mp h with rfl | h
    · exact .inl (.inl hc)
    · exact .inr (in_join hc h)
theorem split_asc {z y : Str} (hz : asc z) (h : y ∈ Txt.split z " ") : asc y := fun c hc => by
  refine hz c ?_
  have := in_join hc h
  rw [StrLaws.join_split z " "] at this
  exact this
theorem asc_join : ∀ l : List Str, (∀ y ∈ l, asc y) → asc (Txt.join " " l)
  | [], _ => by
    have e : cs (Txt.join " " []) = [] := by decide +kernel
    intro c hc
    rw [e] at hc
    exact absurd hc List.not_mem_nil
  | [a], h => by
    rw [TL.join_eq]
    exact h a List.mem_cons_self
  | a :: b :: r, h => by
    have ih := asc_join (b :: r) fun y hy => h y (List.mem_cons_of_mem _ hy)
    rw [TL.join_eq] at ih ⊢
    intro c hc
    have hc : c ∈ TL.tl (a ++ " " ++ Str.join " " (b :: r)) := hc
    rw [TL.tl_append, TL.tl_append, List.mem_append, List.mem_append] at hc
    rcases hc with (hc | hc) | hc
    · exact h a List.mem_cons_self c hc
    · have e : TL.tl (" " : Str) = [32] := by decide +kernel
      rw [e, List.mem_singleton] at hc
      omega
    · exact ih c hc
theorem join_len (k : Nat) : ∀ l : List Str, (∀ y ∈ l, y.length ≤ k) → (Txt.join " " l).length ≤ l.length * (k + 1)
  | [], _ => by
    rw [List.length_nil, Nat.zero_mul]
    exact Nat.le_of_eq (show (Txt.join " " []).length = 0 by decide +kernel)
  | [a], h => by
    have := h a List.mem_cons_self
    rw [TL.join_eq]
    show a.length ≤ 1 * (k + 1)
    omega
  | a :: b :: r, h => by
    have ih := join_len k (b :: r) fun y hy => h y (List.mem_cons_of_mem _ hy)
    have := h a List.mem_cons_self
    have e3 : (" " : Str).length = 1 := by decide +kernel
    rw [TL.join_eq] at ih ⊢
    show ((a ++ " ") ++ Str.join " " (b :: r)).length ≤ _
    rw [Str.length_append, Str.length_append, e3, List.length_cons, Nat.succ_mul]
    omega
theorem mul_asc {x : Str} {n : Nat} (h : asc x) : asc (Txt.mul x (n : Int)) := by
  unfold Txt.mul
  split
  · intro c hc
    exact absurd hc (by show c ∉ ([] : List Nat); simp)
  · split
    · exact h
    · intro c hc
      have gen : ∀ (m : Nat) (a : Array Nat), (∀ c ∈ a.toList, c < 256) → ∀ c ∈ ((List.replicate m x.cps).foldl (· ++ ·) a).toList, c < 256 := by
        intro m
        induction m with
        | zero => intro a ha; simpa using ha
        | succ m ih =>
          intro a ha
          rw [List.replicate_succ, List.foldl_cons]
          refine ih _ fun c hc => ?_
          rw [Array.toList_append] at hc
          rcases List.mem_append.mp hc with z | z
          · exact ha c z
          · exact h c z
      exact gen _ #[] (by simp) c hc
theorem asc_ds (n : Nat) : asc (ds n) := fun c hc => by
  have := digs_all (toD_dig n) c (by rw [← cs_ds]; exact hc)
  omega
theorem join_split (z : Str) : Txt.join " " (Txt.split z " ") = z := by
  rw [TL.join_eq]
  exact StrLaws.join_split z " "
end MN
/-! Lambdas by generator: what they bind, and that a call's reading grows with what is wanted. -/
namespace OB
open PySem PySem.Spec PyProof.Rows L2 LamX
def MTA (t : TA) : Prop := ∀ σ H (Q1 Q2 : List V → Hp → Prop), (∀ vs H, Q1 vs H → Q2 vs H) → t σ H Q1 → t σ H Q2
def MTE (t : TE) : Prop := ∀ σ H (Q1 Q2 : VK), (∀ v H, Q1 v H → Q2 v H) → t σ H Q1 → t σ H Q2
theorem mta_nil : MTA tNil := fun σ H Q1 Q2 h z => h _ _ z
theorem mta_cons {a : TE} {r : TA} (ha : MTE a) (hr : MTA r) : MTA (tCons a r) := fun σ H Q1 Q2 h z => ha σ H _ _ (fun x H1 z1 => hr σ H1 _ _ (fun xs H2 z2 => h _ _ z2) z1) z
theorem mte_var {i : Nat} : MTE (tVar i) := fun σ H Q1 Q2 h ⟨v, e, z⟩ => ⟨v, e, h _ _ z⟩
theorem mte_c {v : V} : MTE (tC v) := fun σ H Q1 Q2 h z => h _ _ z
theorem mte_lst {t : TA} (ht : MTA t) : MTE (tLst t) := fun σ H Q1 Q2 h z => ht σ H _ _ (fun xs H1 ⟨l, z1⟩ => ⟨l, fun p hp => h _ _ (z1 p hp)⟩) z
theorem mte_tup {t : TA} (ht : MTA t) : MTE (tTup t) := fun σ H Q1 Q2 h z => ht σ H _ _ (fun xs H1 ⟨l, z1⟩ => ⟨l, fun p hp => h _ _ (z1 p hp)⟩) z
def SpMono (sp : Sp) : Prop := ∀ vs H (Q1 Q2 : VK) (E1 E2 : XK), (∀ c d H, E1 c d H → E2 c d H) → (∀ v H, Q1 v H → Q2 v H) → sp vs H Q1 E1 → sp vs H Q2 E2
theorem mono_S {sp : Sp} {t : TA} (hs : SpMono sp) (ht : MTA t) : ∀ σ : L2.St, MonoL fun E H' Q' => tCallS sp (WE fun cls d _ H => E cls d H) t σ H' Q' :=
  fun σ E1 E2 H Q1 Q2 hE hQ z => ht σ H _ _ (fun vs H1 z1 => hs _ _ _ _ _ _ (fun c d H => hE c d H) (fun v H => hQ v H) z1) z
theorem mono_KS {sp : Sp} {gV : List V → List V → List V} {t : TA} (hs : SpMono sp) (ht : MTA t) : ∀ σ : L2.St, MonoL fun E H' Q' => tCallKS sp gV (WE fun cls d _ H => E cls d H) tNil t σ H' Q' :=
  fun σ E1 E2 H Q1 Q2 hE hQ z => ht σ H _ _ (fun vs H1 z1 => hs _ _ _ _ _ _ (fun c d H => hE c d H) (fun v H => hQ v H) z1) z
theorem bind_0 {pr : Arguments} (h : ∀ (q : Str) (body : Expr) (scope : Scope) (cl : List (Str × Addr)) (pm cv ctv : Value), bindArgs (lFn q pr body scope cl .none pm cv ctv) ⟨[], []⟩ = pure []) : ∀ ds : List Value, Vals (([] : List Int).map V.int) ds → LamB pr [] ds := fun ds rd => by
  cases rd
  exact lamB0 h
theorem bind_1 {pr : Arguments} {a : Str} {n : Int} (h : ∀ (d : Value) (q : Str) (body : Expr) (scope : Scope) (cl : List (Str × Addr)) (T : Addr) (pm cv ctv : Value), ∃ k, bindArgs (lFn q pr body scope cl (.ref T) pm cv ctv) ⟨[], []⟩ = seqItems? (.ref T) >>= k ∧ k (some #[d]) = pure [(a, d)]) :
    ∀ ds : List Value, Vals (([n] : List Int).map V.int) ds → LamB pr [a] ds := fun ds rd => by
  cases rd with
  | cons r rr =>
    cases rr
    exact lamB1 (h _)
theorem hu_0 {P1 : Addr} {q1 : Str} : ∀ p ∈ [(P1, q1)], p.1 = P1 → p.2 = q1 := fun p hp _ => congrArg Prod.snd (List.mem_singleton.mp hp)
theorem hu_1 {P1 P2 : Addr} {q1 q2 : Str} (n : P1 ≠ P2) : ∀ p ∈ [(P1, q1), (P2, q2)], p.1 = P1 → p.2 = q1 := fun p hp e => by
  rcases List.mem_cons.mp hp with rfl | hp
  · rfl
  · rw [List.mem_singleton.mp hp] at e
    exact absurd e.symm n
theorem hu_2 {P1 P2 : Addr} {q1 q2 : Str} (n : P1 ≠ P2) : ∀ p ∈ [(P1, q1), (P2, q2)], p.1 = P2 → p.2 = q2 := fun p hp e => by
  rcases List.mem_cons.mp hp with rfl | hp
  · exact absurd e n
  · exact congrArg Prod.snd (List.mem_singleton.mp hp)
end OB
/-! Making an object, a static method, a method, where what is raised passes at the slots. -/
namespace OB
open PySem PySem.Spec PyProof.Rows L2 ClX
def tMakeS (C : Addr) (sp : Sp) (E : L2.St → XK) (t : TA) : TE := fun σ H Q => t σ H fun vs H1 => ∀ x dx, H1 x = none → H1 dx = none → dx ≠ x →
  sp (.ref x :: vs) (upd (upd H1 dx (.own x)) x (.ins C dx [])) (fun v H2 => v = .non ∧ Q (.ref x) H2) (E σ)
def tMethS (C : Addr) (m : Str) (sp : Sp) (E : L2.St → XK) (ta : TE) (t : TA) : TE := fun σ H Q => ta σ H fun x H1 => ∃ a dx fs, x = .ref a ∧ H1 a = some (.ins C dx fs) ∧ fs.lookup m = none ∧
  t σ H1 fun vs H2 => sp (x :: vs) H2 Q (E σ)
def tSMethS (C : Addr) (sp : Sp) (E : L2.St → XK) (ta : TE) (t : TA) : TE := fun σ H Q => ta σ H fun x H1 => x = .ref C ∧ t σ H1 fun vs H2 => sp vs H2 Q (E σ)
section
variable {X : Cx} {CX : CXT} {k : Nat} {C f p g : Addr} {fd : FuncData} {ps ks : List Str} {mc : Value} {sp : Sp} {E : L2.St → XK} {x : Str} {p1 : Pos} {o e : Expr} {es : List Expr} {kws : List Keyword} {m : Str} {pos apos : Pos} {ta : TE} {t tk : TA} {pl : Sem Bool}
theorem run_makeS {pins : List (Addr × Obj)} {σ : L2.St} {H : Hp} {s : Shared} {Q : VK} {us : List Value} {vs : List V} (M : Mk X.K C f) (F : FnOk X.prog X.w X.K X.mg X.base CX k f fd ps sp) (hr : Room (k + 1) X.A) (hb : L2.Binds X.K fd ps [])
    (hx : PassesAt CX X σ (E σ)) (I : Inv X pins σ H s) (r : Vals vs us)
    (h : ∀ x dx, H x = none → H dx = none → dx ≠ x → sp (.ref x :: vs) (upd (upd H dx (.own x)) x (.ins C dx [])) (fun v H2 => v = .non ∧ Q (.ref x) H2) (E σ)) :
    wpAny (model X.prog X.w) X.A (call (.ref C) us) (EP X pins σ Q) X.xe s := by
  have hq := h (s.heap.objs.size + 1) s.heap.objs.size (I.hok.fresh (Nat.le_succ _)) (I.hok.fresh (Nat.le_refl _)) (Nat.ne_of_lt (Nat.lt_succ_self _))
  have I2 := Inv.made (C := C) I
  have r2 : Vals (V.ref (s.heap.objs.size + 1) :: vs) (Value.ref (s.heap.objs.size + 1) :: us) := .cons rfl r
  have hl : (Value.ref (s.heap.objs.size + 1) :: us ++ []).length = ps.length := by
    have e := r2.length
    rw [F.len _ _ _ _ hq] at e
    rw [List.append_nil]
    exact e.symm
  have b := hb _ (Value.ref (s.heap.objs.size + 1) :: us) I2.kIn hl
  rw [List.append_nil] at b
  refine wpAny_call (make_map (f := f) I.kIn M.makes M.init (beq_iff_eq.mp M.fn) (codeAny_mono (F.run _ X.stack _ _ ⟨Value.ref (s.heap.objs.size + 1) :: us, []⟩ (Value.ref (s.heap.objs.size + 1) :: us) _ _ (E σ) (hr.make C us [])
    (I2.env0.make C us []) b r2 hq) fun r s' hq' => ?_))
  cases r with
  | error e => exact hx pins _ _ e s' I2 hq'
  | ok fl =>
    cases fl with
    | ret u =>
      obtain ⟨v, H', I3, rv, ev, q3⟩ := I2.after hq'
      subst ev
      exact ⟨rv, ⟨V.ref (s.heap.objs.size + 1), H', I3, rfl, q3⟩⟩
    | next => exact False.elim hq'
    | brk => exact False.elim hq'
    | cont => exact False.elim hq'
theorem pe_makeS (M : Mk X.K C f) (F : FnOk X.prog X.w X.K X.mg X.base CX k f fd ps sp) (hr : Room (k + 1) X.A) (hg : Gl X x) (hm : X.mg x = some (.ref C)) (hb : L2.Binds X.K fd ps []) (hx : ∀ σ, PassesAt CX X σ (E σ))
    (ha : PA X (e :: es) t) (hdb : (x == ("__debug__" : Str)) = false := by decide) (he : starEach (e :: es) X.env = (false, eval e X.env) :: starEach es X.env := by rfl) (hpl : (backTo pos (starEach es X.env)).any (·.1) = false := by rfl) :
    PE X (.Call (.Name x p1) (e :: es) [] pos) (tMakeS C sp E t) := by
  refine ⟨fun pins s σ H Q I h => ?_⟩
  refine wpAny_Call_Name_kw (ld_glob I hg hm ?_ hdb)
  refine PySem.W.callWith_K (h₀ := X.base) I.ok.mod.kin M.kp (thn (ha.run pos pins s σ H _ I h) fun us s1 ⟨vs, H1, I1, r, q⟩ => ⟨I1.kIn, ?_⟩) he hpl
  exact run_makeS M F hr hb (hx σ) I1 r q
theorem pe_methE (he : PE X o ta) (c : Cls X.K C) (hm : Meth X.K C m f) (F : FnOk X.prog X.w X.K X.mg X.base CX k f fd ps sp) (hr : Room k X.A) (hb : L2.Binds X.K fd ps []) (hx : ∀ σ, PassesAt CX X σ (E σ)) (ha : PA X (e :: es) t)
    (hst : starEach (e :: es) X.env = (false, eval e X.env) :: starEach es X.env := by rfl) (hpl : (backTo pos (starEach es X.env)).any (·.1) = false := by rfl)
    (ht : eval (.Call (.Attribute o m apos) (e :: es) [] pos) X.env = (do
      let ov ← eval o X.env
      standAt apos.atName
      let (f, first) ← holding [ov] (getMethod ov m pl)
      callWith pos f first (backTo pos (starEach (e :: es) X.env)) (backToKw pos (keywordEach [] X.env))) := by rfl) :
    PE X (.Call (.Attribute o m apos) (e :: es) [] pos) (tMethS C m sp E ta t) := by
  refine ⟨fun pins s σ H Q I h => ?_⟩
  refine PySem.W.methodCall_KW (pl := pl) (thn (he.run pins s σ H _ I h) fun u s1 ⟨x, H1, I1, rx, a, dx, fs, ex, ea, l, q⟩ => ?_) ht
  subst ex
  obtain rfl : u = Value.ref a := rx
  refine getmeth_ok I1 ea c hm l ?_
  refine PySem.W.callWith_K (first := [.ref a]) (h₀ := X.base) I.ok.mod.kin hm.kp (thn (ha.run pos pins s1 σ H1 _ I1 q) fun us s2 ⟨vs, H2, I2, r, q2⟩ => ⟨I2.kIn, ?_⟩) hst hpl
  exact run_fnS (us := .ref a :: us) (vs := .ref a :: vs) F hr hb (hx σ) I2 (.cons rfl r) q2
theorem pe_smethS (he : PE X o ta) (r : CRead X.K C mc) (c : CStat X.K C mc m p g) (F : FnOk X.prog X.w X.K X.mg X.base CX k g fd ps sp) (hr : Room k X.A) (hb : L2.Binds X.K fd ps []) (hx : ∀ σ, PassesAt CX X σ (E σ)) (ha : PA X (e :: es) t)
    (hst : starEach (e :: es) X.env = (false, eval e X.env) :: starEach es X.env := by rfl) (hpl : (backTo pos (starEach es X.env)).any (·.1) = false := by rfl)
    (ht : eval (.Call (.Attribute o m apos) (e :: es) [] pos) X.env = (do
      let ov ← eval o X.env
      standAt apos.atName
      let (f, first) ← holding [ov] (getMethod ov m pl)
      callWith pos f first (backTo pos (starEach (e :: es) X.env)) (backToKw pos (keywordEach [] X.env))) := by rfl) :
    PE X (.Call (.Attribute o m apos) (e :: es) [] pos) (tSMethS C sp E ta t) := by
  refine ⟨fun pins s σ H Q I h => ?_⟩
  refine PySem.W.methodCall_KW (pl := pl) (thn (he.run pins s σ H _ I h) fun u s1 ⟨x, H1, I1, rx, ex, q⟩ => ?_) ht
  subst ex
  obtain rfl : u = Value.ref C := rx
  refine getmethsm_ok I1 r c fun s2 I2 => ?_
  refine PySem.W.callWith_K (h₀ := X.base) (first := []) I.ok.mod.kin c.kp (thn (ha.run pos pins s2 σ H1 _ I2 q) fun us s3 ⟨vs, H2, I3, rv, q2⟩ => ⟨I3.kIn, ?_⟩) hst hpl
  exact run_fnS F hr hb (hx σ) I3 rv q2
end
theorem mono_MS {C : Addr} {sp : Sp} {t : TA} (hs : SpMono sp) (ht : MTA t) : ∀ σ : L2.St, MonoL fun E H' Q' => tMakeS C sp (WE fun cls d _ H => E cls d H) t σ H' Q' :=
  fun σ E1 E2 H Q1 Q2 hE hQ z => ht σ H _ _ (fun vs H1 z1 x dx n1 n2 n3 => hs _ _ _ _ _ _ (fun c d H => hE c d H) (fun v H q => ⟨q.1, hQ _ _ q.2⟩) (z1 x dx n1 n2 n3)) z
theorem mono_SS {C : Addr} {sp : Sp} {ta : TE} {t : TA} (hs : SpMono sp) (ha : MTE ta) (ht : MTA t) : ∀ σ : L2.St, MonoL fun E H' Q' => tSMethS C sp (WE fun cls d _ H => E cls d H) ta t σ H' Q' :=
  fun σ E1 E2 H Q1 Q2 hE hQ z => ha σ H _ _ (fun x H0 z0 => ⟨z0.1, ht σ H0 _ _ (fun vs H1 z1 => hs _ _ _ _ _ _ (fun c d H => hE c d H) (fun v H q => hQ _ _ q) z1) z0.2⟩) z
theorem mono_MeS {C : Addr} {m : Str} {sp : Sp} {ta : TE} {t : TA} (hs : SpMono sp) (ha : MTE ta) (ht : MTA t) : ∀ σ : L2.St, MonoL fun E H' Q' => tMethS C m sp (WE fun cls d _ H => E cls d H) ta t σ H' Q' :=
  fun σ E1 E2 H Q1 Q2 hE hQ z => ha σ H _ _ (fun x H0 ⟨a, dx, fs, e1, e2, e3, z0⟩ => ⟨a, dx, fs, e1, e2, e3, ht σ H0 _ _ (fun vs H1 z1 => hs _ _ _ _ _ _ (fun c d H => hE c d H) (fun v H q => hQ _ _ q) z1) z0⟩) z
end OB
/-! Steps of a walk, made short. -/
namespace OB
open PySem PySem.Spec PyProof.Rows L2 LamX
section
variable {x y : V} {i j : Int} {H : Hp} {Q : VK}
theorem st_i0 {g : Int → Int → V} {v : V} (ex : x = .int i) (ey : y = .int j) (ev : g i j = v) (k : Q v H) : rI0 g x y H Q := by
  subst ev
  exact ⟨i, j, ex, ey, k⟩
theorem st_i {C : Int → Int → Prop} {g : Int → Int → V} {v : V} (ex : x = .int i) (ey : y = .int j) (hc : C i j) (ev : g i j = v) (k : Q v H) : rI C g x y H Q := by
  subst ev
  exact ⟨i, j, ex, ey, hc, k⟩
end
theorem st_tC {v : V} {σ : L2.St} {H : Hp} {Q : VK} (k : Q v H) : tC v σ H Q := k
theorem st_tOp {r : R2} {a b : TE} {σ : L2.St} {H : Hp} {Q : VK} (k : a σ H fun x H1 => b σ H1 fun y H2 => r x y H2 Q) : tOp r a b σ H Q := k
theorem ixN_of {n j : Nat} (hj : j < n) : ixN n (j : Int) = some j := by
  unfold ixN
  rw [if_pos (by omega), if_pos (by omega)]
  simp
end OB
namespace K46
open PySem PySem.Spec PyProof.Rows L2 OB SkE
theorem iteT' {b : Bool} {A B : Prop} (h : b = true) (a : A) : if b = true then A else B := by rw [if_pos h]; exact a
theorem iteF' {b : Bool} {A B : Prop} (h : b = false) (a : B) : if b = true then A else B := by rw [if_neg (by rw [h]; decide)]; exact a
/-- a value that is no text -/
def NotS (K : PySem.W.Frag) (H : Hp) (x : V) : Prop := ∃ t, TyX K H x t ∧ PySem.W.kitOne K t (.type "str") = some false
def Raises2 (C : Addr) (ln it : Int) (E : XK) (H : Hp) : Prop := ∀ d, H d = none → E (.ref C) (some d) (upd H d (.xd [(("item" : Str), .int it), (("line" : Str), .int ln)]))
def spItems (K : PySem.W.Frag) (CT : Addr) : Sp := fun vs H Q E => ∃ x : V, vs = [x] ∧ ((NotS K H x ∧ Raises2 CT 0 0 E H) ∨ ∃ z : Str, x = .str z ∧ z.length + 2 ≤ sizeLine ∧ ∀ p, H p = none → Q (.ref p) (upd H p (.lst ((Txt.split z " ").map V.str))))
def oI : Option Int → V
  | none => .non
  | some v => .int v
def spIntOf : Sp := fun vs H Q _ => ∃ z : Str, vs = [.str z] ∧ z.length ≤ 1000000 ∧ Q (oI (MT.intOf z)) H
def spItemAt (CT : Addr) : Sp := fun vs H Q E => ∃ (q : Addr) (ys : List Str) (i : Nat), vs = [.ref q, .int (i : Int)] ∧ H q = some (.lst (ys.map V.str)) ∧ (∀ y, ys[i]? = some y → Q (.str y) H) ∧ (ys[i]? = none → Raises2 CT 0 (ys.length : Int) E H)
def spIntAt (CT : Addr) : Sp := fun vs H Q E => ∃ (q : Addr) (ys : List Str) (i : Nat) (lo hi : Int), vs = [.ref q, .int (i : Int), .int lo, .int hi] ∧ H q = some (.lst (ys.map V.str)) ∧ (∀ y ∈ ys, y.length ≤ 1000000) ∧ 0 ≤ lo ∧
  (∀ y (n : Nat), ys[i]? = some y → MN.num y = some n → lo ≤ (n : Int) → (n : Int) ≤ hi → Q (.int (n : Int)) H) ∧ (∀ y, ys[i]? = some y → MN.inR y lo hi = false → Raises2 CT 0 (i : Int) E H) ∧ (ys[i]? = none → Raises2 CT 0 (ys.length : Int) E H)
def spNeedEnd (CT : Addr) : Sp := fun vs H Q E => ∃ (q : Addr) (ys : List Str) (i : Nat), vs = [.ref q, .int (i : Int)] ∧ H q = some (.lst (ys.map V.str)) ∧ (ys.length ≤ i → Q .non H) ∧ (i < ys.length → Raises2 CT 0 (i : Int) E H)
theorem tyS {K : PySem.W.Frag} {H : Hp} {z : Str} : tyV K "str" (.str z) H := rfl
section
variable {P : Program} {w : World} {K : PySem.W.Frag} {mg : Str → Option Value} {base : Heap}
theorem sc_items_of : FnScope ["text"] ["text"] (defScope s_items_of) := ⟨rfl, rfl, rfl, by decide +kernel, rfl, by decide +kernel, by decide +kernel⟩
abbrev N_items_of : List Str := ["text"]
theorem ok_items_of {f CT fT : Addr} {fd fdT : FuncData} (F : Fun K "items_of" "items_of" s_items_of f fd) (T : Blt mg) (R_BadText : Err2 P w K mg base "BadText" "line" "item" CT fT fdT) : FnOk P w K mg base (L2.CX P w) 3 f fd ["text"] (spItems K CT) := by
  refine F.okX sc_items_of (fun vs H Q E h => ?_) (fun cdv A outer s H vs Q E hr h => ?_)
  · obtain ⟨x, rfl, _⟩ := h
    rfl
  · obtain ⟨x, rfl, h⟩ := h
    refine ⟨_, (pss_cons (ps_if (pt_not (pt_val (pe_callB call_isi (by rfl) T.n_isinstance (by decide +kernel) (pa_cons (pv 0) (pa_cons (pe_bltn (v := .ty "str") (by rfl) T.n_str (by decide +kernel) rfl) pa_nil))))) (pss_one (ps_raise2 rfl (takes_of rfl rfl rfl rfl) R_BadText (hr.mono (by decide)) (by rfl) pe_int pe_int)) pss_nil)
  (pss_one (ps_ret (pe_split (pv 0) pe_str)))), ?_⟩
    rcases h with ⟨⟨t, ty, ht⟩, k⟩ | ⟨z, rfl, hz, k⟩
    · refine ⟨_, rfl, _, .ty "str", t, .type "str", false, rfl, .ty _, ty, ht, false, rfl, iteT ?_⟩
      exact raise2_of (σ := []) (W := fun cls d _ H => E cls d H) R_BadText.T R_BadText.no R_BadText.no2 k
    · refine ⟨_, rfl, _, .ty "str", .type "str", .type "str", true, rfl, .ty _, .base (.str z), kit_ty (by decide +kernel), true, rfl, ?_⟩
      refine iteF ?_
      exact ⟨_, rfl, ⟨_, rfl⟩, z, " ", rfl, rfl, by decide +kernel, hz, k⟩
theorem sc_integer_of : FnScope ["item", "digits"] ["item"] (defScope s_integer_of) := ⟨rfl, rfl, rfl, by decide +kernel, rfl, by decide +kernel, by decide +kernel⟩
abbrev N_integer_of : List Str := ["item", "digits"]
theorem ok_integer_of {f : Addr} {fd : FuncData} (F : Fun K "integer_of" "integer_of" s_integer_of f fd) (T : Blt mg) : FnOk P w K mg base CX0 1 f fd ["item"] spIntOf := by
  obtain ⟨tD, gD⟩ := T.g_MOST_DIGITS
  refine F.ok sc_integer_of (fun vs H Q E h => ?_) (fun cdv A outer s H vs Q E hr h => ?_)
  · obtain ⟨z, rfl, _⟩ := h
    rfl
  · obtain ⟨z, rfl, hz, k⟩ := h
    refine ⟨_, (pss_cons (ps_set (i := 1) sc_integer_of.nd rfl (Or.inl rfl) (pe_bm PySem.F.plainAttrs_str PySem.F.slot_str_removeprefix PySem.F.type_str_removeprefix mt_removeprefix (pv 0) (pa_cons pe_str pa_nil)))
  (pss_cons (ps_if (PW.pt (pw_or (pt_not (PW.pt (pw_and (pt_val (pe_bm0 PySem.F.plainAttrs_str PySem.F.slot_str_isascii PySem.F.type_str_isascii mt_isascii (pv 1))) (pw_and1 (pt_val (pe_bm0 PySem.F.plainAttrs_str PySem.F.slot_str_isdigit PySem.F.type_str_isdigit mt_isdigit (pv 1))))))) (pw_or1 (pt_cmpR op_gt (pe_callB call_len_str (by rfl) T.n_len (by decide +kernel) (pa_cons (pv 1) pa_nil)) (pe_glob (v := .int 140) rfl T.g_MOST_DIGITS.choose_spec ⟨_, rfl⟩) (nomark _))))) (pss_one (ps_ret pe_non)) pss_nil)
  (pss_cons (ps_if (PW.pt (pw_and (pt_val (pe_bm PySem.F.plainAttrs_str PySem.F.slot_str_startswith PySem.F.type_str_startswith mt_startswith (pv 1) (pa_cons pe_str pa_nil))) (pw_and1 (pt_cmpR op_ne (pv 0) pe_str (nomark _))))) (pss_one (ps_ret pe_non)) pss_nil)
  (pss_one (ps_ret (pe_callTy call_int_str (by rfl) T.n_int (by decide +kernel) (pa_cons (pv 0) pa_nil))))))), ?_⟩
    obtain ⟨y, hy⟩ : ∃ y, Txt.removeprefix z "-" = y := ⟨_, rfl⟩
    have ey : MT.cs y = MT.behind (MT.cs z) := by rw [← hy]; exact MT.drop_minus z
    have yl : y.length ≤ z.length := by
      rw [← MT.len_cs, ← MT.len_cs, ey]
      unfold MT.behind
      split
      · rename_i e
        rw [e]
        exact Nat.le_succ _
      · exact Nat.le_refl _
    have hz1 : z.length ≤ sizeLine := by rw [sizeLine_eq]; omega
    have hy1 : y.length ≤ sizeLine := by omega
    refine ⟨_, rfl, tyS, _, _, rfl, rfl, hz1, ?_⟩
    rw [hy]
    have hb : (Txt.isascii y && Txt.isdigit y) = MT.digs (MT.behind (MT.cs z)) := by rw [MT.digit_iff, ey]
    have no : MT.intOf z = none → Q .non H := fun e => by
      rw [e] at k
      exact k
    have none1 : ¬ MT.digs (MT.behind (MT.cs z)) = true → MT.intOf z = none := fun c => by
      unfold MT.intOf
      exact if_neg fun e => c e.1
    refine ⟨_, rfl, tyS, _, rfl, rfl, trivial, ?_⟩
    by_cases D : MT.digs (MT.behind (MT.cs z)) = true
    · rw [D, Bool.and_eq_true] at hb
      rw [hb.1]
      refine ⟨true, rfl, iteT ?_⟩
      refine ⟨_, rfl, tyS, _, rfl, rfl, trivial, ?_⟩
      rw [hb.2]
      refine ⟨true, rfl, iteF ?_⟩
      refine ⟨_, rfl, _, rfl, hy1, _, _, rfl, rfl, _, rfl, ?_⟩
      have yd : y.length = (MT.behind (MT.cs z)).length := by rw [← ey, MT.len_cs]
      refine ite2 (fun c => ?_) (fun c => ?_)
      · rw [decide_eq_true_iff] at c
        exact no (if_neg fun e => by omega)
      · rw [decide_eq_true_iff] at c
        have zl : z.length ≤ 141 := by
          rw [← MT.len_cs] at *
          unfold MT.behind at yd
          split at yd
          · rename_i e
            rw [e, List.length_cons]
            omega
          · omega
        have fin : ((MT.behind (MT.cs z)).head? = some 48 → z = "0") → tRet (tCB (fun xs H Q => ∃ a n, xs = [V.str a] ∧ intText? a = some n ∧ a.length ≤ 640 ∧ Q (V.int n) H) (tCons (tVar 0) tNil)) { nx := fun x H' => Q V.non H', rt := Q } [some (.str z), some (.str y)] H := fun h3 => by
          obtain ⟨v, e1, e2⟩ := MN.int_ok D (by omega) h3 (by omega)
          rw [e1] at k
          exact ⟨_, rfl, _, _, rfl, e2, by omega, k⟩
        refine ⟨_, rfl, tyS, _, _, rfl, rfl, ?_⟩
        rw [MT.starts_zero, ey]
        refine ⟨_, rfl, iteB (fun c => ?_) (fun c => fin fun h => absurd (decide_eq_true h) (by rw [c]; decide))⟩
        refine ⟨_, rfl, rfl, _, rfl, ?_⟩
        by_cases e0 : z = "0"
        · refine iteF' (by rw [e0]; decide) (fin fun _ => e0)
        · refine iteT' (by rw [decide_eq_false (fun h => e0 (V.str.inj h))]; rfl) (no (if_neg fun e => e0 (e.2.2 (of_decide_eq_true c))))
    · have hd : (Txt.isascii y && Txt.isdigit y) = false := by
        rw [hb]
        exact Bool.not_eq_true _ ▸ D
      have out := no (none1 D)
      cases ea : Txt.isascii y with
      | false => exact ⟨false, rfl, iteF (iteT (iteT out))⟩
      | true =>
        rw [ea, Bool.true_and] at hd
        refine ⟨true, rfl, iteT ?_⟩
        refine ⟨_, rfl, tyS, _, rfl, rfl, trivial, ?_⟩
        rw [hd]
        exact ⟨false, rfl, iteT (iteT out)⟩
theorem sc_item_at : FnScope ["items", "at"] ["items", "at"] (defScope s_item_at) := ⟨rfl, rfl, rfl, by decide +kernel, rfl, by decide +kernel, by decide +kernel⟩
abbrev N_item_at : List Str := ["items", "at"]
theorem ok_item_at {f CT fT : Addr} {fd fdT : FuncData} (F : Fun K "item_at" "item_at" s_item_at f fd) (T : Blt mg) (R_BadText : Err2 P w K mg base "BadText" "line" "item" CT fT fdT) : FnOk P w K mg base (L2.CX P w) 3 f fd ["items", "at"] (spItemAt CT) := by
  refine F.okX sc_item_at (fun vs H Q E h => ?_) (fun cdv A outer s H vs Q E hr h => ?_)
  · obtain ⟨q, ys, i, rfl, _⟩ := h
    rfl
  · obtain ⟨q, ys, i, rfl, hq, k1, k2⟩ := h
    refine ⟨_, (pss_cons (ps_if (pt_cmpR op_ge (pv 1) (pe_callB call_len_seq (by rfl) T.n_len (by decide +kernel) (pa_cons (pv 0) pa_nil)) (nomark _)) (pss_one (ps_raise2 rfl (takes_of rfl rfl rfl rfl) R_BadText (hr.mono (by decide)) (by rfl) pe_int (pe_callB call_len_seq (by rfl) T.n_len (by decide +kernel) (pa_cons (pv 0) pa_nil)))) pss_nil)
  (pss_one (ps_ret (pe_ix ix_list (pv 0) (pv 1) (fun _ _ => rfl))))), ?_⟩
    refine ⟨_, rfl, _, rfl, q, _, rfl, .inl (SqL.of hq), _, _, rfl, rfl, _, rfl, ?_⟩
    refine ite2 (fun c => ?_) (fun c => ?_)
    · rw [List.length_map] at c
      refine ⟨_, rfl, q, _, rfl, .inl (SqL.of hq), ?_⟩
      rw [List.length_map]
      exact raise2_of (σ := []) (W := fun cls d _ H => E cls d H) R_BadText.T R_BadText.no R_BadText.no2 (k2 (List.getElem?_eq_none (by have := of_decide_eq_true c; omega)))
    · rw [List.length_map] at c
      have hi : i < ys.length := by rw [decide_eq_true_iff] at c; omega
      refine ⟨_, rfl, _, rfl, q, _, _, V.str ys[i], rfl, rfl, SqL.of hq, atI_nat (by rw [List.getElem?_map, List.getElem?_eq_getElem hi]; rfl), k1 _ (List.getElem?_eq_getElem hi)⟩
theorem sc_integer_at : FnScope ["items", "at", "least", "most", "value"] ["items", "at", "least", "most"] (defScope s_integer_at) := ⟨rfl, rfl, rfl, by decide +kernel, rfl, by decide +kernel, by decide +kernel⟩
abbrev N_integer_at : List Str := ["items", "at", "least", "most", "value"]
theorem ok_integer_at {f f1 f2 f3 f4 CT fT : Addr} {fd fd1 fd2 fd3 fd4 fdT : FuncData} (F : Fun K "integer_at" "integer_at" s_integer_at f fd) (T : Blt mg) (D_integer_of : Df K mg "integer_of" s_integer_of ["item"] f1 fd1) (D_item_at : Df K mg "item_at" s_item_at ["items", "at"] f2 fd2) (D_is_within : Df K mg "is_within" s_is_within ["value", "least", "most"] f3 fd3) (D_is_integer : Df K mg "is_integer" s_is_integer ["value"] f4 fd4) (R_BadText : Err2 P w K mg base "BadText" "line" "item" CT fT fdT) : FnOk P w K mg base (L2.CX P w) 5 f fd ["items", "at", "least", "most"] (spIntAt CT) := by
  have G_integer_of : FnOk P w K mg base CX0 1 f1 fd1 ["item"] spIntOf := ok_integer_of D_integer_of.F T
  have G_item_at : FnOk P w K mg base (L2.CX P w) 3 f2 fd2 ["items", "at"] (spItemAt CT) := ok_item_at D_item_at.F T R_BadText
  have G_is_within : FnOk P w K mg base CX0 2 f3 fd3 ["value", "least", "most"] (spWithin K) := ok_is_within D_is_within.F D_is_integer T
  refine F.okX sc_integer_at (fun vs H Q E h => ?_) (fun cdv A outer s H vs Q E hr h => ?_)
  · obtain ⟨q, ys, i, lo, hi, rfl, _⟩ := h
    rfl
  · obtain ⟨q, ys, i, lo, hi, rfl, hq, hL, h0, k1, k2, k3⟩ := h
    refine ⟨_, (pss_cons (ps_set (i := 4) sc_integer_at.nd rfl (Or.inl rfl) (pe_call G_integer_of (hr.mono (by decide)) (by rfl) D_integer_of.g D_integer_of.F.kp D_integer_of.b .nil pass0 (pa_cons (pe_callS G_item_at (hr.mono (by decide)) (by rfl) D_item_at.g D_item_at.F.kp D_item_at.b (fun σ => passAt (takes_of rfl rfl rfl rfl) σ) (pa_cons (pv 0) (pa_cons (pv 1) pa_nil))) pa_nil)))
  (pss_cons (ps_if (pt_not (pt_val (pe_call G_is_within (hr.mono (by decide)) (by rfl) D_is_within.g D_is_within.F.kp D_is_within.b .nil pass0 (pa_cons (pv 4) (pa_cons (pv 2) (pa_cons (pv 3) pa_nil)))))) (pss_one (ps_raise2 rfl (takes_of rfl rfl rfl rfl) R_BadText (hr.mono (by decide)) (by rfl) pe_int (pv 1))) pss_nil)
  (pss_one (ps_ret (pv 4))))), ?_⟩
    refine ⟨_, rfl, _, rfl, q, ys, i, rfl, hq, fun y hy => ?_, fun hn => k3 hn⟩
    refine ⟨y, rfl, hL y (List.mem_of_getElem? hy), ?_⟩
    have bad : MN.inR y lo hi = false → ∀ r : Ends, tRaise2 K CT "line" "item" (fun cls d x H => E cls d H) (tC (V.int 0)) (tVar 1) r (List.set (L2.start ["items", "at", "least", "most", "value"] [V.ref q, V.int ↑i, V.int lo, V.int hi]) 4 (some (oI (MT.intOf y)))) H := fun c r => by
      refine ⟨_, rfl, ?_⟩
      exact raise2_of (σ := []) (W := fun cls d _ H => E cls d H) R_BadText.T R_BadText.no R_BadText.no2 (k2 y hy c)
    have eq := MN.int_num (s := y) (hi := hi) h0
    cases e : MT.intOf y with
    | none =>
      rw [e] at eq bad
      refine ⟨_, rfl, _, rfl, _, rfl, _, some lo, some hi, false, rfl, isI_non, _, rfl, ?_⟩
      exact iteT (bad eq.symm _)
    | some v =>
      rw [e] at eq bad
      refine ⟨_, rfl, _, rfl, _, rfl, _, some lo, some hi, true, rfl, isI_int _, _, rfl, ?_⟩
      have eq2 : (true && inB (some lo) (some hi) (oI (some v))) = MN.inR y lo hi := eq
      rw [eq2]
      cases c : MN.inR y lo hi with
      | false => exact iteT (bad c _)
      | true =>
        obtain ⟨n, _, hn, h1, h2⟩ := MN.inR_ex c
        have : v = (n : Int) := Option.some.inj (e.symm.trans (MN.int_of_num hn))
        subst this
        exact iteF ⟨_, rfl, k1 y n hy hn h1 h2⟩
theorem sc_need_end : FnScope ["items", "at"] ["items", "at"] (defScope s_need_end) := ⟨rfl, rfl, rfl, by decide +kernel, rfl, by decide +kernel, by decide +kernel⟩
abbrev N_need_end : List Str := ["items", "at"]
theorem ok_need_end {f CT fT : Addr} {fd fdT : FuncData} (F : Fun K "need_end" "need_end" s_need_end f fd) (T : Blt mg) (R_BadText : Err2 P w K mg base "BadText" "line" "item" CT fT fdT) : FnOk P w K mg base (L2.CX P w) 3 f fd ["items", "at"] (spNeedEnd CT) := by
  refine F.okX sc_need_end (fun vs H Q E h => ?_) (fun cdv A outer s H vs Q E hr h => ?_)
  · obtain ⟨q, ys, i, rfl, _⟩ := h
    rfl
  · obtain ⟨q, ys, i, rfl, hq, k1, k2⟩ := h
    refine ⟨_, (pss_one (ps_if (pt_cmpR op_lt (pv 1) (pe_callB call_len_seq (by rfl) T.n_len (by decide +kernel) (pa_cons (pv 0) pa_nil)) (nomark _)) (pss_one (ps_raise2 rfl (takes_of rfl rfl rfl rfl) R_BadText (hr.mono (by decide)) (by rfl) pe_int (pv 1))) pss_nil)), ?_⟩
    refine ⟨_, rfl, _, rfl, q, _, rfl, .inl (SqL.of hq), _, _, rfl, rfl, _, rfl, ?_⟩
    refine ite2 (fun c => ?_) (fun c => ?_)
    · rw [List.length_map] at c
      refine ⟨_, rfl, ?_⟩
      exact raise2_of (σ := []) (W := fun cls d _ H => E cls d H) R_BadText.T R_BadText.no R_BadText.no2 (k2 (by have := of_decide_eq_true c; omega))
    · rw [List.length_map] at c
      exact k1 (by rw [decide_eq_true_iff] at c; omega)
end
end K46
namespace K46
open PySem PySem.Spec PyProof.Rows L2 OB SkE LamX
section
variable {P : Program} {w : World} {K : PySem.W.Frag} {mg : Str → Option Value} {base : Heap}
/-- whatever is laid anew, it is a list or a tuple, or none -/
def EvL (K : PySem.W.Frag) (H : Hp) (x : V) (b : Bool) : Prop := ∀ H', Same H H' → IsL K H' x b
def EvI (K : PySem.W.Frag) (H : Hp) (x : V) (b : Bool) : Prop := ∀ H', Same H H' → IsI K H' x b
def spIsList (K : PySem.W.Frag) : Sp := fun vs H Q _ => ∃ (x : V) (b : Bool), vs = [x] ∧ EvL K H x b ∧ ∀ H', Same H H' → Q (.bl b) H'
theorem sc_is_list : FnScope ["value"] ["value"] (defScope s_is_list) := ⟨rfl, rfl, rfl, by decide +kernel, rfl, by decide +kernel, by decide +kernel⟩
theorem ok_is_list {f : Addr} {fd : FuncData} (F : Fun K "is_list" "is_list" s_is_list f fd) (T : Blt mg) : FnOk P w K mg base CX0 1 f fd ["value"] (spIsList K) := by
  refine F.ok sc_is_list (fun vs H Q E h => ?_) (fun cdv A outer s H vs Q E hr h => ?_)
  · obtain ⟨x, b, rfl, _⟩ := h
    rfl
  · obtain ⟨x, b, rfl, hL, k⟩ := h
    refine ⟨_, (pss_one (ps_ret (pe_callB call_isiT (by rfl) T.n_isinstance (by decide +kernel) (pa_cons (pv 0) (pa_cons (pe_tup (pa_cons (pe_bltn (v := .ty "list") (by rfl) T.n_list (by decide +kernel) rfl) (pa_cons (pe_bltn (v := .ty "tuple") (by rfl) T.n_tuple (by decide +kernel) rfl) pa_nil))) pa_nil))))), ?_⟩
    refine ⟨_, rfl, (by show 2 ≤ sizeLine; decide), fun t ht => ?_⟩
    have S := same_new (o := .tup [.ty "list", .ty "tuple"]) ht
    obtain ⟨ty, hty, hk⟩ := isL_any (hL _ S)
    exact ⟨_, t, _, ty, _, b, rfl, upd_same, .cons (.ty _) (.cons (.ty _) .nil), hty, hk, k _ S⟩
end
/-- a value that is no list or tuple of unlike numbers within bounds, or one -/
def NoLot (K : PySem.W.Frag) (H : Hp) (x : V) (lo hi : Option Int) : Prop := EvL K H x false ∨
  ∃ (a : Addr) (xs : List V) (bs : List Bool), x = .ref a ∧ (SqL K H a xs ∨ SqT K H a xs) ∧ xs.length ≤ 1050 ∧ EvL K H x true ∧ bs.length = xs.length ∧
    (∀ (i : Nat) (v : V) (b : Bool), xs[i]? = some v → bs[i]? = some b → ∃ c, EvI K H v c ∧ b = (c && inB lo hi v)) ∧ (bs.all id = true → ∃ ns : List Int, xs = ns.map V.int ∧ ¬ ns.Nodup)
def IsLot (K : PySem.W.Frag) (H : Hp) (x : V) (lo hi : Option Int) (ns : List Int) : Prop := ∃ a : Addr, x = .ref a ∧ (SqL K H a (ns.map V.int) ∨ SqT K H a (ns.map V.int)) ∧ ns.length ≤ 1050 ∧ EvL K H x true ∧ (∀ n ∈ ns, inB lo hi (.int n) = true) ∧ ns.Nodup
def spUnlike (K : PySem.W.Frag) : Sp := fun vs H Q _ => ∃ (x : V) (lo hi : Option Int), vs = [x, oV lo, oV hi] ∧
  ((NoLot K H x lo hi ∧ ∀ H', Same H H' → Q (.bl false) H') ∨ (∃ ns, IsLot K H x lo hi ns ∧ ∀ H', Same H H' → Q (.bl true) H'))
section
variable {P : Program} {w : World} {K : PySem.W.Frag} {mg : Str → Option Value} {base : Heap}
theorem sc_are_unlike : FnScope ["value", "least", "most", "item"] ["value", "least", "most"] (defScope s_are_unlike) := ⟨rfl, rfl, rfl, by decide +kernel, rfl, by decide +kernel, by decide +kernel⟩
abbrev N_are_unlike : List Str := ["value", "least", "most", "item"]
theorem ok_are_unlike {f f1 f2 f3 : Addr} {fd fd1 fd2 fd3 : FuncData} (F : Fun K "are_unlike" "are_unlike" s_are_unlike f fd) (T : Blt mg) (D_is_list : Df K mg "is_list" s_is_list ["value"] f1 fd1) (D_is_within : Df K mg "is_within" s_is_within ["value", "least", "most"] f2 fd2) (D_is_integer : Df K mg "is_integer" s_is_integer ["value"] f3 fd3) :
    FnOk P w K mg base CX0 4 f fd ["value", "least", "most"] (spUnlike K) := by
  have G_is_list : FnOk P w K mg base CX0 1 f1 fd1 ["value"] (spIsList K) := ok_is_list D_is_list.F T
  have G_is_within : FnOk P w K mg base CX0 2 f2 fd2 ["value", "least", "most"] (spWithin K) := ok_is_within D_is_within.F D_is_integer T
  refine F.ok sc_are_unlike (fun vs H Q E h => ?_) (fun cdv A outer s H vs Q E hr h => ?_)
  · obtain ⟨x, lo, hi, rfl, _⟩ := h
    rfl
  · obtain ⟨x, lo, hi, rfl, h⟩ := h
    refine ⟨_, (pss_cons (ps_if (pt_not (pt_val (pe_call G_is_list (hr.mono (by decide)) (by rfl) D_is_list.g D_is_list.F.kp D_is_list.b .nil pass0 (pa_cons (pv 0) pa_nil)))) (pss_one (ps_ret pe_bl)) pss_nil)
  (pss_one (ps_ret (pe_and (pe_callB (cr_all rfl) (by rfl) T.n_all (by decide +kernel) (pa_cons (pe_lc (own := [("item", 3)]) (g := (gName 3)) (tt := tYes) rfl sc_are_unlike.nd (pi_seqA (pv 0)) (blkOk_by (N := N_are_unlike) (own := [("item", 3)]) (sc := defScope s_are_unlike) (by decide +kernel)) (fun _ _ _ _ _ => (pg_name (i := 3) sc_are_unlike.nd rfl (Or.inl rfl))) (fun _ _ _ _ _ => pts_nil) (fun _ _ _ _ _ => (pe_call G_is_within (hr.mono (by decide)) (by rfl) D_is_within.g D_is_within.F.kp D_is_within.b .nil pass0 (pa_cons (pv 3) (pa_cons (pv 1) (pa_cons (pv 2) pa_nil)))))) pa_nil)) (pe_one (pe_cmpR op_eq (pe_lenSet2 (by rfl) T.n_len (by rfl) T.n_set (pv 0)) (pe_callB call_len_seq (by rfl) T.n_len (by decide +kernel) (pa_cons (pv 0) pa_nil)) (nomark _))))))), ?_⟩
    have h2 : (EvL K H x false ∧ ∀ H', Same H H' → Q (.bl false) H') ∨ ∃ (a : Addr) (xs : List V) (bs : List Bool), x = .ref a ∧ (SqL K H a xs ∨ SqT K H a xs) ∧ xs.length ≤ 1050 ∧ EvL K H x true ∧ bs.length = xs.length ∧
        (∀ (i : Nat) (v : V) (b : Bool), xs[i]? = some v → bs[i]? = some b → ∃ c, EvI K H v c ∧ b = (c && inB lo hi v)) ∧ (∀ H', Same H H' → (bs.all id = false → Q (.bl false) H') ∧ (bs.all id = true → ∃ ns : List Int, xs = ns.map V.int ∧ Q (.bl (decide ns.Nodup)) H')) := by
      rcases h with ⟨hn | ⟨a, xs, bs, e1, e2, e3, e4, e5, e6, e7⟩, q⟩ | ⟨ns, ⟨a, e1, e2, e3, e4, e5, e6⟩, q⟩
      · exact .inl ⟨hn, q⟩
      · refine .inr ⟨a, xs, bs, e1, e2, e3, e4, e5, e6, fun H' S => ⟨fun _ => q H' S, fun c => ?_⟩⟩
        obtain ⟨ns, e, nd⟩ := e7 c
        refine ⟨ns, e, ?_⟩
        rw [decide_eq_false nd]
        exact q H' S
      · refine .inr ⟨a, ns.map V.int, ns.map fun _ => true, e1, e2, by rw [List.length_map]; exact e3, e4, by rw [List.length_map, List.length_map], fun i v b hv hb => ?_, fun H' S => ⟨fun c => ?_, fun _ => ⟨ns, rfl, ?_⟩⟩⟩
        · rw [List.getElem?_map] at hv hb
          cases e : ns[i]? with
          | none => rw [e] at hv; cases hv
          | some n =>
            rw [e] at hv hb
            cases hv
            cases hb
            exact ⟨true, fun H' _ => isI_int n, by rw [e5 n (List.mem_of_getElem? e)]; rfl⟩
        · rw [show (ns.map fun _ => true).all id = true by simp] at c
          cases c
        · rw [decide_eq_true e6]
          exact q H' S
    rcases h2 with ⟨hL, q⟩ | ⟨a, xs, bs, rfl, hq, hlen, hL, hbl, hb, k⟩
    · exact ⟨_, rfl, x, false, rfl, hL, fun H1 S1 => ⟨_, rfl, q H1 S1⟩⟩
    refine ⟨_, rfl, _, true, rfl, hL, fun H1 S1 => ⟨_, rfl, ?_⟩⟩
    have hq1 : SqL K H1 a xs ∨ SqT K H1 a xs := hq.elim (fun z => .inl (sqL_same z S1)) fun z => .inr (sqT_same z S1)
    refine ⟨_, rfl, a, rfl, lc_seqA hq1 (fun D i H' => Same H1 H' ∧ H' D = some (.lst ((bs.take i).map V.bl))) (fun D hD => ⟨same_new hD, upd_same⟩) (fun D i H' _ _ p => p.1) ?_ ?_⟩
    · rintro D i v H' hD hx ⟨S2, hl⟩
      have hib : i < bs.length := by
        rw [hbl]
        exact (List.getElem?_eq_some_iff.mp hx).1
      obtain ⟨c, hI, ec⟩ := hb i v bs[i] hx (List.getElem?_eq_getElem hib)
      refine ⟨rfl, _, rfl, _, rfl, _, rfl, v, lo, hi, c, rfl, hI _ (S1.trans S2), _, hl, ?_, ?_, ?_⟩
      · rw [List.length_map, List.length_take]
        rw [sizeLine_eq]; omega
      · intro q o e
        rw [upd_ne (ne_of_none e hD)]
        exact S2 q o e
      · rw [upd_same, ← ec, List.take_add_one, List.getElem?_eq_getElem hib, List.map_append]
        rfl
    · rintro D H2 hD ⟨S2, hl⟩
      rw [← hbl, List.take_length] at hl
      refine ⟨D, bs, rfl, SqL.of hl, _, rfl, ?_⟩
      obtain ⟨kf, kt⟩ := k H2 (S1.trans S2)
      refine iteB (fun c => ?_) (fun c => kf c)
      obtain ⟨ns, ens, q⟩ := kt c
      subst ens
      have hq2 : SqL K H2 a (ns.map V.int) ∨ SqT K H2 a (ns.map V.int) := hq1.elim (fun z => .inl (sqL_same z S2)) fun z => .inr (sqT_same z S2)
      rw [List.length_map] at hlen
      refine ⟨_, rfl, a, ns, rfl, hq2, by omega, fun c hc hcn => ⟨_, rfl, a, _, rfl, hq2, rfl, ?_⟩⟩
      have e : decide (V.int (c : Int) = V.int (((ns.map V.int).length : Nat) : Int)) = decide ns.Nodup := by
        rw [List.length_map]
        by_cases z : ns.Nodup
        · rw [hcn.mpr z, decide_eq_true z]
          simp
        · rw [decide_eq_false z]
          refine decide_eq_false fun y => z (hcn.mp ?_)
          have y := V.int.inj y
          omega
      rw [e]
      exact q
end
end K46
/-! A lambda's reading grows with what is wanted: sums of ints, calls within, max of a list. -/
namespace OB
open PySem PySem.Spec PyProof.Rows L2 LamX
theorem mte_i0 {op : Int → Int → V} {a b : TE} (ha : MTE a) (hb : MTE b) : MTE (tOp (rI0 op) a b) := fun σ H Q1 Q2 h z =>
  ha σ H _ _ (fun x H1 z1 => hb σ H1 _ _ (fun y H2 ⟨i, j, e1, e2, q⟩ => ⟨i, j, e1, e2, h _ _ q⟩) z1) z
def SpMonoQ (sp : Sp) : Prop := ∀ vs H (Q1 Q2 : VK), (∀ v H, Q1 v H → Q2 v H) → sp vs H Q1 E0 → sp vs H Q2 E0
theorem mte_call {sp : Sp} {t : TA} (hs : SpMonoQ sp) (ht : MTA t) : MTE (tCall sp [] E0 t) := fun σ H Q1 Q2 h z => ht σ H _ _ (fun vs H1 z1 => hs _ _ _ _ h z1) z
def RMono (r : List V → Hp → VK → Prop) : Prop := ∀ vs H (Q1 Q2 : VK), (∀ v H, Q1 v H → Q2 v H) → r vs H Q1 → r vs H Q2
theorem mte_cb {r : List V → Hp → VK → Prop} {t : TA} (hr : RMono r) (ht : MTA t) : MTE (tCB r t) := fun σ H Q1 Q2 h z => ht σ H _ _ (fun vs H1 z1 => hr _ _ _ _ h z1) z
theorem mono_Max {K : PySem.W.Frag} : RMono (rMax K) := fun vs H Q1 Q2 h ⟨a, ns, e, hl, h0, k⟩ => ⟨a, ns, e, hl, h0, fun m hm hy => h _ _ (k m hm hy)⟩
theorem mono_Min {K : PySem.W.Frag} : RMono (rMin K) := fun vs H Q1 Q2 h ⟨a, ns, e, hl, h0, k⟩ => ⟨a, ns, e, hl, h0, fun m hm hy => h _ _ (k m hm hy)⟩
def R2Mono (r : R2) : Prop := ∀ x y H (Q1 Q2 : VK), (∀ v H, Q1 v H → Q2 v H) → r x y H Q1 → r x y H Q2
theorem mte_op {r : R2} {a b : TE} (hr : R2Mono r) (ha : MTE a) (hb : MTE b) : MTE (tOp r a b) := fun σ H Q1 Q2 h z =>
  ha σ H _ _ (fun x H1 z1 => hb σ H1 _ _ (fun y H2 z2 => hr _ _ _ _ _ h z2) z1) z
theorem mono_Rep : R2Mono rRep := fun x y H Q1 Q2 h ⟨l, k, xs, e1, e2, a, b, c, d, q⟩ => ⟨l, k, xs, e1, e2, a, b, c, d, fun p hp => h _ _ (q p hp)⟩
theorem mono_Cat : R2Mono rCat := fun x y H Q1 Q2 h ⟨l, k, xs, zs, e1, e2, a, b, c, q⟩ => ⟨l, k, xs, zs, e1, e2, a, b, c, fun p hp => h _ _ (q p hp)⟩
theorem mte_make {C : Addr} {sp : Sp} {t : TA} (hs : SpMonoQ sp) (ht : MTA t) : MTE (tMake C sp [] E0 t) := fun σ H Q1 Q2 h z =>
  ht σ H _ _ (fun vs H1 z1 x dx a b c => hs _ _ _ _ (fun v H2 w => ⟨w.1, h _ _ w.2⟩) (z1 x dx a b c)) z
end OB
/-! Operations on naturals, told as naturals. -/
namespace OB
open PySem PySem.Spec PyProof.Rows L2
/-- below a great power: hidden from omega -/
def W30 (a : Nat) : Prop := a < 2 ^ 30000
def rNat2 (C : Nat → Nat → Prop) (g : Nat → Nat → Nat) : R2 := fun x y H Q => ∀ P : Prop, (∀ a b : Nat, x = .int (a : Int) → y = .int (b : Int) → C a b → Q (.int ((g a b : Nat) : Int)) H → P) → P
theorem st_n {C : Nat → Nat → Prop} {g : Nat → Nat → Nat} {x y : V} {a b r : Nat} {H : Hp} {Q : VK} (ex : x = .int (a : Int)) (ey : y = .int (b : Int)) (hc : C a b) (er : g a b = r) (k : Q (.int (r : Int)) H) : rNat2 C g x y H Q := by
  subst er
  exact fun P h => h a b ex ey hc k
theorem bits_le {a k : Nat} (h : a < 2 ^ k) : Builtin.Int.intBits (a : Int) ≤ k + 1 := by
  unfold Builtin.Int.intBits
  by_cases z : a = 0
  · subst z; simp
  · have := (Nat.log2_lt z).mpr h
    simp
    first
      | omega
      | (split <;> omega)
theorem rNat2.ex {C : Nat → Nat → Prop} {g : Nat → Nat → Nat} {x y : V} {H : Hp} {Q : VK} (h : rNat2 C g x y H Q) : ∃ a b : Nat, x = .int (a : Int) ∧ y = .int (b : Int) ∧ C a b ∧ Q (.int ((g a b : Nat) : Int)) H :=
  h _ fun a b e1 e2 c q => ⟨a, b, e1, e2, c, q⟩
/-- a constant, told as a natural -/
theorem pe_intN {X : Cx} {j : Nat} {pos : Pos} (n : Nat) : PE X (.Constant (.int ((n : Nat) : Int)) j pos) (tC (.int ((n : Nat) : Int))) := pe_int
abbrev CT (_ _ : Nat) : Prop := True
section
variable {X : Cx}
theorem nop_add : OpR X (binaryOp .Add) (rNat2 CT fun a b => a + b) := by
  intro pins s σ H x y v u Q I rx ry h
  obtain ⟨a, b, e1, e2, _, q⟩ := h.ex
  exact op_add pins s σ H x y v u Q I rx ry ⟨_, _, e1, e2, by show Q (V.int ((a : Int) + b)) H; rw [← Int.natCast_add]; exact q⟩
theorem nop_sub : OpR X (binaryOp .Sub) (rNat2 (fun a b => b ≤ a) fun a b => a - b) := by
  intro pins s σ H x y v u Q I rx ry h
  obtain ⟨a, b, e1, e2, h, q⟩ := h.ex
  exact op_sub pins s σ H x y v u Q I rx ry ⟨_, _, e1, e2, by show Q (V.int ((a : Int) - b)) H; rw [← Int.ofNat_sub h]; exact q⟩
theorem nop_mul : OpR X (binaryOp .Mult) (rNat2 (fun a b => a < 2 ^ 63 ∨ b < 2 ^ 63) fun a b => a * b) := by
  intro pins s σ H x y v u Q I rx ry h
  obtain ⟨a, b, e1, e2, h, q⟩ := h.ex
  refine op_mul pins s σ H x y v u Q I rx ry ⟨_, _, e1, e2, ?_, by show Q (V.int ((a : Int) * b)) H; rw [← Int.natCast_mul]; exact q⟩
  rcases h with h | h
  · exact .inl ⟨by omega, by omega⟩
  · exact .inr ⟨by omega, by omega⟩
theorem nop_mod : OpR X (binaryOp .Mod) (rNat2 (fun _ b => 0 < b) fun a b => a % b) := by
  intro pins s σ H x y v u Q I rx ry h
  obtain ⟨a, b, e1, e2, h, q⟩ := h.ex
  exact op_mod pins s σ H x y v u Q I rx ry ⟨_, _, e1, e2, by show (0 : Int) < _; omega, by show Q (V.int ((a : Int) % b)) H; rw [← Int.natCast_emod]; exact q⟩
theorem nop_fdiv : OpR X (binaryOp .FloorDiv) (rNat2 (fun _ b => 0 < b ∧ b < 1073741824) fun a b => a / b) := by
  intro pins s σ H x y v u Q I rx ry h
  obtain ⟨a, b, e1, e2, h, q⟩ := h.ex
  exact op_fdiv pins s σ H x y v u Q I rx ry ⟨_, _, e1, e2, ⟨by show (0 : Int) < _; omega, by show (b : Int) < _; omega⟩, by show Q (V.int ((a : Int) / b)) H; rw [← Int.natCast_ediv]; exact q⟩
theorem nop_shr : OpR X (binaryOp .RShift) (rNat2 CT fun a b => a / 2 ^ b) := by
  intro pins s σ H x y v u Q I rx ry h
  obtain ⟨a, b, e1, e2, _, q⟩ := h.ex
  refine op_shrN pins s σ H x y v u Q I rx ry ⟨_, _, e1, e2, ?_⟩
  rw [show (a : Int) / 2 ^ b = ((a / 2 ^ b : Nat) : Int) by rw [Int.natCast_ediv, Int.natCast_pow]; rfl]
  exact q
theorem nop_shl : OpR X (binaryOp .LShift) (rNat2 (fun a b => W30 a ∧ b ≤ 30000) fun a b => a * 2 ^ b) := by
  intro pins s σ H x y v u Q I rx ry h
  obtain ⟨a, b, e1, e2, h, q⟩ := h.ex
  refine op_shlN pins s σ H x y v u Q I rx ry ⟨_, _, e1, e2, ⟨Int.natCast_nonneg _, ?_⟩, ?_⟩
  · have := bits_le h.1
    have h2 := h.2
    show (Builtin.Int.intBits (a : Int) : Int) + (b : Int) ≤ 2 ^ 27
    rw [show (2 : Int) ^ 27 = 134217728 by decide]
    omega
  · rw [show (a : Int) * 2 ^ b = ((a * 2 ^ b : Nat) : Int) by rw [Int.natCast_mul, Int.natCast_pow]; rfl]
    exact q
theorem nop_and : OpR X (binaryOp .BitAnd) (rNat2 CT fun a b => a &&& b) := by
  intro pins s σ H x y v u Q I rx ry h
  obtain ⟨a, b, e1, e2, _, q⟩ := h.ex
  refine op_and pins s σ H x y v u Q I rx ry ⟨_, _, e1, e2, ?_⟩
  show Q (V.int (Builtin.bitAnd (a : Int) b)) H
  rw [bitAnd_pp (Int.natCast_nonneg _) (Int.natCast_nonneg _), Int.toNat_natCast, Int.toNat_natCast]
  exact q
theorem nop_xor : OpR X (binaryOp .BitXor) (rNat2 CT fun a b => a ^^^ b) := by
  intro pins s σ H x y v u Q I rx ry h
  obtain ⟨a, b, e1, e2, _, q⟩ := h.ex
  refine op_xor pins s σ H x y v u Q I rx ry ⟨_, _, e1, e2, ?_⟩
  show Q (V.int (Builtin.bitXor (a : Int) b)) H
  rw [Bits.bitXor_pp (Int.natCast_nonneg _) (Int.natCast_nonneg _), Int.toNat_natCast, Int.toNat_natCast]
  exact q
theorem nop_or : OpR X (binaryOp .BitOr) (rNat2 CT fun a b => a ||| b) := by
  intro pins s σ H x y v u Q I rx ry h
  obtain ⟨a, b, e1, e2, _, q⟩ := h.ex
  refine op_or pins s σ H x y v u Q I rx ry ⟨_, _, e1, e2, ?_⟩
  show Q (V.int (Builtin.bitOr (a : Int) b)) H
  rw [Bits.bitOr_pp (Int.natCast_nonneg _) (Int.natCast_nonneg _), Int.toNat_natCast, Int.toNat_natCast]
  exact q
end
theorem W30.of {a k : Nat} (h : a < 2 ^ k) (hk : k ≤ 30000) : W30 a := Nat.lt_of_lt_of_le h (Nat.pow_le_pow_right (by decide) hk)
theorem W30.le {a b : Nat} (h : W30 b) (hk : a ≤ b) : W30 a := Nat.lt_of_le_of_lt hk h
theorem W30.one : W30 1 := .of (k := 1) (by decide) (by decide)
/-- 1 << k, by a name -/
def rOneR : R2 := fun x y H Q => ∃ k : Nat, x = .int 1 ∧ y = .int (k : Int) ∧ k ≤ 1000000 ∧ Q (.int ((2 ^ k : Nat) : Int)) H
theorem mono_one : R2Mono rOneR := fun x y H Q1 Q2 h ⟨k, a, b, c, q⟩ => ⟨k, a, b, c, h _ _ q⟩
theorem mono_nat {C : Nat → Nat → Prop} {g : Nat → Nat → Nat} : R2Mono (rNat2 C g) := fun x y H Q1 Q2 h z P k => z P fun a b e1 e2 c q => k a b e1 e2 c (h _ _ q)
theorem and_mask (a k : Nat) : a &&& (2 ^ k - 1) = a % 2 ^ k := Nat.and_two_pow_sub_one_eq_mod a k
theorem and_1 (a : Nat) : a &&& 1 = a % 2 := Nat.and_one_is_mod a
end OB
namespace K46
open PySem PySem.Spec PyProof.Rows L2 OB SkE LamX
theorem EvL.same {K : PySem.W.Frag} {H H' : Hp} {x : V} {b : Bool} (h : EvL K H x b) (S : Same H H') : EvL K H' x b := fun H2 S2 => h H2 (S.trans S2)
theorem EvI.same {K : PySem.W.Frag} {H H' : Hp} {x : V} {b : Bool} (h : EvI K H x b) (S : Same H H') : EvI K H' x b := fun H2 S2 => h H2 (S.trans S2)
theorem NoLot.same {K : PySem.W.Frag} {H H' : Hp} {y : V} {lo hi : Option Int} (h : NoLot K H y lo hi) (S : Same H H') : NoLot K H' y lo hi := by
  rcases h with h | ⟨a, xs, bs, e1, e2, e3, e4, e5, e6, e7⟩
  · exact .inl (h.same S)
  · refine .inr ⟨a, xs, bs, e1, e2.imp (fun z => sqL_same z S) (fun z => sqT_same z S), e3, e4.same S, e5, fun i v b h1 h2 => ?_, e7⟩
    obtain ⟨c', h3, h4⟩ := e6 i v b h1 h2
    exact ⟨c', h3.same S, h4⟩
theorem IsLot.same {K : PySem.W.Frag} {H H' : Hp} {y : V} {lo hi : Option Int} {ns : List Int} (h : IsLot K H y lo hi ns) (S : Same H H') : IsLot K H' y lo hi ns := by
  obtain ⟨a, e1, e2, e3, e4, e5⟩ := h
  exact ⟨a, e1, e2.imp (fun z => sqL_same z S) (fun z => sqT_same z S), e3, e4.same S, e5⟩
def rLenQ (K : PySem.W.Frag) : List V → Hp → VK → Prop := fun xs H Q => ∃ p ys, xs = [.ref p] ∧ (SqL K H p ys ∨ SqT K H p ys) ∧ Q (.int ys.length) H
abbrev b20 : Option Int := some 20000
/-- is it a phase? -/
def PhB (K : PySem.W.Frag) (H : Hp) (y : V) (b : Bool) : Prop := (NoLot K H y (some 0) b20 ∧ b = false) ∨ ∃ ns, IsLot K H y (some 0) b20 ns ∧ b = decide (ns ≠ [])
theorem PhB.same {K : PySem.W.Frag} {H H' : Hp} {y : V} {b : Bool} (h : PhB K H y b) (S : Same H H') : PhB K H' y b :=
  h.elim (fun ⟨z, e⟩ => .inl ⟨z.same S, e⟩) fun ⟨ns, z, e⟩ => .inr ⟨ns, z.same S, e⟩
def spIsLot (K : PySem.W.Frag) : Sp := fun vs H Q _ => ∃ x : V, vs = [x] ∧ ((NoLot K H x (some 0) b20 ∧ ∀ H', Same H H' → Q (.bl false) H') ∨ (∃ ns, IsLot K H x (some 0) b20 ns ∧ ∀ H', Same H H' → Q (.bl true) H'))
/-- are they phases? -/
def Phs (K : PySem.W.Frag) (H : Hp) (x : V) (b : Bool) : Prop := (EvL K H x false ∧ b = false) ∨ ∃ (a : Addr) (xs : List V) (bs : List Bool), x = .ref a ∧ (SqL K H a xs ∨ SqT K H a xs) ∧ xs.length ≤ 1050 ∧ EvL K H x true ∧ bs.length = xs.length ∧
  (∀ (i : Nat) (v : V) (b : Bool), xs[i]? = some v → bs[i]? = some b → PhB K H v b) ∧ b = bs.all id
def spIsPhases (K : PySem.W.Frag) : Sp := fun vs H Q _ => ∃ (x : V) (b : Bool), vs = [x] ∧ Phs K H x b ∧ ∀ H', Same H H' → Q (.bl b) H'
section
variable {P : Program} {w : World} {K : PySem.W.Frag} {mg : Str → Option Value} {base : Heap}
theorem sc_is_lot : FnScope ["value"] ["value"] (defScope s_is_lot) := ⟨rfl, rfl, rfl, by decide +kernel, rfl, by decide +kernel, by decide +kernel⟩
abbrev N_is_lot : List Str := ["value"]
theorem ok_is_lot {f f1 f2 f3 f4 : Addr} {fd fd1 fd2 fd3 fd4 : FuncData} (F : Fun K "is_lot" "is_lot" s_is_lot f fd) (T : Blt mg) (D_are_unlike : Df K mg "are_unlike" s_are_unlike ["value", "least", "most"] f1 fd1) (D_is_list : Df K mg "is_list" s_is_list ["value"] f2 fd2) (D_is_within : Df K mg "is_within" s_is_within ["value", "least", "most"] f3 fd3) (D_is_integer : Df K mg "is_integer" s_is_integer ["value"] f4 fd4) : FnOk P w K mg base CX0 5 f fd ["value"] (spIsLot K) := by
  have G_are_unlike : FnOk P w K mg base CX0 4 f1 fd1 ["value", "least", "most"] (spUnlike K) := ok_are_unlike D_are_unlike.F T D_is_list D_is_within D_is_integer
  obtain ⟨t4, g4⟩ := T.g_MOST_BIT
  refine F.ok sc_is_lot (fun vs H Q E h => ?_) (fun cdv A outer s H vs Q E hr h => ?_)
  · obtain ⟨x, rfl, _⟩ := h
    rfl
  · obtain ⟨x, rfl, h⟩ := h
    refine ⟨_, (pss_one (ps_ret (pe_call G_are_unlike (hr.mono (by decide)) (by rfl) D_are_unlike.g D_are_unlike.F.kp D_are_unlike.b .nil pass0 (pa_cons (pv 0) (pa_cons pe_int (pa_cons (pe_glob (v := .int 20000) rfl T.g_MOST_BIT.choose_spec ⟨_, rfl⟩) pa_nil)))))), ?_⟩
    rcases h with ⟨h, k⟩ | ⟨ns, h, k⟩
    · exact ⟨_, rfl, x, some 0, b20, rfl, .inl ⟨h, k⟩⟩
    · exact ⟨_, rfl, x, some 0, b20, rfl, .inr ⟨ns, h, k⟩⟩
theorem sc_is_phases : FnScope ["value", "phase"] ["value"] (defScope s_is_phases) := ⟨rfl, rfl, rfl, by decide +kernel, rfl, by decide +kernel, by decide +kernel⟩
abbrev N_is_phases : List Str := ["value", "phase"]
theorem ok_is_phases {f f1 f2 f3 f4 f5 : Addr} {fd fd1 fd2 fd3 fd4 fd5 : FuncData} (F : Fun K "is_phases" "is_phases" s_is_phases f fd) (T : Blt mg) (D_is_lot : Df K mg "is_lot" s_is_lot ["value"] f5 fd5) (D_are_unlike : Df K mg "are_unlike" s_are_unlike ["value", "least", "most"] f1 fd1) (D_is_list : Df K mg "is_list" s_is_list ["value"] f2 fd2) (D_is_within : Df K mg "is_within" s_is_within ["value", "least", "most"] f3 fd3) (D_is_integer : Df K mg "is_integer" s_is_integer ["value"] f4 fd4) : FnOk P w K mg base CX0 6 f fd ["value"] (spIsPhases K) := by
  have G_is_list : FnOk P w K mg base CX0 1 f2 fd2 ["value"] (spIsList K) := ok_is_list D_is_list.F T
  have G_is_lot : FnOk P w K mg base CX0 5 f5 fd5 ["value"] (spIsLot K) := ok_is_lot D_is_lot.F T D_are_unlike D_is_list D_is_within D_is_integer
  refine F.ok sc_is_phases (fun vs H Q E h => ?_) (fun cdv A outer s H vs Q E hr h => ?_)
  · obtain ⟨x, b, rfl, _⟩ := h
    rfl
  · obtain ⟨x, b, rfl, h, k⟩ := h
    refine ⟨_, (pss_one (ps_ret (pe_and (pe_call G_is_list (hr.mono (by decide)) (by rfl) D_is_list.g D_is_list.F.kp D_is_list.b .nil pass0 (pa_cons (pv 0) pa_nil)) (pe_one (pe_callB (cr_all rfl) (by rfl) T.n_all (by decide +kernel) (pa_cons (pe_lc (own := [("phase", 1)]) (g := (gName 1)) (tt := tYes) (te := tAndV (tCall (spIsLot K) [] E0 (tCons (tVar 1) tNil)) (tOp rGt (tCB (rLenQ K) (tCons (tVar 1) tNil)) (tC (.int 0)))) rfl sc_is_phases.nd (pi_seqA (pv 0)) (blkOk_by (N := N_is_phases) (own := [("phase", 1)]) (sc := defScope s_is_phases) (by decide +kernel)) (fun _ _ _ _ _ => (pg_name (i := 1) sc_is_phases.nd rfl (Or.inl rfl))) (fun _ _ _ _ _ => pts_nil) (fun _ _ _ _ _ => (pe_and (pe_call G_is_lot (hr.mono (by decide)) (by rfl) D_is_lot.g D_is_lot.F.kp D_is_lot.b .nil pass0 (pa_cons (pv 1) pa_nil)) (pe_one (pe_cmpR op_gt (pe_callB call_len_seq (by rfl) T.n_len (by decide +kernel) (pa_cons (pv 1) pa_nil)) pe_int (nomark _)))))) pa_nil)))))), ?_⟩
    rcases h with ⟨hL, rfl⟩ | ⟨a, xs, bs, rfl, hq, hlen, hL, hbl, hb, rfl⟩
    · exact ⟨_, rfl, x, false, rfl, hL, fun H1 S1 => ⟨_, rfl, k H1 S1⟩⟩
    refine ⟨_, rfl, _, true, rfl, hL, fun H1 S1 => ⟨_, rfl, ?_⟩⟩
    have hq1 : SqL K H1 a xs ∨ SqT K H1 a xs := hq.elim (fun z => .inl (sqL_same z S1)) fun z => .inr (sqT_same z S1)
    refine ⟨_, rfl, a, rfl, lc_seqA hq1 (fun D i H' => Same H1 H' ∧ H' D = some (.lst ((bs.take i).map V.bl))) (fun D hD => ⟨same_new hD, upd_same⟩) (fun D i H' _ _ p => p.1) ?_ ?_⟩
    · rintro D i v H' hD hx ⟨S2, hl⟩
      have hib : i < bs.length := by
        rw [hbl]
        exact (List.getElem?_eq_some_iff.mp hx).1
      have pb := (hb i v bs[i] hx (List.getElem?_eq_getElem hib)).same (S1.trans S2)
      refine ⟨rfl, ?_⟩
      have fin : ∀ (H'' : Hp) (b : Bool), Same H' H'' → b = bs[i] → ∃ acc, H'' D = some (.lst acc) ∧ acc.length < sizeLine ∧ (Same H1 (upd H'' D (.lst (acc ++ [V.bl b]))) ∧ upd H'' D (.lst (acc ++ [V.bl b])) D = some (.lst ((bs.take (i + 1)).map V.bl))) := fun H'' b S3 e => by
        refine ⟨_, S3 _ _ hl, ?_, fun q o z => ?_, ?_⟩
        · rw [List.length_map, List.length_take]
          rw [sizeLine_eq]; omega
        · rw [upd_ne (ne_of_none z hD)]
          exact S3 _ _ (S2 q o z)
        · rw [upd_same, e, List.take_add_one, List.getElem?_eq_getElem hib, List.map_append]
          rfl
      rcases pb with ⟨no, e⟩ | ⟨ns, il, e⟩
      · refine ⟨_, rfl, v, rfl, .inl ⟨no, fun H3 S3 => ⟨_, rfl, ?_⟩⟩⟩
        exact fin H3 false S3 e.symm
      · refine ⟨_, rfl, v, rfl, .inr ⟨ns, il, fun H3 S3 => ⟨_, rfl, ?_⟩⟩⟩
        obtain ⟨u, rfl, hu, _⟩ := il.same S3
        refine ⟨_, rfl, u, _, rfl, hu, _, _, rfl, rfl, ?_⟩
        refine fin H3 _ S3 ?_
        rw [e]
        refine decide_eq_decide.mpr ?_
        rw [List.length_map]
        constructor
        · intro z c
          rw [c] at z
          simp at z
        · intro z
          have := List.length_pos_iff.mpr z
          omega
    · rintro D H2 hD ⟨S2, hl⟩
      rw [← hbl, List.take_length] at hl
      exact ⟨D, bs, rfl, SqL.of hl, k H2 (S1.trans S2)⟩
end
end K46
namespace K46
open PySem PySem.Spec PyProof.Rows L2 OB SkE LamX
def spNeedPhases (K : PySem.W.Frag) (CP : Addr) : Sp := fun vs H Q E => ∃ (x : V) (z : Str) (b : Bool), vs = [x, .str z] ∧ Phs K H x b ∧ ∀ H', Same H H' → (b = true → Q .non H') ∧ (b = false → RaisesP CP z E H')
section
variable {P : Program} {w : World} {K : PySem.W.Frag} {mg : Str → Option Value} {base : Heap}
theorem sc_need_phases : FnScope ["value", "part"] ["value", "part"] (defScope s_need_phases) := ⟨rfl, rfl, rfl, by decide +kernel, rfl, by decide +kernel, by decide +kernel⟩
abbrev N_need_phases : List Str := ["value", "part"]
theorem ok_need_phases {f f1 f2 f3 f4 f5 f6 CP fP : Addr} {fd fd1 fd2 fd3 fd4 fd5 fd6 fdP : FuncData} (F : Fun K "need_phases" "need_phases" s_need_phases f fd) (T : Blt mg) (D_is_phases : Df K mg "is_phases" s_is_phases ["value"] f6 fd6) (D_is_lot : Df K mg "is_lot" s_is_lot ["value"] f5 fd5) (D_are_unlike : Df K mg "are_unlike" s_are_unlike ["value", "least", "most"] f1 fd1) (D_is_list : Df K mg "is_list" s_is_list ["value"] f2 fd2) (D_is_within : Df K mg "is_within" s_is_within ["value", "least", "most"] f3 fd3) (D_is_integer : Df K mg "is_integer" s_is_integer ["value"] f4 fd4) (R_BadPhases : Err P w K mg base "BadPhases" "part" CP fP fdP) : FnOk P w K mg base (L2.CX P w) 7 f fd ["value", "part"] (spNeedPhases K CP) := by
  have G_is_phases : FnOk P w K mg base CX0 6 f6 fd6 ["value"] (spIsPhases K) := ok_is_phases D_is_phases.F T D_is_lot D_are_unlike D_is_list D_is_within D_is_integer
  refine F.okX sc_need_phases (fun vs H Q E h => ?_) (fun cdv A outer s H vs Q E hr h => ?_)
  · obtain ⟨x, z, b, rfl, _⟩ := h
    rfl
  · obtain ⟨x, z, b, rfl, ph, k⟩ := h
    refine ⟨_, (pss_one (ps_if (pt_not (pt_val (pe_call G_is_phases (hr.mono (by decide)) (by rfl) D_is_phases.g D_is_phases.F.kp D_is_phases.b .nil pass0 (pa_cons (pv 0) pa_nil)))) (pss_one (ps_raise1 rfl (takes_of rfl rfl rfl rfl) R_BadPhases (hr.mono (by decide)) (by rfl) (pv 1))) pss_nil)), ?_⟩
    refine ⟨_, rfl, x, b, rfl, ph, fun H1 S1 => ⟨_, rfl, ?_⟩⟩
    obtain ⟨k1, k2⟩ := k H1 S1
    cases b with
    | true => exact iteF (k1 rfl)
    | false =>
      refine iteT ?_
      exact ⟨_, rfl, raise1_of (σ := []) (W := fun cls d _ H => E cls d H) R_BadPhases.T R_BadPhases.no (k2 rfl)⟩
end
end K46
/-! A set comprehension of ints; its length; a target that is a list or a tuple. -/
namespace OB
open PySem PySem.Spec PyProof.Rows L2
/-- the set of ints at D, as a row makes it: what a turn asks -/
def tSi (w : World) (wi : TI) (g : TG) (tt : TT) (te : TE) (vs : List Nat) : TE := fun σ H Q => wi σ H fun J H1 => ∀ D, H1 D = none → ∃ W : Nat → Nat → Hp → Prop, (∃ m, W 0 m (upd H1 D (SetO w D (fun _ => false) 0))) ∧ ∀ i m H, W i m H →
  (J.stop i H ∧ Q (.ref D) H) ∨ (J.go i H ∧ ∃ Nx : Hp → Prop, (∀ H', Nx H' → ∃ m', m' < m ∧ W (i + 1) m' H') ∧ ∀ x H', J.yld i H x H' → g x (wipe σ vs) H' fun σ2 H2 => wipe σ2 vs = wipe σ vs ∧ tt σ2 H2 fun b H3 =>
    if b = true then te σ2 H3 fun y H4 => rSAdd w (.ref D) [y] H4 fun _ H5 => Nx H5 else Nx H3)
section
variable {X : Cx}
theorem pe_si {elt tg iter : Expr} {ifs : List Expr} {scope : Scope} {own : List (PySem.Str × Nat)} {pos : Pos} {wi : TI} {g : TG} {tt : TT} {te : TE} (calm : X.calm = true) (nd : X.N.Nodup) (hi : PI X tg iter wi) (ok : BlkOk X.N X.env.scope scope own)
    (hg : ∀ (s : Shared) (H : Hp) (C : Addr) (cl : List (PySem.Str × Addr)) (fp : List Addr), PG (X.blk s H scope (compEnvC scope cl C X.env) fp) tg g)
    (ht : ∀ (s : Shared) (H : Hp) (C : Addr) (cl : List (PySem.Str × Addr)) (fp : List Addr), PTs (X.blk s H scope (compEnvC scope cl C X.env) fp) ifs tt)
    (he : ∀ (s : Shared) (H : Hp) (C : Addr) (cl : List (PySem.Str × Addr)) (fp : List Addr), PE (X.blk s H scope (compEnvC scope cl C X.env) fp) elt te)
    (hs : ∀ x, foldedSetIterable iter X.env x = pure x := by intro _; rfl) : PE X (.SetComp elt [⟨tg, iter, ifs, 0⟩] scope pos) (tSi X.w wi g tt te (own.map (·.2))) := by
  refine ⟨fun pins s σ H Q I h => ?_⟩
  rw [PpSet.eval_SetComp]
  have cells : ∀ y ∈ scope.names, y.2 = .free → ∃ c, X.env.cells.lookup y.1 = some c := fun y hy e => (ok.free y hy e).elim (fun k => I.ok.has _ (.inl k)) fun k => I.ok.has _ (.inr k)
  refine wpAny_comprehension_free (use := none) rfl hs (closure_ok cells) ok.kind (fun y hy e => by rw [ok.uniq y hy, e]) (thn (hi.run pins s σ H _ I h) fun _ _ hx => thn hx fun _ s2 h2 => ?_)
  obtain ⟨it, fp, tn, J, H2, rfl, I2, T, st2, f2, q⟩ := h2
  refine PpSet.newSet_ok (newEnv_comp ?_)
  obtain ⟨D, hD⟩ : ∃ D, s2.heap.objs.size = D := ⟨_, rfl⟩
  rw [hD]
  obtain ⟨W, ⟨m0, w0⟩, turn⟩ := q D (I2.hok.fresh (Nat.le_of_eq hD))
  -- the empty set, laid
  obtain ⟨s3, h3, I3⟩ : ∃ s3 : Shared, s3 = { s2 with heap := s2.heap.push { cls := .type "set", dict := none, data := .set #[] 0 (.fresh 0 0 (!X.w.params.followText "set-order")) } } ∧ Inv X pins σ (upd H2 D (SetO X.w D (fun _ => false) 0)) s3 := by
    refine ⟨_, rfl, I2.laid (t' := s2.toks) (fun b o e => Heap.get?_push_of_some _ e) (Nat.le_of_eq hD) ?_⟩
    rw [← hD]
    exact setO_new (setR_fresh X.w)
  rw [← h3]
  have push : ∀ b o, s2.heap.get? b = some o → s3.heap.get? b = some o := fun b o e => by rw [h3]; exact Heap.get?_push_of_some _ e
  have big : s3.heap.objs.size = D + 1 := by rw [h3, ← hD]; exact Heap.size_push ..
  clear h3
  obtain ⟨H3, e3⟩ : ∃ H3, upd H2 D (SetO X.w D (fun _ => false) 0) = H3 := ⟨_, rfl⟩
  have away : ∀ b ∈ fp, FpOk X pins H3 b ∧ b < s3.heap.objs.size := fun b hb => by
    obtain ⟨o, e, _⟩ := T.obj _ _ st2 b hb
    have lt : b < D := hD ▸ Heap.lt_size e
    refine ⟨⟨?_, (f2 b hb).2⟩, big ▸ Nat.lt_succ_of_lt lt⟩
    rw [← e3, upd_ne (Nat.ne_of_lt lt)]
    exact (f2 b hb).1
  rw [e3] at I3 w0
  clear e3
  have run0 := block_start I3 ok nd away
  obtain ⟨ce, hce⟩ : ∃ ce, compEnvC scope (cellsFrom (s3.heap.objs.size + 1) scope.names (cloFrom X.env.cells scope.names [])) s3.heap.objs.size X.env = ce := ⟨_, rfl⟩
  have pg := hg s3 H3 s3.heap.objs.size (cellsFrom (s3.heap.objs.size + 1) scope.names (cloFrom X.env.cells scope.names [])) fp
  have pt := ht s3 H3 s3.heap.objs.size (cellsFrom (s3.heap.objs.size + 1) scope.names (cloFrom X.env.cells scope.names [])) fp
  have pe := he s3 H3 s3.heap.objs.size (cellsFrom (s3.heap.objs.size + 1) scope.names (cloFrom X.env.cells scope.names [])) fp
  have cL : ce.locals = s3.heap.objs.size := by rw [← hce]; rfl
  obtain ⟨s4, h4⟩ : ∃ s4 : Shared, ({ s3 with heap := pushCells (s3.heap.push { cls := .type "dict", data := .dict #[] }) scope.names } : Shared) = s4 := ⟨_, rfl⟩
  show codeAny _ _ (.compStart (.SetComp elt [⟨tg, iter, ifs, 0⟩] scope pos) 0 (.ref it) (.ref D) (compEnvC scope (cellsFrom (s3.heap.objs.size + 1) scope.names (cloFrom X.env.cells scope.names [])) s3.heap.objs.size X.env)) _ { s3 with heap := pushCells (s3.heap.push { cls := .type "dict", data := .dict #[] }) scope.names }
  rw [hce] at run0 pg pt pe ⊢
  rw [h4] at run0 ⊢
  have st4 : tn 0 s4.heap := T.keep _ _ _ st2 fun b _ o e => by rw [← h4]; exact pushCells_keeps _ _ _ _ (Heap.get?_push_of_some _ (push b o e))
  have own' : ∀ {σ' : L2.St} {H' : Hp} {s' : Shared}, Inv (X.blk s3 H3 scope ce fp) [] σ' H' s' → (∀ b ∈ fp, H' b = none) → ∀ b ∈ fp, FpOk (X.blk s3 H3 scope ce fp) [] H' b := fun I' no b hb =>
    ⟨no b hb, (I'.ok.exf b hb).1, I'.ok.exfs b hb, .inl hb, (I'.ok.exf b hb).2, fun _ hp => nomatch hp⟩
  refine PpSet.codeAny_compStart_set ?_ (T.self X.A 0 _ _ _ st4 ?_)
  all_goals
    refine PpSet.compLoopS_any (fun n s' => ∃ i H', Inv (X.blk s3 H3 scope ce fp) [] (wipe σ (own.map (·.2))) H' s' ∧ tn i s'.heap ∧ (∀ b ∈ fp, H' b = none) ∧ W i n H') ?_ m0 ⟨0, H3, run0, st4, fun b hb => (away b hb).1.1, w0⟩
    rintro n s5 ⟨i, H5, I5, st5, no5, w5⟩
    rcases turn i n H5 w5 with ⟨stop, fin⟩ | ⟨go, Nx, less, step⟩
    · refine thnF (T.done (X.blk s3 H3 scope ce fp) rfl rfl rfl calm i [] s5 _ H5 (fun _ _ => False) I5 (own' I5 no5) st5 stop) fun _ s6 ⟨er, I6⟩ => ?_
      subst er
      have back : Inv X pins σ H5 s6 := I3.call' (ch := fp) I6.os I6.base I6.hok I6.bare fun b hb => ⟨(away b hb).1.2.2.2.1, (away b hb).1.2.1, (away b hb).1.2.2.2.2.1, (away b hb).1.2.2.2.2.2⟩
      have noC : H5 ce.locals = none := I6.free
      obtain ⟨m, ns, _⟩ := I6.loc
      have ns : s6.heap.Ns ce.locals m := ns
      rw [cL] at ns noC
      have fC : FpOk X pins H5 s3.heap.objs.size := I3.fpOk (Nat.le_refl _) noC
      refine ⟨m, ns, fun h' sb => ?_⟩
      obtain ⟨f0, f1, f3, f4, f5, f6⟩ := fC
      exact ⟨.ref D, H5, back.turned (t' := s6.toks) (fun b o hb e => (sb.2 b hb).trans e) f0 f1 f4 f5 f6, rfl, fin⟩
    · refine thnF (T.item (X.blk s3 H3 scope ce fp) rfl rfl rfl calm i [] s5 _ H5 (fun _ _ => False) I5 (own' I5 no5) st5 go) fun _ s6 ⟨u, er, h6⟩ => ?_
      subst er
      refine thnF h6 fun _ s7 ⟨x, H7, I7, r7, y7, st7, no7⟩ => ?_
      refine thnF (pg.run _ s7 _ H7 x u _ (I7.pinned (own' I7 no7) (T.obj _ _ st7)) r7 (step x H7 y7)) fun _ s8 ⟨σ8, H8, I8, wp, q8⟩ => ?_
      refine thnF (pt.run _ s8 σ8 H8 _ I8 q8) fun b s9 ⟨H9, I9, q9⟩ => ?_
      have next : ∀ {s' : Shared} {H' : Hp}, Inv (X.blk s3 H3 scope ce fp) ([] ++ pinsAt fp s7.heap) σ8 H' s' → Nx H' → ∃ m, m < n ∧ ∃ i H', Inv (X.blk s3 H3 scope ce fp) [] (wipe σ (own.map (·.2))) H' s' ∧ tn i s'.heap ∧ (∀ b ∈ fp, H' b = none) ∧ W i m H' := fun {s' H'} I' nx => by
        obtain ⟨m', lt, w'⟩ := less H' nx
        have still : ∀ b ∈ fp, ∀ o, s7.heap.get? b = some o → s'.heap.get? b = some o ∧ H' b = none := fun b hb o e => by
          have z := I'.pin (b, o) (List.mem_append_right _ (List.mem_append_right _ (mem_pinsAt hb e)))
          exact ⟨z.1, z.2.1⟩
        refine ⟨m', lt, i + 1, H', (I'.unpinned (pins := [])).weak (by rw [← wp, wipe_length]) (fun j v e => ?_), T.keep _ _ _ st7 fun b hb o e => (still b hb o e).1, fun b hb => ?_, w'⟩
        · rw [← wp] at e
          exact (wipe_some e).1
        · obtain ⟨o, e, _⟩ := T.obj _ _ st7 b hb
          exact (still b hb o e).2
      cases b with
      | false => exact next I9 q9
      | true =>
        refine thnF (pe.run _ s9 σ8 H9 _ I9 q9) fun z s10 ⟨yv, H10, I10, r10, nx⟩ => ?_
        exact thnF (wpAny_mono (mt_sadd (X := X.blk s3 H3 scope ce fp) _ s10 σ8 H10 (.ref D) [yv] (.ref D) [z] (fun _ H5 => Nx H5) I10 rfl (.cons r10 .nil) nx) (fun _ _ y => y) fun _ _ y => y) fun _ s11 ⟨_, H11, I11, _, nx⟩ => next I11 nx
theorem call_len_setO : CallR X (.builtin "len") (fun xs H Q => ∃ (a : Addr) (S : Int → Bool) (n : Nat), xs = [.ref a] ∧ H a = some (SetO X.w a S n) ∧ n ≤ 1100 ∧ Q (.int (n : Nat)) H) := by
  intro pins s σ H xs us Q I r h
  obtain ⟨a, S, n, rfl, ha, hn, q⟩ := h
  cases r with
  | cons r1 r2 =>
    cases r2
    cases r1
    obtain ⟨o, es, ep, t, ho, hex, hd, _, _, _, _, hf, en, _⟩ := setO_get I ha
    exact call_len_set ho hex hd hf (by omega) ⟨.int es.size, H, I.tok _, ⟨_, rfl⟩, by rw [en]; exact q⟩
/-- a target that is told in two ways -/
theorem pg_or {e : Expr} {g1 g2 : TG} (h1 : PG X e g1) (h2 : PG X e g2) : PG X e (fun v σ H Q => g1 v σ H Q ∨ g2 v σ H Q) := ⟨fun pins s σ H v u Q I r h => h.elim (h1.run pins s σ H v u Q I r) (h2.run pins s σ H v u Q I r)⟩
end
/-- the turns of such a row -/
theorem si_it {w : World} {J : It} {n : Nat} {G : Hp → Prop} {Y : Nat → Hp → V → Hp → Prop} (k : Walk J n G Y) {g : TG} {tt : TT} {te : TE} {vs : List Nat} {σ : L2.St} {H1 : Hp} {D : Addr} {Qd : Hp → Prop} (Pv : Nat → Hp → Prop) (h0 : Pv 0 (upd H1 D (SetO w D (fun _ => false) 0))) (hG : ∀ i H, i ≤ n → Pv i H → G H)
    (hs : ∀ i x H H', i < n → Pv i H → Y i H x H' → g x (wipe σ vs) H' fun σ2 H2 => wipe σ2 vs = wipe σ vs ∧ tt σ2 H2 fun b H3 => if b = true then te σ2 H3 fun y H4 => rSAdd w (.ref D) [y] H4 fun _ H5 => Pv (i + 1) H5 else Pv (i + 1) H3) (hd : ∀ H, Pv n H → Qd H) :
    ∃ W : Nat → Nat → Hp → Prop, (∃ m, W 0 m (upd H1 D (SetO w D (fun _ => false) 0))) ∧ ∀ i m H, W i m H →
      (J.stop i H ∧ Qd H) ∨ (J.go i H ∧ ∃ Nx : Hp → Prop, (∀ H', Nx H' → ∃ m', m' < m ∧ W (i + 1) m' H') ∧ ∀ x H', J.yld i H x H' → g x (wipe σ vs) H' fun σ2 H2 => wipe σ2 vs = wipe σ vs ∧ tt σ2 H2 fun b H3 =>
        if b = true then te σ2 H3 fun y H4 => rSAdd w (.ref D) [y] H4 fun _ H5 => Nx H5 else Nx H3) := by
  refine ⟨fun i m H => m = n - i ∧ i ≤ n ∧ Pv i H, ⟨n, rfl, Nat.zero_le _, h0⟩, ?_⟩
  rintro i m H ⟨rfl, hi, p⟩
  by_cases lt : i < n
  · exact .inr ⟨k.goes i H lt (hG i H hi p), Pv (i + 1), fun H' p' => ⟨n - (i + 1), by omega, rfl, lt, p'⟩, fun x H' y => hs i x H H' lt p (k.yields i H x H' lt (hG i H hi p) y)⟩
  · obtain rfl : i = n := by omega
    exact .inl ⟨k.stops H (hG _ H (Nat.le_refl _) p), hd H p⟩
end OB
/-! enumerate of a text, enumerate of a list from its end. -/
namespace OB
open PySem PySem.Spec PyProof.Rows L2
/-- enumerate(text): each sign in a new pair -/
def Ites (x : Str) : It :=
  ⟨fun i _ => i < x.cps.size, fun i H v H' => ∃ T c, v = .ref T ∧ H T = none ∧ x.cps[i]? = some c ∧ H' = upd H T (.tup [.int (i : Nat), .str ⟨#[c]⟩]), fun i _ => x.cps.size ≤ i⟩
theorem turn_enumS {P : Program} {w : World} {K : PySem.W.Frag} {elts : List Expr} {kk : Nat} {tpos : Pos} (x : Str) (t : Tok) (e it : Addr) :
    Turn P w K (.Tuple elts kk tpos) (Ites x) [e, it] e (fun i h => (∃ old, IsEnum h e it ((i : Nat) : Int) old) ∧ h.IsStrIter it (strIterType x) x t i ∧ e ≠ it ∧ i ≤ x.cps.size) where
  mem := by simp
  obj := fun i h st b hb => by
    obtain ⟨⟨old, he⟩, ⟨o, ho, hc, hd⟩, _⟩ := st
    have e' : b = e ∨ b = it := by simpa using hb
    rcases e' with z | z
    · rw [z]; exact ⟨_, he, fun v q => nomatch q⟩
    · rw [z]; exact ⟨o, ho, fun v q => by rw [hd] at q; cases q⟩
  keep := fun i h h' st k => let ⟨⟨old, he⟩, ⟨o, ho, r⟩, hne⟩ := st; ⟨⟨old, k e (by simp) _ he⟩, ⟨o, k it (by simp) o ho, r⟩, hne⟩
  item := by
    intro X hP hw hK hc i pins s σ H E I hf st hg
    subst hP hw hK
    obtain ⟨⟨old, he⟩, hit, hne, hle⟩ := st
    have hg : i < x.cps.size := hg
    have hel : e < s.heap.objs.size := Heap.lt_size he
    have hil : it < s.heap.objs.size := by obtain ⟨_, q, _⟩ := hit; exact Heap.lt_size q
    have D : Draws X.prog X.w X.A.in1 it [it] x.cps.size (fun i v => ∃ c u, x.cps[i]? = some c ∧ v = .str ⟨#[c]⟩ u) (fun i h => h.IsStrIter it (strIterType x) x t i) := by
      unfold strIterType
      split
      · exact Draws.strAscii (A := X.A.in1) (I.ok.hd hc) it x t
      · exact Draws.strWide (A := X.A.in1) (I.ok.hd hc) it x t
    refine wpAny_pyNext_enum_itemD D he hit hg hne (by simpa using hne) fun v h' tk hv ho hit' hT hsz hk => ?_
    obtain ⟨c, u, hcx, rfl⟩ := hv
    refine ⟨_, rfl, wpAny_letOwnedTupleGo_enum (s := { s with heap := h', toks := tk + 1 }) ho fun h'' he' sb => ?_⟩
    have hT2 : h''.get? s.heap.objs.size = some { cls := .type "tuple", data := .seq #[.int i tk, .str ⟨#[c]⟩ u] } := (sb.2 _ (Nat.ne_of_gt hel)).trans hT
    have new : ObjOk X.prog X.w (upd H s.heap.objs.size (.tup [.int (i : Nat), .str ⟨#[c]⟩])) h'' s.heap.objs.size (.tup [.int (i : Nat), .str ⟨#[c]⟩]) :=
      ⟨by show 2 ≤ sizeLine; decide, [.int i tk, .str ⟨#[c]⟩ u], .cons ⟨_, rfl⟩ (.cons ⟨_, rfl⟩ .nil), ⟨_, hT2, rfl, _, rfl⟩⟩
    have I1 : Inv X pins σ (upd H s.heap.objs.size (.tup [.int (i : Nat), .str ⟨#[c]⟩])) { s with heap := h'', toks := tk + 1 } :=
      I.turnedNew (ch := [e, it]) (fun b ob hb q => (sb.2 b (fun z => hb (by simp [z]))).trans (hk b ob (fun z => hb (by simp [z])) (fun z => hb (by simp [z])) q)) hf (Nat.le_refl _) new
    refine ⟨.ref s.heap.objs.size, _, I1, rfl, ⟨_, c, rfl, I.hok.fresh (Nat.le_refl _), hcx, rfl⟩, ⟨⟨.str ⟨#[c]⟩ u, ?_⟩, ?_, hne, hg⟩, fun b hb => ?_⟩
    · have e1 : ((i + 1 : Nat) : Int) = (i : Int) + 1 := by omega
      rw [e1]; exact he'
    · obtain ⟨o, q, r⟩ := hit'
      exact ⟨o, (sb.2 it (Ne.symm hne)).trans q, r⟩
    · have hb' : b < s.heap.objs.size := by
        have e' : b = e ∨ b = it := by simpa using hb
        rcases e' with z | z
        · rw [z]; exact hel
        · rw [z]; exact hil
      rw [upd_ne (Nat.ne_of_lt hb')]
      exact (hf b hb).1
  done := by
    intro X hP hw hK hc i pins s σ H E I hf st hg
    subst hP hw hK
    obtain ⟨⟨old, he⟩, hit, hne, hle⟩ := st
    have hg : x.cps.size ≤ i := hg
    have ei : i = x.cps.size := Nat.le_antisymm hle hg
    subst ei
    obtain ⟨f0, f1, f2, f3, f4, f5⟩ := hf it (by simp)
    have D : Draws X.prog X.w X.A.in1 it [it] x.cps.size (fun i v => ∃ c u, x.cps[i]? = some c ∧ v = .str ⟨#[c]⟩ u) (fun i h => h.IsStrIter it (strIterType x) x t i) := by
      unfold strIterType
      split
      · exact Draws.strAscii (A := X.A.in1) (I.ok.hd hc) it x t
      · exact Draws.strWide (A := X.A.in1) (I.ok.hd hc) it x t
    exact wpAny_pyNext_enum_endD D he hit fun h' eb => ⟨rfl, I.turned (t' := s.toks) (fun b o hb q => eb b o hb q) f0 f1 f3 f4 f5⟩
  self := fun A i s Q E st h => let ⟨⟨_, he⟩, _⟩ := st; wpAny_pyIter_enum he h
def iEnumS (ta : TA) : TI := fun σ H R => ta σ H fun vs H1 => ∃ x, vs = [.str x] ∧ R (Ites x) H1
theorem pi_enumS {X : Cx} {e : Expr} {ta : TA} {p pos tpos : Pos} {elts : List Expr} {kk : Nat} (hg : Gl X "enumerate") (hm : X.mg "enumerate" = none) (ha : PA X [e] ta) (hs : starEach [e] X.env = [(false, eval e X.env)] := by rfl) :
    PI X (.Tuple elts kk tpos) (.Call (.Name "enumerate" p) [e] [] pos) (iEnumS ta) := by
  refine ⟨fun pins s σ H R I h => ?_⟩
  refine Call_ (ld_blt I hg hm boot_enumerate (PyProof.Rows.callWith_type1 (thn (ha.run pos pins s σ H _ I h) fun us s1 ⟨vs, H1, I1, r1, q1⟩ => ?_) hs rfl))
  obtain ⟨x, ex, q⟩ := q1
  subst ex
  cases r1 with
  | cons r rr =>
    cases rr
    obtain ⟨t, rfl⟩ := r
    refine call_enumerate_str fun h' he hit hsz hk => wpAny_pyIter_enum he ?_
    have I2 : Inv X pins σ H1 { s1 with heap := h' } := I1.kept (t' := s1.toks) hk
    refine ⟨s1.heap.objs.size + 1, [s1.heap.objs.size + 1, s1.heap.objs.size], _, _, H1, rfl, I2, turn_enumS x t (s1.heap.objs.size + 1) s1.heap.objs.size, ⟨⟨.none, he⟩, hit, Nat.succ_ne_self _, Nat.zero_le _⟩, fun b hb => ?_, q⟩
    have e' : b = s1.heap.objs.size + 1 ∨ b = s1.heap.objs.size := by simpa using hb
    have hle : s1.heap.objs.size ≤ b := by
      rcases e' with z | z
      · rw [z]; exact Nat.le_add_right _ _
      · rw [z]; exact Nat.le_refl _
    exact I1.fpOk hle (I1.hok.fresh hle)
theorem walk_enumS {x : Str} : Walk (Ites x) x.cps.size (fun _ => True) (YPair (fun i => some (.int (i : Nat))) (fun i => x.cps[i]?.map fun c => .str ⟨#[c]⟩)) := by
  refine ⟨fun i _ hi _ => hi, fun _ _ => Nat.le_refl _, fun i H v H' _ _ y => ?_⟩
  obtain ⟨T, c, h1, h2, h3, h4⟩ := y
  exact ⟨T, .int (i : Nat), .str ⟨#[c]⟩, h1, h2, h4, rfl, by show x.cps[i]?.map _ = _; rw [h3]; rfl⟩
end OB
namespace OB
open PySem PySem.Spec PyProof.Rows L2
open AutoSeq1 (wpAny_loadPart')
section
variable {prog : Program} {w : World} {A : Around} {E : Value → Shared → Prop} {s : Shared}
theorem nextOf_rev_item {it l : Addr} {i : Nat} {items : Array Value} {x : Value} {Q : Value → Shared → Prop} (hit : s.heap.IsRevIter it l (i : Int)) (hl : s.heap.IsList l items) (hx : items[i]? = some x)
    (hQ : ∀ h', h'.IsRevIter it l ((i : Int) - 1) → Heap.SameBut it s.heap h' → Q x { s with heap := h' }) : wpAny (model prog w) A (Builtin.SmallTypes.nextOf (.ref it)) Q E s := by
  obtain ⟨o, ho, hc, hd⟩ := id hit
  obtain ⟨ol, hol, _, nl, hdl⟩ := hl
  unfold Builtin.SmallTypes.nextOf
  refine wpAny_bind (wpAny_callSpecial?_slot (name := Str.ofString "__next__") hit.typeIs F.slot_lri_next
    (wpAny_call_entry F.slot_lri_next hit.typeIs F.entry_lri_next ?_ (F.args_lri_next_1 _)))
  unfold Builtin.«list_reverseiterator.__next__»
  refine wpAny_bind (wpAny_of_eq (a := (Value.ref it, [])) rfl ?_)
  try dsimp only
  refine wpAny_bind (wpAny_field ho hd (x := rawInt (i : Int)) rfl ?_)
  show wpAny _ _ (if (i : Int) < 0 then _ else _) _ _ s
  rw [if_neg (by omega)]
  show wpAny _ _ (field (.ref it) 0 >>= _) _ _ s
  refine wpAny_bind (wpAny_field ho hd (x := .ref l) rfl ?_)
  show wpAny _ _ (seqItems? (.ref l) >>= _) _ _ s
  refine wpAny_bind (wpAny_seqItems hol hdl ?_)
  simp only [Int.toNat_natCast, hx]
  refine wpAny_bind (wpAny_setField ho hd (by simp) ?_)
  first
  | refine wpAny_pure ⟨x, rfl, wpAny_pure (hQ _ ?_ (Heap.SameBut.update ..))⟩
  | refine wpAny_bind (wpAny_pure (wpAny_pure ⟨x, rfl, wpAny_pure (hQ _ ?_ (Heap.SameBut.update ..))⟩))
  exact ⟨_, Heap.get?_update_self _ ho (Obj.isFreed_of_fields (Obj.data_mapFields hd _)), (Obj.cls_mapFields ..).trans hc, by
    rw [Obj.data_mapFields hd]; simp⟩
theorem nextOf_rev_end {it l : Addr} {Q : Value → Shared → Prop} (hh : A.handled = none) (hit : s.heap.IsRevIter it l (-1))
    (hE : ∀ h' e, Heap.ExtBut it s.heap h' → (∃ o, h'.get? e = some o ∧ o.cls = .type "StopIteration") → E (.ref e) { s with heap := h' }) :
    wpAny (model prog w) A (Builtin.SmallTypes.nextOf (.ref it)) Q E s := by
  obtain ⟨o, ho, hc, hd⟩ := id hit
  unfold Builtin.SmallTypes.nextOf
  refine wpAny_bind (wpAny_callSpecial?_slot (name := Str.ofString "__next__") hit.typeIs F.slot_lri_next
    (wpAny_call_entry F.slot_lri_next hit.typeIs F.entry_lri_next ?_ (F.args_lri_next_1 _)))
  unfold Builtin.«list_reverseiterator.__next__»
  refine wpAny_bind (wpAny_of_eq (a := (Value.ref it, [])) rfl ?_)
  try dsimp only
  refine wpAny_bind (wpAny_field ho hd (x := rawInt (-1)) rfl ?_)
  show wpAny _ _ (if (-1 : Int) < 0 then _ else _) _ _ s
  rw [if_pos (by decide)]
  refine wpAny_bind (wpAny_rule ?_)
  first
  | show wpAny _ _ (newExc (.type "StopIteration") [] >>= _) _ _ _
  | (refine wpAny_bind ?_; show wpAny _ _ (newExc (.type "StopIteration") [] >>= _) _ _ _)
  refine wpAny_bind ?_
  simp only [newExc, newTuple]
  refine wpAny_bind (wpAny_newObj_type ?_ (by size_fits))
  refine wpAny_bind (m := firstArgMember _ _) (wpAny_of_eq (a := Value.none) (by first | rfl | (simp only [firstArgMember]; rfl)) ?_)
  refine wpAny_newObj_type ?_ (by size_fits)
  simp only [raiseNew]
  refine wpAny_bind (wpAny_handled ?_)
  first | rw [show A.in1.handled = none from hh] | rw [hh]
  refine wpAny_bind (wpAny_pure (wpAny_throw ?_))
  exact hE _ _ (((Heap.ExtBut.refl _ _).push _).push _) ⟨_, Heap.get?_push_size _ rfl, rfl⟩
end
theorem drawsRev {prog : Program} {w : World} {A : Around} (hh : A.handled = none) (it l : Addr) (hne : l ≠ it) (items : Array Value) :
    Draws prog w A it [it, l] items.size (fun i v => items[items.size - 1 - i]? = some v) (fun i h => i ≤ items.size ∧ h.IsRevIter it l ((items.size : Int) - 1 - (i : Int)) ∧ h.IsList l items) where
  live := fun _ _ st => let ⟨_, ⟨o, ho, _⟩, _⟩ := st; ⟨o, ho⟩
  frame := fun _ _ _ x hk => ⟨x.1, x.2.1.at fun o e => hk it (by simp) o e, x.2.2.at fun o e => hk l (by simp) o e⟩
  item := fun i s Q E hi x hQ => by
    have e : (items.size : Int) - 1 - (i : Int) = ((items.size - 1 - i : Nat) : Int) := by omega
    have hit := x.2.1
    rw [e] at hit
    have hx : items[items.size - 1 - i]? = some (items[items.size - 1 - i]'(by omega)) := Array.getElem?_eq_getElem (by omega)
    refine nextOf_rev_item hit x.2.2 hx fun h' hit' hs' => ?_
    have e2 : ((items.size - 1 - i : Nat) : Int) - 1 = (items.size : Int) - 1 - ((i + 1 : Nat) : Int) := by omega
    rw [e2] at hit'
    exact hQ _ h' s.toks hx ⟨hi, hit', x.2.2.at fun o eo => (hs'.2 l hne).trans eo⟩ hs'
  done := fun s Q E x hE => by
    have e : (items.size : Int) - 1 - (items.size : Int) = -1 := by omega
    have hit := x.2.1
    rw [e] at hit
    exact nextOf_rev_end hh hit hE
theorem meets_enumerate_newR (l it : Addr) (i : Int) :
    Meets (Builtin.«enumerate.__new__» ⟨[.type "enumerate", .ref it], []⟩) (fun _ R s => s.heap.get? it = some (revObj l i) ∧
      R (.ok (.ret (.ref s.heap.objs.size)))
        { s with heap := s.heap.push { cls := .type "enumerate", data := .fields #[.none, .bool false, .ref it, rawInt 0, .none, .none] } }) :=
  .of_wp fun prog w A R s h => by
    obtain ⟨hp, g, d, tk, os⟩ := s; obtain ⟨hl, h⟩ := h
    have hsub := sub_enumerate
    have hL : Heap.IsRevIter (Shared.heap ⟨hp, g, d, tk, os⟩) it l i := ⟨_, hl, rfl, rfl⟩
    wp_walk using wpAny_loadPart' hl
    refine wpAny_stack_any fun st => wpAny_pure ?_
    split
    · rename_i c _ _ _ _ _
      cases (c == Value.type "enumerate")
      · wp_walk using wpAny_loadPart' hl, wpAny_pyIter_revIter hL
        exact ⟨_, rfl, h⟩
      · wp_walk using wpAny_loadPart' hl, wpAny_pyIter_revIter hL
        exact ⟨_, rfl, h⟩
    · wp_walk using wpAny_loadPart' hl, wpAny_pyIter_revIter hL
      exact ⟨_, rfl, h⟩
end OB
/-! enumerate of a tuple; of a list or a tuple. -/
namespace OB
open PySem PySem.Spec PyProof.Rows L2
open AutoSeq1 (wpAny_loadPart')
theorem meets_enumerate_newT (l : Addr) (items : Array Value) (o : Obj) (ho : o.cls = .type "tuple") (n : Nat) (hd : o.data = .seq items n) :
    Meets (Builtin.«enumerate.__new__» ⟨[.type "enumerate", .ref l], []⟩) (fun _ R s => s.heap.get? l = some o ∧
      R (.ok (.ret (.ref (s.heap.push { cls := .type "tuple_iterator", data := .fields #[.ref l, .int 0 0] }).objs.size)))
        { s with heap := (s.heap.push { cls := .type "tuple_iterator", data := .fields #[.ref l, .int 0 0] }).push { cls := .type "enumerate", data := .fields #[.none, .bool false, .ref s.heap.objs.size, rawInt 0, .none, .none] } }) := by
  obtain ⟨c, dct, dt, sl⟩ := o
  replace ho : c = .type "tuple" := ho
  replace hd : dt = .seq items n := hd
  subst ho hd
  exact .of_wp fun prog w A R s h => by
    obtain ⟨hp, g, d, tk, os⟩ := s; obtain ⟨hl, h⟩ := h
    have hsub := sub_enumerate
    have hL : Heap.IsTuple (Shared.heap ⟨hp, g, d, tk, os⟩) l items := ⟨_, hl, rfl, n, rfl⟩
    wp_walk using wpAny_loadPart' hl
    refine wpAny_stack_any fun st => wpAny_pure ?_
    split
    · rename_i c _ _ _ _ _
      cases (c == Value.type "enumerate")
      · wp_walk using wpAny_loadPart' hl, wpAny_pyIter_tuple hL
        exact ⟨_, rfl, h⟩
      · wp_walk using wpAny_loadPart' hl, wpAny_pyIter_tuple hL
        exact ⟨_, rfl, h⟩
    · wp_walk using wpAny_loadPart' hl, wpAny_pyIter_tuple hL
      exact ⟨_, rfl, h⟩
section
variable {prog : Program} {w : World} {A : Around} {E : Value → Shared → Prop} {s : Shared}
theorem call_enumerate_tuple {l : Addr} {items : Array Value} {Q : Value → Shared → Prop} (hL : s.heap.IsTuple l items)
    (h : ∀ h', IsEnum h' (s.heap.objs.size + 1) s.heap.objs.size 0 .none → h'.IsTupleIter s.heap.objs.size l 0 → h'.objs.size = s.heap.objs.size + 2 →
      (∀ b o, s.heap.get? b = some o → h'.get? b = some o) → Q (.ref (s.heap.objs.size + 1)) { s with heap := h' }) :
    wpAny (model prog w) A (call (.type "enumerate") [.ref l]) Q E s := by
  obtain ⟨o, hl, hc, n, hd⟩ := hL
  refine callType_new F.called_enumerate (by decide) (F.typeCall_enumerate_1 _) (F.newCall_enumerate_1 _) (fun obj => F.args_object_init_2 obj _) F.entry_enumerate_new
    (meets_enumerate_newT l items o hc n hd) ⟨hl, ?_⟩
  have hz : (s.heap.push { cls := .type "tuple_iterator", data := .fields #[.ref l, .int 0 0] }).objs.size = s.heap.objs.size + 1 := Heap.size_push ..
  show _ ∧ _
  rw [hz]
  have he : IsEnum ((s.heap.push { cls := .type "tuple_iterator", data := .fields #[.ref l, .int 0 0] }).push
      { cls := .type "enumerate", data := .fields #[.none, .bool false, .ref s.heap.objs.size, rawInt 0, .none, .none] }) (s.heap.objs.size + 1) s.heap.objs.size 0 .none := by
    have := Heap.get?_push_size (s.heap.push { cls := .type "tuple_iterator", data := .fields #[.ref l, .int 0 0] })
      (o := { cls := .type "enumerate", data := .fields #[.none, .bool false, .ref s.heap.objs.size, rawInt 0, .none, .none] }) rfl
    rw [hz] at this; exact this
  refine ⟨⟨_, he, rfl⟩, h _ he ⟨_, Heap.get?_push_of_some _ (Heap.get?_push_size _ rfl), rfl, rfl⟩ (by rw [Heap.size_push, hz]) fun b o x => Heap.get?_push_of_some _ (Heap.get?_push_of_some _ x)⟩
end
theorem drawsTend {prog : Program} {w : World} {A : Around} (hh : A.handled = none) (it t : Addr) (hne : t ≠ it) (items : Array Value) (n : Nat) (hn : items.size ≤ n) :
    Draws prog w A it [it, t] n (fun _ _ => True) (fun i h => i = n ∧ h.IsTupleIter it t n ∧ h.IsTuple t items) where
  live := fun _ _ st => let ⟨o, ho, _⟩ := st.2.1; ⟨o, ho⟩
  frame := fun _ _ _ st hk => ⟨st.1, st.2.1.at fun o e => hk it (by simp) o e, st.2.2.at fun o e => hk t (by simp) o e⟩
  item := fun i s Q E hi st hQ => absurd st.1 (Nat.ne_of_lt hi)
  done := fun s Q E st hE => wpAny_nextOf_tuple_end hh st.2.1 st.2.2 (by simp [hn]) hE
/-- enumerate(tuple): each item in a new pair -/
def Itet (K : PySem.W.Frag) (a : Addr) : It :=
  ⟨fun i H => ∃ (xs : List V) (x : V), SqT K H a xs ∧ xs[i]? = some x, fun i H v H' => ∃ T x, v = .ref T ∧ H T = none ∧ H' = upd H T (.tup [.int (i : Nat), x]) ∧ ∀ xs, SqT K H a xs → xs[i]? = some x, fun i H => ∃ xs : List V, SqT K H a xs ∧ xs.length ≤ i⟩
theorem turn_enumT {P : Program} {w : World} {K : PySem.W.Frag} {elts : List Expr} {kk : Nat} {tpos : Pos} (a e it : Addr) (n : Nat) (hae : a ≠ e) (hai : a ≠ it) :
    Turn P w K (.Tuple elts kk tpos) (Itet K a) [e, it] e (fun i h => (∃ old, IsEnum h e it ((i : Nat) : Int) old) ∧ h.IsTupleIter it a i ∧ e ≠ it) where
  mem := by simp
  obj := fun i h st b hb => by
    obtain ⟨⟨old, he⟩, ⟨o, ho, hc, hd⟩, _⟩ := st
    have e' : b = e ∨ b = it := by simpa using hb
    rcases e' with z | z
    · rw [z]; exact ⟨_, he, fun v q => nomatch q⟩
    · rw [z]; exact ⟨o, ho, fun v q => by rw [hd] at q; cases q⟩
  keep := fun i h h' st k => let ⟨⟨old, he⟩, hi, hne⟩ := st; ⟨⟨old, k e (by simp) _ he⟩, hi.at fun o q => k it (by simp) o q, hne⟩
  item := by
    intro X hP hw hK hc i pins s σ H E I hf st hg
    subst hP hw hK
    obtain ⟨⟨old, he⟩, hit, hne⟩ := st
    obtain ⟨xs, x, hq, hx⟩ := hg
    obtain ⟨its, rv, p, hz⟩ := I.tuple hq
    have hlen := rv.length
    obtain ⟨u, hu, ru⟩ := rv.get hx
    have hi : i < its.length := (List.getElem?_eq_some_iff.mp hu).1
    have hel : e < s.heap.objs.size := Heap.lt_size he
    have hil : it < s.heap.objs.size := by obtain ⟨_, q, _⟩ := hit; exact Heap.lt_size q
    have D := Draws.tuple (prog := X.prog) (w := X.w) (A := X.A.in1) (I.ok.hd hc) it a hai its.toArray
    refine wpAny_pyNext_enum_itemD D he ⟨hit, show s.heap.IsTuple a its.toArray from p⟩ (by simpa using hi) hne (by simp [hne, hae.symm]) fun v h' tk hv ho hit' hT hsz' hk => ?_
    have ev : v = u := by
      have h2 : its.toArray[i]? = some u := by simpa using hu
      exact Option.some.inj (hv.symm.trans h2)
    subst ev
    refine ⟨_, rfl, wpAny_letOwnedTupleGo_enum (s := { s with heap := h', toks := tk + 1 }) ho fun h'' he' sb => ?_⟩
    have hT2 : h''.get? s.heap.objs.size = some { cls := .type "tuple", data := .seq #[.int i tk, v] } := (sb.2 _ (Nat.ne_of_gt hel)).trans hT
    have new : ObjOk X.prog X.w (upd H s.heap.objs.size (.tup [.int (i : Nat), x])) h'' s.heap.objs.size (.tup [.int (i : Nat), x]) :=
      ⟨by show 2 ≤ sizeLine; decide, [.int i tk, v], .cons ⟨_, rfl⟩ (.cons ru .nil), ⟨_, hT2, rfl, _, rfl⟩⟩
    have I1 : Inv X pins σ (upd H s.heap.objs.size (.tup [.int (i : Nat), x])) { s with heap := h'', toks := tk + 1 } :=
      I.turnedNew (ch := [e, it]) (fun b ob hb q => (sb.2 b (fun z => hb (by simp [z]))).trans (hk b ob (fun z => hb (by simp [z])) (fun z => hb (by simp [z])) q)) hf (Nat.le_refl _) new
    refine ⟨.ref s.heap.objs.size, _, I1, rfl, ⟨_, x, rfl, I.hok.fresh (Nat.le_refl _), rfl, fun ys hy => by rw [I.tuple_inj hy hq]; exact hx⟩, ⟨⟨v, ?_⟩, hit'.1.at fun o q => (sb.2 it (Ne.symm hne)).trans q, hne⟩, fun b hb => ?_⟩
    · have e1 : ((i + 1 : Nat) : Int) = (i : Int) + 1 := by omega
      rw [e1]; exact he'
    · have hb' : b < s.heap.objs.size := by
        have e' : b = e ∨ b = it := by simpa using hb
        rcases e' with z | z
        · rw [z]; exact hel
        · rw [z]; exact hil
      rw [upd_ne (Nat.ne_of_lt hb')]
      exact (hf b hb).1
  done := by
    intro X hP hw hK hc i pins s σ H E I hf st hg
    subst hP hw hK
    obtain ⟨⟨old, he⟩, hit, hne⟩ := st
    obtain ⟨xs, hq, hge⟩ := hg
    obtain ⟨its, rv, p, hz⟩ := I.tuple hq
    have hlen := rv.length
    obtain ⟨f0, f1, f2, f3, f4, f5⟩ := hf it (by simp)
    have D := drawsTend (prog := X.prog) (w := X.w) (A := X.A.in1) (I.ok.hd hc) it a hai its.toArray i (by simp; omega)
    exact wpAny_pyNext_enum_endD D he ⟨rfl, hit, show s.heap.IsTuple a its.toArray from p⟩ fun h' eb => ⟨rfl, I.turned (t' := s.toks) (fun b o hb q => eb b o hb q) f0 f1 f3 f4 f5⟩
  self := fun A i s Q E st h => let ⟨⟨_, he⟩, _⟩ := st; wpAny_pyIter_enum he h
def iEnumT (K : PySem.W.Frag) (te : TE) : TI := fun σ H R => te σ H fun v H1 => ∃ (a : Addr) (xs : List V), v = .ref a ∧ SqT K H1 a xs ∧ R (Itet K a) H1
theorem pi_enumT {X : Cx} {e : Expr} {te : TE} {p pos tpos : Pos} {elts : List Expr} {kk : Nat} (hg : Gl X "enumerate") (hm : X.mg "enumerate" = none) (he : PE X e te) (hs : starEach [e] X.env = (false, eval e X.env) :: starEach [] X.env := by rfl) :
    PI X (.Tuple elts kk tpos) (.Call (.Name "enumerate" p) [e] [] pos) (iEnumT X.K te) := by
  refine ⟨fun pins s σ H R I h => ?_⟩
  refine Call_ (ld_blt I hg hm boot_enumerate (PyProof.Rows.callWith_type1 (args_cons (thn (he.run pins s σ H _ I h) fun u s1 ⟨v, H1, I1, r1, q1⟩ => args_nil ?_) hs) hs rfl))
  obtain ⟨a, xs, ev, hq, q⟩ := q1
  subst ev
  obtain rfl : u = Value.ref a := r1
  obtain ⟨its, rv, p', hz⟩ := I1.tuple hq
  have hal : a < s1.heap.objs.size := by obtain ⟨_, z, _⟩ := p'; exact Heap.lt_size z
  refine call_enumerate_tuple (show s1.heap.IsTuple a its.toArray from p') fun h' he hit hsz hk => wpAny_pyIter_enum he ?_
  have I2 : Inv X pins σ H1 { s1 with heap := h' } := I1.kept (t' := s1.toks) hk
  refine ⟨s1.heap.objs.size + 1, [s1.heap.objs.size + 1, s1.heap.objs.size], _, _, H1, rfl, I2, turn_enumT a (s1.heap.objs.size + 1) s1.heap.objs.size xs.length (Nat.ne_of_lt (Nat.lt_succ_of_lt hal)) (Nat.ne_of_lt hal), ⟨⟨.none, he⟩, hit, Nat.succ_ne_self _⟩, fun b hb => ?_, q⟩
  have e' : b = s1.heap.objs.size + 1 ∨ b = s1.heap.objs.size := by simpa using hb
  have hle : s1.heap.objs.size ≤ b := by
    rcases e' with z | z
    · rw [z]; exact Nat.le_add_right _ _
    · rw [z]; exact Nat.le_refl _
  exact I1.fpOk hle (I1.hok.fresh hle)
theorem walk_enumT {K : PySem.W.Frag} {a : Addr} {xs : List V} : Walk (Itet K a) xs.length (fun H => SqT K H a xs) (YPair (fun i => some (.int (i : Nat))) (fun i => xs[i]?)) := by
  refine ⟨fun i _ hi q => ⟨xs, xs[i], q, by simp [hi]⟩, fun _ q => ⟨xs, q, Nat.le_refl _⟩, fun i H v H' _ q y => ?_⟩
  obtain ⟨T, x, h1, h2, h3, h4⟩ := y
  exact ⟨T, .int (i : Nat), x, h1, h2, h3, rfl, h4 xs q⟩
def iEnumA (K : PySem.W.Frag) (te : TE) : TI := fun σ H R => te σ H fun x H1 => ∃ a, x = .ref a ∧ (((∃ xs, SqL K H1 a xs) ∧ R (Ite K a) H1) ∨ ((∃ xs, SqT K H1 a xs) ∧ R (Itet K a) H1))
theorem pi_enumA {X : Cx} {e : Expr} {te : TE} {p pos tpos : Pos} {elts : List Expr} {kk : Nat} (hg : Gl X "enumerate") (hm : X.mg "enumerate" = none) (he : PE X e te) (hs : starEach [e] X.env = (false, eval e X.env) :: starEach [] X.env := by rfl) :
    PI X (.Tuple elts kk tpos) (.Call (.Name "enumerate" p) [e] [] pos) (iEnumA X.K te) := by
  refine ⟨fun pins s σ H R I h => ?_⟩
  refine Call_ (ld_blt I hg hm boot_enumerate (PyProof.Rows.callWith_type1 (args_cons (thn (he.run pins s σ H _ I h) fun u s1 ⟨v, H1, I1, r1, q1⟩ => args_nil ?_) hs) hs rfl))
  obtain ⟨a, ev, q⟩ := q1
  subst ev
  obtain rfl : u = Value.ref a := r1
  rcases q with ⟨⟨xs, hq⟩, q⟩ | ⟨⟨xs, hq⟩, q⟩
  · obtain ⟨its, rv, p', hz⟩ := I1.list hq
    refine call_enumerate_list p'.isList fun h' he hit hsz hk => wpAny_pyIter_enum he ?_
    have I2 : Inv X pins σ H1 { s1 with heap := h' } := I1.kept (t' := s1.toks) hk
    refine ⟨s1.heap.objs.size + 1, [s1.heap.objs.size + 1, s1.heap.objs.size], _, _, H1, rfl, I2, turn_enum a (s1.heap.objs.size + 1) s1.heap.objs.size, ⟨⟨.none, he⟩, hit, Nat.succ_ne_self _⟩, fun b hb => ?_, q⟩
    have e' : b = s1.heap.objs.size + 1 ∨ b = s1.heap.objs.size := by simpa using hb
    have hle : s1.heap.objs.size ≤ b := by
      rcases e' with z | z
      · rw [z]; exact Nat.le_add_right _ _
      · rw [z]; exact Nat.le_refl _
    exact I1.fpOk hle (I1.hok.fresh hle)
  · obtain ⟨its, rv, p', hz⟩ := I1.tuple hq
    have hal : a < s1.heap.objs.size := by obtain ⟨_, z, _⟩ := p'; exact Heap.lt_size z
    refine call_enumerate_tuple (show s1.heap.IsTuple a its.toArray from p') fun h' he hit hsz hk => wpAny_pyIter_enum he ?_
    have I2 : Inv X pins σ H1 { s1 with heap := h' } := I1.kept (t' := s1.toks) hk
    refine ⟨s1.heap.objs.size + 1, [s1.heap.objs.size + 1, s1.heap.objs.size], _, _, H1, rfl, I2, turn_enumT a (s1.heap.objs.size + 1) s1.heap.objs.size xs.length (Nat.ne_of_lt (Nat.lt_succ_of_lt hal)) (Nat.ne_of_lt hal), ⟨⟨.none, he⟩, hit, Nat.succ_ne_self _⟩, fun b hb => ?_, q⟩
    have e' : b = s1.heap.objs.size + 1 ∨ b = s1.heap.objs.size := by simpa using hb
    have hle : s1.heap.objs.size ≤ b := by
      rcases e' with z | z
      · rw [z]; exact Nat.le_add_right _ _
      · rw [z]; exact Nat.le_refl _
    exact I1.fpOk hle (I1.hok.fresh hle)
/-- a row over enumerate of a list or a tuple: Pv by the new list, the turn and the heap -/
theorem lc_enumA {K : PySem.W.Frag} {a : Addr} {xs : List V} {g : TG} {tt : TT} {te : TE} {vs : List Nat} {σ : L2.St} {H1 : Hp} {Qd : Addr → Hp → Prop} (h : SqL K H1 a xs ∨ SqT K H1 a xs) (Pv : Addr → Nat → Hp → Prop)
    (h0 : ∀ D, H1 D = none → Pv D 0 (upd H1 D (.lst []))) (keep : ∀ D i H, H1 D = none → i ≤ xs.length → Pv D i H → Same H1 H)
    (hs : ∀ D i x T H, H1 D = none → xs[i]? = some x → Pv D i H → H T = none → g (.ref T) (wipe σ vs) (upd H T (.tup [.int (i : Nat), x])) fun σ2 H2 => wipe σ2 vs = wipe σ vs ∧ tt σ2 H2 fun b H3 =>
      if b = true then te σ2 H3 fun y H4 => ∃ acc, H4 D = some (.lst acc) ∧ acc.length < sizeLine ∧ Pv D (i + 1) (upd H4 D (.lst (acc ++ [y]))) else Pv D (i + 1) H3) (hd : ∀ D H, H1 D = none → Pv D xs.length H → Qd D H) :
    ((∃ ys, SqL K H1 a ys) ∧ ∀ D, H1 D = none → ∃ W : Nat → Nat → Hp → Prop, (∃ m, W 0 m (upd H1 D (.lst []))) ∧ ∀ i m H, W i m H →
      ((Ite K a).stop i H ∧ Qd D H) ∨ ((Ite K a).go i H ∧ ∃ Nx : Hp → Prop, (∀ H', Nx H' → ∃ m', m' < m ∧ W (i + 1) m' H') ∧ ∀ x H', (Ite K a).yld i H x H' → g x (wipe σ vs) H' fun σ2 H2 => wipe σ2 vs = wipe σ vs ∧ tt σ2 H2 fun b H3 =>
        if b = true then te σ2 H3 fun y H4 => ∃ acc, H4 D = some (.lst acc) ∧ acc.length < sizeLine ∧ Nx (upd H4 D (.lst (acc ++ [y]))) else Nx H3)) ∨
    ((∃ ys, SqT K H1 a ys) ∧ ∀ D, H1 D = none → ∃ W : Nat → Nat → Hp → Prop, (∃ m, W 0 m (upd H1 D (.lst []))) ∧ ∀ i m H, W i m H →
      ((Itet K a).stop i H ∧ Qd D H) ∨ ((Itet K a).go i H ∧ ∃ Nx : Hp → Prop, (∀ H', Nx H' → ∃ m', m' < m ∧ W (i + 1) m' H') ∧ ∀ x H', (Itet K a).yld i H x H' → g x (wipe σ vs) H' fun σ2 H2 => wipe σ2 vs = wipe σ vs ∧ tt σ2 H2 fun b H3 =>
        if b = true then te σ2 H3 fun y H4 => ∃ acc, H4 D = some (.lst acc) ∧ acc.length < sizeLine ∧ Nx (upd H4 D (.lst (acc ++ [y]))) else Nx H3)) := by
  have step : ∀ D, H1 D = none → ∀ i x H H', i < xs.length → Pv D i H → YPair (fun i => some (V.int (i : Nat))) (fun i => xs[i]?) i H x H' → g x (wipe σ vs) H' fun σ2 H2 => wipe σ2 vs = wipe σ vs ∧ tt σ2 H2 fun b H3 =>
      if b = true then te σ2 H3 fun y H4 => ∃ acc, H4 D = some (.lst acc) ∧ acc.length < sizeLine ∧ Pv D (i + 1) (upd H4 D (.lst (acc ++ [y]))) else Pv D (i + 1) H3 := by
    rintro D hD i x H H' hi p ⟨T, u, v, rfl, hT, rfl, eu, ev⟩
    obtain rfl : V.int (i : Nat) = u := Option.some.inj eu
    exact hs D i v T H hD ev p hT
  rcases h with h | h
  · exact .inl ⟨⟨xs, h⟩, fun D hD => lc_it (J := Ite K a) walk_enum (Pv D) (h0 D hD) (fun i H hi p => sqL_same h (keep D i H hD hi p)) (step D hD) fun H p => hd D H hD p⟩
  · exact .inr ⟨⟨xs, h⟩, fun D hD => lc_it (J := Itet K a) walk_enumT (Pv D) (h0 D hD) (fun i H hi p => sqT_same h (keep D i H hD hi p)) (step D hD) fun H p => hd D H hD p⟩
/-- the truth of a value -/
def tTruA (K : PySem.W.Frag) (ta : TE) : TT := fun σ H Q => ta σ H fun x H' => ∃ k, TruV K x H' k ∧ Q k H'
end OB
/-! A list or a tuple: at an index, taken apart, gone through. -/
namespace OB
open PySem PySem.Spec PyProof.Rows L2
def rIxA (K : PySem.W.Frag) : R2 := fun x y H Q => ∃ p xs i v, x = .ref p ∧ y = .int i ∧ (SqL K H p xs ∨ SqT K H p xs) ∧ atI xs i = some v ∧ Q v H
def gTupA (K : PySem.W.Frag) (n : Nat) (t : TGs) : TG := fun v σ H Q => ∃ a xs, v = .ref a ∧ (SqL K H a xs ∨ SqT K H a xs) ∧ xs.length = n ∧ t xs σ H Q
section
variable {X : Cx}
theorem ix_A : IxR X (rIxA X.K) := by
  intro value slice pins s σ H x y v u Q I rx ry h hs
  obtain ⟨p, xs, i, z, ex, ey, hq, he, q⟩ := h
  rcases hq with hq | hq
  · exact ix_list value slice pins s σ H x y v u Q I rx ry ⟨p, xs, i, z, ex, ey, hq, he, q⟩ hs
  · exact ix_tup value slice pins s σ H x y v u Q I rx ry ⟨p, xs, i, z, ex, ey, hq, he, q⟩ hs
theorem pg_A {es : List Expr} {k : Nat} {t : TGs} {n : Nat} {pos : Pos} (hc : X.calm = true) (h : PGs X es t)
    (hn : (assignEach es X.env).length = n := by rfl) (hst : (assignEach es X.env).findIdx? (·.1) = none := by rfl) : PG X (.Tuple es k pos) (gTupA X.K n t) := by
  refine ⟨fun pins s σ H v u Q I r hw => ?_⟩
  obtain ⟨a, xs, e1, hq, hl, hw⟩ := hw
  rcases hq with hq | hq
  · exact (pg_unl hc h hn hst).run pins s σ H v u Q I r ⟨a, xs, e1, hq, hl, hw⟩
  · exact (pg_tup hc h hn hst).run pins s σ H v u Q I r ⟨a, xs, e1, hq, hl, hw⟩
end
theorem for_seqA {K : PySem.W.Frag} {a : Addr} {xs : List V} {g : TG} {tb : TS} {D : Ends} {σ : L2.St} {H : Hp} (Pv : Nat → L2.St → Hp → Prop) (hl : (∀ i σ' H', Pv i σ' H' → SqL K H' a xs) ∨ ∀ i σ' H', Pv i σ' H' → SqT K H' a xs) (h0 : Pv 0 σ H)
    (hs : ∀ i x σ H, xs[i]? = some x → Pv i σ H → g x σ H fun σ2 H2 => tb { D with nx := Pv (i + 1), ct := Pv (i + 1), bk := D.nx } σ2 H2) (hd : ∀ σ H, Pv xs.length σ H → D.nx σ H) :
    ((∃ ys, SqL K H a ys) ∧ ∃ W : Nat → Nat → L2.St → Hp → Prop, (∃ m, W 0 m σ H) ∧ ∀ i m σ H, W i m σ H →
      ((Itl K a).stop i H ∧ D.nx σ H) ∨ ((Itl K a).go i H ∧ ∃ N : L2.St → Hp → Prop, (∀ σ' H', N σ' H' → ∃ m', m' < m ∧ W (i + 1) m' σ' H') ∧ ∀ x H', (Itl K a).yld i H x H' → g x σ H' fun σ2 H2 => tb { D with nx := N, ct := N, bk := D.nx } σ2 H2)) ∨
    ((∃ ys, SqT K H a ys) ∧ ∃ W : Nat → Nat → L2.St → Hp → Prop, (∃ m, W 0 m σ H) ∧ ∀ i m σ H, W i m σ H →
      ((Itt K a).stop i H ∧ D.nx σ H) ∨ ((Itt K a).go i H ∧ ∃ N : L2.St → Hp → Prop, (∀ σ' H', N σ' H' → ∃ m', m' < m ∧ W (i + 1) m' σ' H') ∧ ∀ x H', (Itt K a).yld i H x H' → g x σ H' fun σ2 H2 => tb { D with nx := N, ct := N, bk := D.nx } σ2 H2)) := by
  rcases hl with hl | hl
  · exact .inl ⟨⟨xs, hl _ _ _ h0⟩, for_list Pv h0 (fun i σ' H' hi p => hl i σ' H' p) hs hd⟩
  · exact .inr ⟨⟨xs, hl _ _ _ h0⟩, for_tup Pv h0 (fun i σ' H' hi p => hl i σ' H' p) hs hd⟩
/-- a row of a set over a list or a tuple -/
theorem si_seqA {w : World} {K : PySem.W.Frag} {a : Addr} {xs : List V} {g : TG} {tt : TT} {te : TE} {vs : List Nat} {σ : L2.St} {H1 : Hp} {Qd : Addr → Hp → Prop} (h : SqL K H1 a xs ∨ SqT K H1 a xs) (Pv : Addr → Nat → Hp → Prop)
    (h0 : ∀ D, H1 D = none → Pv D 0 (upd H1 D (SetO w D (fun _ => false) 0))) (keep : ∀ D i H, H1 D = none → i ≤ xs.length → Pv D i H → Same H1 H)
    (hs : ∀ D i x H, H1 D = none → xs[i]? = some x → Pv D i H → g x (wipe σ vs) H fun σ2 H2 => wipe σ2 vs = wipe σ vs ∧ tt σ2 H2 fun b H3 => if b = true then te σ2 H3 fun y H4 => rSAdd w (.ref D) [y] H4 fun _ H5 => Pv D (i + 1) H5 else Pv D (i + 1) H3)
    (hd : ∀ D H, H1 D = none → Pv D xs.length H → Qd D H) :
    ((∃ ys, SqL K H1 a ys) ∧ ∀ D, H1 D = none → ∃ W : Nat → Nat → Hp → Prop, (∃ m, W 0 m (upd H1 D (SetO w D (fun _ => false) 0))) ∧ ∀ i m H, W i m H →
      ((Itl K a).stop i H ∧ Qd D H) ∨ ((Itl K a).go i H ∧ ∃ Nx : Hp → Prop, (∀ H', Nx H' → ∃ m', m' < m ∧ W (i + 1) m' H') ∧ ∀ x H', (Itl K a).yld i H x H' → g x (wipe σ vs) H' fun σ2 H2 => wipe σ2 vs = wipe σ vs ∧ tt σ2 H2 fun b H3 =>
        if b = true then te σ2 H3 fun y H4 => rSAdd w (.ref D) [y] H4 fun _ H5 => Nx H5 else Nx H3)) ∨
    ((∃ ys, SqT K H1 a ys) ∧ ∀ D, H1 D = none → ∃ W : Nat → Nat → Hp → Prop, (∃ m, W 0 m (upd H1 D (SetO w D (fun _ => false) 0))) ∧ ∀ i m H, W i m H →
      ((Itt K a).stop i H ∧ Qd D H) ∨ ((Itt K a).go i H ∧ ∃ Nx : Hp → Prop, (∀ H', Nx H' → ∃ m', m' < m ∧ W (i + 1) m' H') ∧ ∀ x H', (Itt K a).yld i H x H' → g x (wipe σ vs) H' fun σ2 H2 => wipe σ2 vs = wipe σ vs ∧ tt σ2 H2 fun b H3 =>
        if b = true then te σ2 H3 fun y H4 => rSAdd w (.ref D) [y] H4 fun _ H5 => Nx H5 else Nx H3)) := by
  rcases h with h | h
  · exact .inl ⟨⟨xs, h⟩, fun D hD => si_it (J := Itl K a) walk_list (Pv D) (h0 D hD) (fun i H hi p => sqL_same h (keep D i H hD hi p)) (fun i x H H' hi p y => by
      obtain ⟨rfl, e⟩ := y
      exact hs D i x _ hD e p) fun H p => hd D H hD p⟩
  · exact .inr ⟨⟨xs, h⟩, fun D hD => si_it (J := Itt K a) walk_tup (Pv D) (h0 D hD) (fun i H hi p => sqT_same h (keep D i H hD hi p)) (fun i x H H' hi p y => by
      obtain ⟨rfl, e⟩ := y
      exact hs D i x _ hD e p) fun H p => hd D H hD p⟩
/-- list(xs), a list or a tuple -/
def rListOf (K : PySem.W.Frag) : List V → Hp → VK → Prop := fun xs H Q => ∃ p ys, xs = [V.ref p] ∧ (SqL K H p ys ∨ SqT K H p ys) ∧ ∀ l, H l = none → Q (.ref l) (upd H l (.lst ys))
theorem call_listOf {X : Cx} : CallR X (.type "list") (rListOf X.K) := call_list_of
end OB
/-! not x, x a list, a tuple or a dict. -/
namespace OB
open PySem PySem.Spec PyProof.Rows L2
section
variable {X : Cx} {a : Expr} {ta : TE} {pos : Pos}
def tNotA (K : PySem.W.Frag) (ta : TE) : TE := fun σ H Q => ta σ H fun x H1 => ∃ k, TruV K x H1 k ∧ Q (.bl (!k)) H1
theorem pe_notA (ha : PE X a ta) : PE X (.UnaryOp .Not a pos) (tNotA X.K ta) := by
  refine ⟨fun pins s σ H Q I h => ?_⟩
  refine UnaryOp_ (thn (ha.run pins s σ H _ I h) fun v s1 ⟨x, H1, I1, r1, k, ht, q⟩ => ?_)
  exact not_of (thn (tru_ok pins s1 σ H1 x v (fun b H2 => Q (.bl (!b)) H2) I1 r1 ⟨k, ht, q⟩) fun b s2 ⟨H2, I2, q2⟩ => ⟨.bl (!b), H2, I2, rfl, q2⟩)
theorem tru_lst {K : PySem.W.Frag} {H : Hp} {D : Addr} {xs : List V} (h : H D = some (.lst xs)) : TruV K (.ref D) H (!xs.isEmpty) := .inl ⟨xs, SqL.of h, rfl⟩
theorem tru_tup {K : PySem.W.Frag} {H : Hp} {D : Addr} {xs : List V} (h : H D = some (.tup xs)) : TruV K (.ref D) H (!xs.isEmpty) := .inr (.inl ⟨xs, SqT.of h, rfl⟩)
end
end OB
namespace K46
open PySem PySem.Spec PyProof.Rows L2 OB SkE LamX
def rStrI : List V → Hp → VK → Prop := fun xs H Q => ∃ i, xs = [.int i] ∧ i.natAbs.log2 < 1920 ∧ Q (.str (toString i)) H
def rJoin (K : PySem.W.Frag) : V → List V → Hp → VK → Prop := fun x xs H Q => ∃ a p, ∃ ys : List Str, x = .str a ∧ xs = [.ref p] ∧ (SqL K H p (ys.map V.str) ∨ SqT K H p (ys.map V.str)) ∧ (ys.map (·.length)).sum + ys.length * a.length ≤ 16777216 ∧ Q (.str (Txt.join a ys)) H
/-- a value that is a phase: these numbers, in any order -/
def PhE (K : PySem.W.Frag) (H : Hp) (v : V) (l : List Nat) : Prop := ∃ ns, IsLot K H v (some 0) b20 ns ∧ ns.Perm (l.map fun n : Nat => (n : Int)) ∧ l ≠ [] ∧ l.Pairwise (· < ·) ∧ l.length ≤ 400 ∧ ∀ n ∈ l, n ≤ 20000
theorem PhE.same {K : PySem.W.Frag} {H H' : Hp} {v : V} {l : List Nat} (h : PhE K H v l) (S : Same H H') : PhE K H' v l := by
  obtain ⟨ns, a, b⟩ := h
  exact ⟨ns, a.same S, b⟩
def PhL (K : PySem.W.Frag) (H : Hp) : List V → List (List Nat) → Prop
  | [], [] => True
  | v :: vs, l :: ls => PhE K H v l ∧ PhL K H vs ls
  | _, _ => False
theorem PhL.same {K : PySem.W.Frag} {H H' : Hp} (S : Same H H') : ∀ {vs : List V} {ls : List (List Nat)}, PhL K H vs ls → PhL K H' vs ls
  | [], [], _ => trivial
  | _ :: _, _ :: _, ⟨e, r⟩ => ⟨e.same S, PhL.same S r⟩
  | [], _ :: _, h => h.elim
  | _ :: _, [], h => h.elim
theorem PhL.len {K : PySem.W.Frag} {H : Hp} : ∀ {vs : List V} {ls : List (List Nat)}, PhL K H vs ls → vs.length = ls.length
  | [], [], _ => rfl
  | _ :: _, _ :: _, ⟨_, r⟩ => congrArg (· + 1) (PhL.len r)
  | [], _ :: _, h => h.elim
  | _ :: _, [], h => h.elim
theorem PhL.at {K : PySem.W.Frag} {H : Hp} : ∀ {vs : List V} {ls : List (List Nat)} {i : Nat} {v : V}, PhL K H vs ls → vs[i]? = some v → ∃ l, ls[i]? = some l ∧ PhE K H v l
  | _ :: _, l :: _, 0, _, ⟨e, _⟩, h => by cases h; exact ⟨l, rfl, e⟩
  | _ :: _, _ :: _, i + 1, _, ⟨_, r⟩, h => PhL.at (i := i) r h
  | [], [], _, _, _, h => by cases h
  | [], _ :: _, _, _, h, _ => h.elim
  | _ :: _, [], _, _, h, _ => h.elim
def pTxt (l : List Nat) : Str := Txt.join " " (l.map ds)
def phTxt (ls : List (List Nat)) : Str := if ls = [] then "-" else Txt.join " | " (ls.map pTxt)
theorem PhL.phs {K : PySem.W.Frag} {H : Hp} {a : Addr} {xs : List V} {ls : List (List Nat)} (h : PhL K H xs ls) (q : SqL K H a xs ∨ SqT K H a xs) (i : EvL K H (.ref a) true) (n : xs.length ≤ 400) : Phs K H (.ref a) true := by
  refine .inr ⟨a, xs, xs.map fun _ => true, rfl, q, by omega, i, List.length_map .., fun j v b hv hb => ?_, by simp⟩
  obtain ⟨l, _, ns, il, pm, ne, _⟩ := h.at hv
  rw [List.getElem?_map, hv] at hb
  cases hb
  have nn : ns ≠ [] := fun e => by
    rw [e] at pm
    have := pm.length_eq
    rw [List.length_map] at this
    exact ne (List.length_eq_zero_iff.mp this.symm)
  exact .inr ⟨ns, il, by simp [nn]⟩
theorem ds_len5 {n : Nat} (h : n ≤ 20000) : (ds n).length ≤ 5 := by
  have e := (Nat.length_toDigits_le_iff (b := 10) (n := n) (k := 5) (by decide) (by decide)).mpr (by omega)
  rw [← MT.len_cs, MN.cs_ds, List.length_map]
  exact e
theorem ds_room {n : Nat} (h : n ≤ 20000) : (ds n).length ≤ 1921 ∧ ((n : Nat) : Int).natAbs.log2 < 1920 := by
  have e : ((n : Nat) : Int).natAbs.log2 < 1920 := by
    rw [Int.natAbs_natCast]
    by_cases z : n = 0
    · rw [z]; decide
    · have := (Nat.log2_lt z).mpr (show n < 2 ^ 15 by omega)
      omega
  refine ⟨?_, e⟩
  have := shown_sz (.int (n : Int)) (by simpa [nice] using e)
  simp only [sz] at this
  exact this
theorem sum_bd {B : Nat} : ∀ {l : List Nat}, (∀ x ∈ l, x ≤ B) → l.sum ≤ B * l.length
  | [], _ => Nat.zero_le _
  | a :: r, h => by
    have h1 := h a List.mem_cons_self
    have h2 := sum_bd fun x hx => h x (List.mem_cons_of_mem _ hx)
    rw [List.sum_cons, List.length_cons, Nat.mul_succ]
    omega
theorem PhL.ok {K : PySem.W.Frag} {H : Hp} : ∀ {vs : List V} {ls : List (List Nat)}, PhL K H vs ls → ∀ l ∈ ls, l.length ≤ 400 ∧ ∀ n ∈ l, n ≤ 20000
  | [], [], _, _, h => by cases h
  | _ :: _, _ :: _, ⟨⟨_, _, _, _, _, a, b⟩, r⟩, l, h => by
    rcases List.mem_cons.mp h with rfl | h
    · exact ⟨a, b⟩
    · exact PhL.ok r l h
  | [], _ :: _, h, _, _ => h.elim
  | _ :: _, [], h, _, _ => h.elim
theorem pTxt_len {l : List Nat} (h : l.length ≤ 400 ∧ ∀ n ∈ l, n ≤ 20000) : (pTxt l).length ≤ 2400 := by
  have e := MN.join_len 5 (l.map ds) fun y hy => by
    obtain ⟨n, hn9, rfl⟩ := List.mem_map.mp hy
    exact ds_len5 (h.2 n hn9)
  rw [List.length_map] at e
  exact Nat.le_trans e (Nat.le_trans (Nat.mul_le_mul_right _ h.1) (by decide))
def spPhText (K : PySem.W.Frag) (CP : Addr) : Sp := fun vs H Q E => ∃ (x : V), vs = [x] ∧ ((Phs K H x false ∧ ∀ H', Same H H' → RaisesP CP "phases" E H') ∨
  ∃ (a : Addr) (xs : List V) (ls : List (List Nat)), x = .ref a ∧ (H a = some (.lst xs) ∨ H a = some (.tup xs)) ∧ xs.length ≤ 400 ∧ PhL K H xs ls ∧ ∀ H', Same H H' → Q (.str (phTxt ls)) H')
section
variable {P : Program} {w : World} {K : PySem.W.Frag} {mg : Str → Option Value} {base : Heap}
theorem sc_phases_text : FnScope ["phases", "bit", "phase"] ["phases"] (defScope s_phases_text) := ⟨rfl, rfl, rfl, by decide +kernel, rfl, by decide +kernel, by decide +kernel⟩
abbrev N_phases_text : List Str := ["phases", "bit", "phase"]
theorem ok_phases_text {f f7 CP : Addr} {fd fd7 : FuncData} (F : Fun K "phases_text" "phases_text" s_phases_text f fd) (T : Blt mg) (D_need_phases : Df K mg "need_phases" s_need_phases ["value", "part"] f7 fd7) (G_need_phases : FnOk P w K mg base (L2.CX P w) 7 f7 fd7 ["value", "part"] (spNeedPhases K CP)) : FnOk P w K mg base (L2.CX P w) 8 f fd ["phases"] (spPhText K CP) := by
  refine F.okX sc_phases_text (fun vs H Q E h => ?_) (fun cdv A outer s H vs Q E hr h => ?_)
  · obtain ⟨x, rfl, _⟩ := h
    rfl
  · obtain ⟨x, rfl, h⟩ := h
    refine ⟨_, (pss_cons (ps_expr (pe_callS G_need_phases (hr.mono (by decide)) (by rfl) D_need_phases.g D_need_phases.F.kp D_need_phases.b (fun σ => passAt (takes_of rfl rfl rfl rfl) σ) (pa_cons (pv 0) (pa_cons pe_str pa_nil))))
  (pss_cons (ps_if (pt_not (pt_truth (pv 0) (by intro _; rfl))) (pss_one (ps_ret (pe_glob (v := .str "-") rfl T.g_NO_PHASE.choose_spec ⟨_, rfl⟩))) pss_nil)
  (pss_one (ps_ret (pe_join pe_str (pe_lc (own := [("phase", 2)]) (g := (gName 2)) (tt := tYes) (te := tM1 (rJoin K) (tC (.str " ")) (tLc (iList K (tCB (rSortedA K) (tCons (tVar 2) tNil))) (gName 1) tYes (tCB rStrI (tCons (tVar 1) tNil)) [1])) rfl sc_phases_text.nd (pi_seqA (pv 0)) (blkOk_by (N := N_phases_text) (own := [("phase", 2)]) (sc := defScope s_phases_text) (by decide +kernel)) (fun _ _ _ _ _ => (pg_name (i := 2) sc_phases_text.nd rfl (Or.inl rfl))) (fun _ _ _ _ _ => pts_nil) (fun _ _ _ _ _ => (pe_join pe_str (pe_lc (own := [("bit", 1)]) (g := (gName 1)) (tt := tYes) (te := tCB rStrI (tCons (tVar 1) tNil)) rfl sc_phases_text.nd (pi_list (pe_callB cr_sortedA (by rfl) T.n_sorted (by decide +kernel) (pa_cons (pv 2) pa_nil))) (blkOk_by (by rfl)) (fun _ _ _ _ _ => (pg_name (i := 1) sc_phases_text.nd rfl (Or.inl rfl))) (fun _ _ _ _ _ => pts_nil) (fun _ _ _ _ _ => (pe_callTy call_str_int (by rfl) T.n_str (by decide +kernel) (pa_cons (pv 1) pa_nil)))))))))))), ?_⟩
    rcases h with ⟨hp, k⟩ | ⟨a, xs, ls, rfl, ha, hn, hls, k⟩
    · exact ⟨_, rfl, x, "phases", false, rfl, hp, fun H' S => ⟨(fun z => nomatch z), fun _ => k H' S⟩⟩
    have hq : SqL K H a xs ∨ SqT K H a xs := ha.imp SqL.of SqT.of
    have hi : EvL K H (.ref a) true := fun H' S => ha.elim (fun z => isL_lst (S _ _ z)) fun z => isL_tup (S _ _ z)
    refine ⟨_, rfl, .ref a, "phases", true, rfl, hls.phs hq hi hn, fun H1 S1 => ⟨fun _ => ?_, fun z => nomatch z⟩⟩
    have ha1 : H1 a = some (.lst xs) ∨ H1 a = some (.tup xs) := ha.imp (S1 _ _) (S1 _ _)
    have tv : TruV K (.ref a) H1 (!xs.isEmpty) := ha1.elim tru_lst tru_tup
    have hq1 : SqL K H1 a xs ∨ SqT K H1 a xs := ha1.imp SqL.of SqT.of
    have hls1 := hls.same S1
    have lln := hls1.len
    refine ⟨_, rfl, _, tv, ?_⟩
    cases xs with
    | nil =>
      cases ls with
      | cons _ _ => cases lln
      | nil =>
        refine iteT ?_
        exact k H1 S1
    | cons v0 vs0 =>
      have lne : ls ≠ [] := fun z => by rw [z] at lln; cases lln
      refine iteF ?_
      refine ⟨⟨_, rfl⟩, _, rfl, a, rfl, lc_seqA hq1 (fun D i H' => Same H1 H' ∧ H' D = some (.lst (((ls.take i).map pTxt).map V.str))) (fun D hD => ⟨same_new hD, upd_same⟩) (fun D i H' _ _ p => p.1) ?_ ?_⟩
      · rintro D i v H' hD hx ⟨S2, hl⟩
        obtain ⟨l, hl2, pe⟩ := hls1.at hx
        obtain ⟨ns, il, pm, ne, pw, l60, lt⟩ := pe.same S2
        obtain ⟨u, rfl, hu, _⟩ := il
        refine ⟨rfl, ⟨_, rfl⟩, _, rfl, u, ns, rfl, hu, fun ns' q pm2 pw2 hq => ?_⟩
        have en : ns' = l.map fun n : Nat => (n : Int) := by
          refine List.Perm.eq_of_pairwise (le := fun a b => a ≤ b) (fun a b _ _ x y => by omega) pw2 ?_ (pm2.trans pm)
          refine List.pairwise_map.mpr (pw.imp fun z => ?_)
          omega
        subst en
        have S3 := same_new (o := .lst ((l.map fun n : Nat => (n : Int)).map V.int)) hq
        have i60 : ls.length ≤ 400 := by omega
        refine ⟨q, rfl, ⟨_, SqL.of upd_same⟩, fun D2 hD2 => ?_⟩
        refine lc_list (xs := (l.map fun n : Nat => (n : Int)).map V.int) (fun j H2 => Same (upd H' q (.lst ((l.map fun n : Nat => (n : Int)).map V.int))) H2 ∧ H2 D2 = some (.lst (((l.take j).map ds).map V.str))) ⟨same_new hD2, upd_same⟩ (fun j H2 _ h => SqL.of (h.1 _ _ upd_same)) ?_ ?_
        · rintro j y H2 hy ⟨S4, hl4⟩
          obtain ⟨n, hn9, rfl⟩ : ∃ n : Nat, l[j]? = some n ∧ y = V.int (n : Int) := by
            rw [List.getElem?_map, List.getElem?_map] at hy
            cases e : l[j]? with
            | none => rw [e] at hy; cases hy
            | some n => rw [e] at hy; exact ⟨n, rfl, (Option.some.inj hy).symm⟩
          refine ⟨rfl, _, rfl, _, rfl, (ds_room (lt n (List.mem_of_getElem? hn9))).2, _, hl4, ?_, fun o w z => ?_, ?_⟩
          · rw [List.length_map, List.length_map, List.length_take, sizeLine_eq]
            omega
          · rw [upd_ne (ne_of_none z hD2)]
            exact S4 _ _ z
          · rw [upd_same, List.take_add_one, hn9, List.map_append, List.map_append]
            rfl
        · rintro H2 ⟨S4, hl4⟩
          rw [List.length_map, List.length_map, List.take_length] at hl4
          refine ⟨_, D2, l.map ds, rfl, rfl, .inl (SqL.of hl4), ?_, _, S4 _ _ (S3 _ _ hl), ?_, fun o w z => ?_, ?_⟩
          · have := sum_bd (B := 1921) (l := (l.map ds).map (·.length)) fun x hx => by
              obtain ⟨y, hy, rfl⟩ := List.mem_map.mp hx
              obtain ⟨n, hn9, rfl⟩ := List.mem_map.mp hy
              exact (ds_room (lt n hn9)).1
            rw [List.length_map, List.length_map] at this
            rw [List.length_map, show (" " : Str).length = 1 by decide +kernel]
            omega
          · rw [List.length_map, List.length_map, List.length_take, sizeLine_eq]
            omega
          · rw [upd_ne (ne_of_none z hD)]
            exact S4 _ _ (S3 _ _ (S2 _ _ z))
          · rw [upd_same, List.take_add_one, hl2, List.map_append, List.map_append]
            rfl
      · rintro D H2 hD ⟨S2, hl⟩
        rw [lln, List.take_length] at hl
        refine ⟨_, D, ls.map pTxt, rfl, rfl, .inl (SqL.of hl), ?_, ?_⟩
        · have := sum_bd (B := 2400) (l := (ls.map pTxt).map (·.length)) fun x hx => by
            obtain ⟨y, hy, rfl⟩ := List.mem_map.mp hx
            obtain ⟨l, hl9, rfl⟩ := List.mem_map.mp hy
            exact pTxt_len (hls1.ok l hl9)
          rw [List.length_map, List.length_map] at this
          rw [List.length_map, show (" | " : Str).length = 3 by decide +kernel]
          omega
        · have := k H2 (S1.trans S2)
          unfold phTxt at this
          rw [if_neg lne] at this
          exact this
end
end K46
namespace K46
open PySem PySem.Spec PyProof.Rows L2 OB SkE LamX
/-- the least number that may come next -/
def low (c : List Nat) : Nat := match c.getLast? with
  | none => 0
  | some n => n + 1
abbrev RS : Type := List (List Nat) × List Nat
/-- one item of a text of phases -/
def stp (s : RS) (y : Str) : Option RS := if y = "|" ∧ s.2 ≠ [] then some (s.1 ++ [s.2], []) else match MN.num y with
  | some n => if low s.2 ≤ n ∧ n ≤ 20000 then some (s.1, s.2 ++ [n]) else none
  | none => none
/-- where a text stops, or its phases -/
def rd (s : RS) (i : Nat) : List Str → Nat ⊕ List (List Nat)
  | [] => if s.2 = [] then .inl i else .inr (s.1 ++ [s.2])
  | y :: r => match stp s y with
    | none => .inl i
    | some s' => rd s' (i + 1) r
def readP (ys : List Str) : Nat ⊕ List (List Nat) := if ys.head? = some "-" then (if ys.length ≤ 1 then .inr [] else .inl 1) else rd ([], []) 0 ys
theorem split_ne (z : Str) : Txt.split z " " ≠ [] := fun h => by
  have e := MN.join_split z
  rw [h] at e
  rw [← e] at h
  revert h
  decide +kernel
theorem join_many : ∀ l : List Str, l.length ≤ (Txt.join " " l).length + 1
  | [] => by simp
  | [a] => by simp
  | a :: b :: r => by
    have ih := join_many (b :: r)
    have e3 : (" " : Str).length = 1 := by decide +kernel
    rw [TL.join_eq] at ih ⊢
    show _ ≤ ((a ++ " ") ++ Str.join " " (b :: r)).length + 1
    rw [Str.length_append, Str.length_append, e3, List.length_cons]
    omega
theorem split_many (z : Str) : (Txt.split z " ").length ≤ z.length + 1 := by
  have h := join_many (Txt.split z " ")
  rw [MN.join_split] at h
  exact h
theorem low_snoc (c : List Nat) (n : Nat) : low (c ++ [n]) = n + 1 := by
  unfold low
  rw [List.getLast?_concat]
theorem low_nil : low [] = 0 := rfl
end K46
namespace OB
open PySem PySem.Spec PyProof.Rows L2
/-- enumerate(reversed(list)): the list at a keeps its n items -/
def Iter (K : PySem.W.Frag) (a : Addr) (n : Nat) : It :=
  ⟨fun i H => ∃ (xs : List V) (x : V), SqL K H a xs ∧ xs.length = n ∧ i < n ∧ xs[n - 1 - i]? = some x, fun i H v H' => ∃ T x, v = .ref T ∧ H T = none ∧ H' = upd H T (.tup [.int (i : Nat), x]) ∧ ∀ xs, SqL K H a xs → xs[n - 1 - i]? = some x,
    fun i H => ∃ xs : List V, SqL K H a xs ∧ xs.length = n ∧ n ≤ i⟩
theorem turn_enumR {P : Program} {w : World} {K : PySem.W.Frag} {elts : List Expr} {kk : Nat} {tpos : Pos} (a e it : Addr) (n : Nat) (hae : a ≠ e) (hai : a ≠ it) :
    Turn P w K (.Tuple elts kk tpos) (Iter K a n) [e, it] e (fun i h => (∃ old, IsEnum h e it ((i : Nat) : Int) old) ∧ h.IsRevIter it a ((n : Int) - 1 - (i : Nat)) ∧ e ≠ it ∧ i ≤ n) where
  mem := by simp
  obj := fun i h st b hb => by
    obtain ⟨⟨old, he⟩, ⟨o, ho, hc, hd⟩, _⟩ := st
    have e' : b = e ∨ b = it := by simpa using hb
    rcases e' with z | z
    · rw [z]; exact ⟨_, he, fun v q => nomatch q⟩
    · rw [z]; exact ⟨o, ho, fun v q => by rw [hd] at q; cases q⟩
  keep := fun i h h' st k => let ⟨⟨old, he⟩, hi, hne⟩ := st; ⟨⟨old, k e (by simp) _ he⟩, hi.at fun o q => k it (by simp) o q, hne⟩
  item := by
    intro X hP hw hK hc i pins s σ H E I hf st hg
    subst hP hw hK
    obtain ⟨⟨old, he⟩, hit, hne, hle⟩ := st
    obtain ⟨xs, x, hq, hn, hin, hx⟩ := hg
    subst hn
    obtain ⟨its, rv, p, hz⟩ := I.list hq
    have hlen := rv.length
    obtain ⟨u, hu, ru⟩ := rv.get hx
    have hel : e < s.heap.objs.size := Heap.lt_size he
    have hil : it < s.heap.objs.size := by obtain ⟨_, q, _⟩ := hit; exact Heap.lt_size q
    have hsz : its.toArray.size = xs.length := by rw [List.size_toArray, hlen]
    have D := drawsRev (prog := X.prog) (w := X.w) (A := X.A.in1) (I.ok.hd hc) it a hai its.toArray
    refine wpAny_pyNext_enum_itemD D he ⟨by omega, by rw [hsz]; exact hit, p.isList⟩ (by omega) hne (by simp [hne, hae.symm]) fun v h' tk hv ho hit' hT hsz' hk => ?_
    have ev : v = u := by
      rw [hsz] at hv
      have h2 : its.toArray[xs.length - 1 - i]? = some u := by simpa using hu
      exact Option.some.inj (hv.symm.trans h2)
    subst ev
    refine ⟨_, rfl, wpAny_letOwnedTupleGo_enum (s := { s with heap := h', toks := tk + 1 }) ho fun h'' he' sb => ?_⟩
    have hT2 : h''.get? s.heap.objs.size = some { cls := .type "tuple", data := .seq #[.int i tk, v] } := (sb.2 _ (Nat.ne_of_gt hel)).trans hT
    have new : ObjOk X.prog X.w (upd H s.heap.objs.size (.tup [.int (i : Nat), x])) h'' s.heap.objs.size (.tup [.int (i : Nat), x]) :=
      ⟨by show 2 ≤ sizeLine; decide, [.int i tk, v], .cons ⟨_, rfl⟩ (.cons ru .nil), ⟨_, hT2, rfl, _, rfl⟩⟩
    have I1 : Inv X pins σ (upd H s.heap.objs.size (.tup [.int (i : Nat), x])) { s with heap := h'', toks := tk + 1 } :=
      I.turnedNew (ch := [e, it]) (fun b ob hb q => (sb.2 b (fun z => hb (by simp [z]))).trans (hk b ob (fun z => hb (by simp [z])) (fun z => hb (by simp [z])) q)) hf (Nat.le_refl _) new
    refine ⟨.ref s.heap.objs.size, _, I1, rfl, ⟨_, x, rfl, I.hok.fresh (Nat.le_refl _), rfl, fun ys hy => by rw [I.list_inj hy hq]; exact hx⟩, ⟨⟨v, ?_⟩, ?_, hne, hin⟩, fun b hb => ?_⟩
    · have e1 : ((i + 1 : Nat) : Int) = (i : Int) + 1 := by omega
      rw [e1]; exact he'
    · have h3 := hit'.2.1
      rw [hsz] at h3
      exact h3.at fun o q => (sb.2 it (Ne.symm hne)).trans q
    · have hb' : b < s.heap.objs.size := by
        have e' : b = e ∨ b = it := by simpa using hb
        rcases e' with z | z
        · rw [z]; exact hel
        · rw [z]; exact hil
      rw [upd_ne (Nat.ne_of_lt hb')]
      exact (hf b hb).1
  done := by
    intro X hP hw hK hc i pins s σ H E I hf st hg
    subst hP hw hK
    obtain ⟨⟨old, he⟩, hit, hne, hle⟩ := st
    obtain ⟨xs, hq, hn, hge⟩ := hg
    subst hn
    obtain ⟨its, rv, p, hz⟩ := I.list hq
    have hlen := rv.length
    have ei : i = xs.length := Nat.le_antisymm hle hge
    subst ei
    have hsz : its.toArray.size = xs.length := by rw [List.size_toArray, hlen]
    obtain ⟨f0, f1, f2, f3, f4, f5⟩ := hf it (by simp)
    have D := drawsRev (prog := X.prog) (w := X.w) (A := X.A.in1) (I.ok.hd hc) it a hai its.toArray
    exact wpAny_pyNext_enum_endD D he ⟨Nat.le_refl _, by rw [hsz]; exact hit, p.isList⟩ fun h' eb => ⟨rfl, I.turned (t' := s.toks) (fun b o hb q => eb b o hb q) f0 f1 f3 f4 f5⟩
  self := fun A i s Q E st h => let ⟨⟨_, he⟩, _⟩ := st; wpAny_pyIter_enum he h
section
variable {prog : Program} {w : World} {A : Around} {E : Value → Shared → Prop} {s : Shared}
theorem call_enumerate_rev {l it : Addr} {i : Int} {Q : Value → Shared → Prop} (hL : s.heap.get? it = some (revObj l i))
    (h : Q (.ref s.heap.objs.size) { s with heap := s.heap.push { cls := .type "enumerate", data := .fields #[.none, .bool false, .ref it, rawInt 0, .none, .none] } }) :
    wpAny (model prog w) A (call (.type "enumerate") [.ref it]) Q E s := by
  refine callType_new F.called_enumerate (by decide) (F.typeCall_enumerate_1 _) (F.newCall_enumerate_1 _) (fun obj => F.args_object_init_2 obj _) F.entry_enumerate_new
    (meets_enumerate_newR l it i) ⟨hL, ?_⟩
  exact ⟨⟨_, Heap.get?_push_size _ rfl, rfl⟩, h⟩
end
def iEnumR (K : PySem.W.Frag) (te : TE) : TI := fun σ H R => te σ H fun v H1 => ∃ (a : Addr) (xs : List V), v = .ref a ∧ SqL K H1 a xs ∧ R (Iter K a xs.length) H1
theorem pi_enumR {X : Cx} {e : Expr} {te : TE} {p pos p2 pos2 tpos : Pos} {elts : List Expr} {kk : Nat} (hg : Gl X "enumerate") (hm : X.mg "enumerate" = none) (hg2 : Gl X "reversed") (hm2 : X.mg "reversed" = none) (he : PE X e te)
    (hs : starEach [e] X.env = (false, eval e X.env) :: starEach [] X.env := by rfl)
    (hs2 : starEach [.Call (.Name "reversed" p2) [e] [] pos2] X.env = (false, eval (.Call (.Name "reversed" p2) [e] [] pos2) X.env) :: starEach [] X.env := by rfl) :
    PI X (.Tuple elts kk tpos) (.Call (.Name "enumerate" p) [.Call (.Name "reversed" p2) [e] [] pos2] [] pos) (iEnumR X.K te) := by
  refine ⟨fun pins s σ H R I h => ?_⟩
  refine Call_ (ld_blt I hg hm boot_enumerate (PyProof.Rows.callWith_type1 (args_cons ?_ hs2) hs2 rfl))
  refine Call_ (ld_blt I hg2 hm2 PyProof.Rows.boot_reversed (PyProof.Rows.callWith_type1 (args_cons (thn (he.run pins s σ H _ I h) fun u s1 ⟨v, H1, I1, r1, q1⟩ => args_nil ?_) hs) hs rfl))
  obtain ⟨a, xs, ev, hq, q⟩ := q1
  subst ev
  obtain rfl : u = Value.ref a := r1
  obtain ⟨its, rv, p', hz⟩ := I1.list hq
  have hl := rv.length
  have hal : a < s1.heap.objs.size := by obtain ⟨_, z, _⟩ := p'.isList; exact Heap.lt_size z
  have e1 : ((its.toArray.size : Nat) : Int) - 1 = (xs.length : Int) - 1 - ((0 : Nat) : Int) := by simp only [List.size_toArray]; omega
  refine call_reversed_list p'.isList (args_nil ?_)
  refine call_enumerate_rev (l := a) (i := ((its.toArray.size : Nat) : Int) - 1) (Heap.get?_push_size _ rfl) ?_
  have hz1 : (s1.heap.push (revObj a ((its.toArray.size : Nat) - 1))).objs.size = s1.heap.objs.size + 1 := Heap.size_push ..
  have he1 : IsEnum ((s1.heap.push (revObj a (((its.toArray.size : Nat) : Int) - 1))).push { cls := .type "enumerate", data := .fields #[.none, .bool false, .ref s1.heap.objs.size, rawInt 0, .none, .none] }) (s1.heap.objs.size + 1) s1.heap.objs.size 0 .none := by
    have := Heap.get?_push_size (s1.heap.push (revObj a (((its.toArray.size : Nat) : Int) - 1))) (o := { cls := .type "enumerate", data := .fields #[.none, .bool false, .ref s1.heap.objs.size, rawInt 0, .none, .none] }) rfl
    rw [hz1] at this; exact this
  show wpAny _ _ (pyIter (.ref (s1.heap.push (revObj a (((its.toArray.size : Nat) : Int) - 1))).objs.size)) _ _ _
  rw [hz1]
  refine wpAny_pyIter_enum he1 ?_
  have I2 := I1.kept (t' := s1.toks) (h' := (s1.heap.push (revObj a (((its.toArray.size : Nat) : Int) - 1))).push { cls := .type "enumerate", data := .fields #[.none, .bool false, .ref s1.heap.objs.size, rawInt 0, .none, .none] }) fun b ob z => Heap.get?_push_of_some _ (Heap.get?_push_of_some _ z)
  refine ⟨s1.heap.objs.size + 1, [s1.heap.objs.size + 1, s1.heap.objs.size], _, _, H1, rfl, I2, turn_enumR a (s1.heap.objs.size + 1) s1.heap.objs.size xs.length (Nat.ne_of_lt (Nat.lt_succ_of_lt hal)) (Nat.ne_of_lt hal), ⟨⟨.none, he1⟩, ?_, Nat.succ_ne_self _, Nat.zero_le _⟩, fun b hb => ?_, q⟩
  · rw [← e1]
    exact ⟨_, Heap.get?_push_of_some _ (Heap.get?_push_size _ rfl), rfl, rfl⟩
  · have e' : b = s1.heap.objs.size + 1 ∨ b = s1.heap.objs.size := by simpa using hb
    have hle : s1.heap.objs.size ≤ b := by
      rcases e' with z | z
      · rw [z]; exact Nat.le_add_right _ _
      · rw [z]; exact Nat.le_refl _
    exact I1.fpOk hle (I1.hok.fresh hle)
theorem walk_enumR {K : PySem.W.Frag} {a : Addr} {xs : List V} : Walk (Iter K a xs.length) xs.length (fun H => SqL K H a xs) (YPair (fun i => some (.int (i : Nat))) (fun i => xs[xs.length - 1 - i]?)) := by
  refine ⟨fun i _ hi q => ⟨xs, xs[xs.length - 1 - i]'(by omega), q, rfl, hi, by simp [show xs.length - 1 - i < xs.length by omega]⟩, fun _ q => ⟨xs, q, rfl, Nat.le_refl _⟩, fun i H v H' _ q y => ?_⟩
  obtain ⟨T, x, h1, h2, h3, h4⟩ := y
  exact ⟨T, .int (i : Nat), x, h1, h2, h3, rfl, h4 xs q⟩
end OB
namespace K46
open PySem PySem.Spec PyProof.Rows L2 OB SkE LamX
def rTupOf (K : PySem.W.Frag) : List V → Hp → VK → Prop := fun xs H Q => ∃ p ys, xs = [.ref p] ∧ ((SqL K H p ys ∧ ∀ l, H l = none → Q (.ref l) (upd H l (.tup ys))) ∨ (SqT K H p ys ∧ Q (.ref p) H))
abbrev natV (ns : List Nat) : List V := ns.map fun n : Nat => V.int (n : Int)
theorem natV_len (ns : List Nat) : (natV ns).length = ns.length := List.length_map _
theorem natV_snoc (l : List Nat) (n : Nat) : natV l ++ [V.int (n : Int)] = natV (l ++ [n]) := by
  unfold natV
  rw [List.map_append]
  rfl
/-- lots, each a list of its own -/
def PLs (H : Hp) : List V → List (List Nat) → Prop
  | [], [] => True
  | v :: vs, p :: ps => (∃ t, v = .ref t ∧ H t = some (.lst (natV p))) ∧ PLs H vs ps
  | _, _ => False
theorem PLs.mono {H H' : Hp} : ∀ {vs : List V} {ps : List (List Nat)}, PLs H vs ps → (∀ t, V.ref t ∈ vs → ∀ xs, H t = some (.lst xs) → H' t = some (.lst xs)) → PLs H' vs ps
  | [], [], _, _ => trivial
  | _ :: _, _ :: _, ⟨⟨t, e, h⟩, r⟩, k => ⟨⟨t, e, k t (e ▸ List.mem_cons_self) _ h⟩, PLs.mono r fun u hu => k u (List.mem_cons_of_mem _ hu)⟩
  | [], _ :: _, h, _ => h.elim
  | _ :: _, [], h, _ => h.elim
theorem PLs.app {H : Hp} {vs2 : List V} {ps2 : List (List Nat)} (h2 : PLs H vs2 ps2) : ∀ {vs : List V} {ps : List (List Nat)}, PLs H vs ps → PLs H (vs ++ vs2) (ps ++ ps2)
  | [], [], _ => h2
  | _ :: _, _ :: _, ⟨e, r⟩ => ⟨e, PLs.app h2 r⟩
  | [], _ :: _, h => h.elim
  | _ :: _, [], h => h.elim
theorem PLs.len {H : Hp} : ∀ {vs : List V} {ps : List (List Nat)}, PLs H vs ps → vs.length = ps.length
  | [], [], _ => rfl
  | _ :: _, _ :: _, ⟨_, r⟩ => congrArg (· + 1) (PLs.len r)
  | [], _ :: _, h => h.elim
  | _ :: _, [], h => h.elim
theorem PLs.new {H : Hp} {q : Addr} (hq : H q = none) : ∀ {vs : List V} {ps : List (List Nat)}, PLs H vs ps → V.ref q ∉ vs
  | [], _, _ => List.not_mem_nil
  | _ :: _, _ :: _, ⟨⟨t, e, h⟩, r⟩ => fun z => by
    rcases List.mem_cons.mp z with z | z
    · rw [e] at z
      injection z with z
      rw [z, h] at hq
      cases hq
    · exact PLs.new hq r z
  | _ :: _, [], h => h.elim
structure Hid (P : Prop) : Prop where
  out : P
/-- phases, each a tuple -/
def PTs (H : Hp) : List V → List (List Nat) → Prop
  | [], [] => True
  | v :: vs, p :: ps => (∃ t, v = .ref t ∧ H t = some (.tup (natV p))) ∧ PTs H vs ps
  | _, _ => False
theorem PTs.mono {H H' : Hp} : ∀ {vs : List V} {ps : List (List Nat)}, PTs H vs ps → (∀ t xs, H t = some (.tup xs) → H' t = some (.tup xs)) → PTs H' vs ps
  | [], [], _, _ => trivial
  | _ :: _, _ :: _, ⟨⟨t, e, h⟩, r⟩, k => ⟨⟨t, e, k t _ h⟩, PTs.mono r k⟩
  | [], _ :: _, h, _ => h.elim
  | _ :: _, [], h, _ => h.elim
theorem PTs.app {H : Hp} {us2 : List V} {ps2 : List (List Nat)} (h2 : PTs H us2 ps2) : ∀ {vs : List V} {ps : List (List Nat)}, PTs H vs ps → PTs H (vs ++ us2) (ps ++ ps2)
  | [], [], _ => h2
  | _ :: _, _ :: _, ⟨e, r⟩ => ⟨e, PTs.app h2 r⟩
  | [], _ :: _, h => h.elim
  | _ :: _, [], h => h.elim
theorem PTs.len {H : Hp} : ∀ {vs : List V} {ps : List (List Nat)}, PTs H vs ps → vs.length = ps.length
  | [], [], _ => rfl
  | _ :: _, _ :: _, ⟨_, r⟩ => congrArg (· + 1) (PTs.len r)
  | [], _ :: _, h => h.elim
  | _ :: _, [], h => h.elim
theorem PLs.at {H : Hp} : ∀ {vs : List V} {ps : List (List Nat)} {i : Nat} {v : V}, PLs H vs ps → vs[i]? = some v → ∃ t p, v = .ref t ∧ ps[i]? = some p ∧ H t = some (.lst (natV p))
  | _ :: _, p :: _, 0, _, ⟨⟨t, e, h⟩, _⟩, hv => by cases hv; exact ⟨t, p, e, rfl, h⟩
  | _ :: _, _ :: _, i + 1, _, ⟨_, r⟩, hv => PLs.at (i := i) r hv
  | [], [], _, _, _, hv => by cases hv
  | [], _ :: _, _, _, h, _ => h.elim
  | _ :: _, [], _, _, h, _ => h.elim
def spPhRead (K : PySem.W.Frag) (CT : Addr) : Sp := fun vs H Q E => ∃ (x : V), vs = [x] ∧ ((NotS K H x ∧ Raises2 CT 0 0 E H) ∨ ∃ z : Str, x = .str z ∧ z.length ≤ 100000 ∧
  (∀ (i : Nat), readP (Txt.split z " ") = .inl i → ∀ H', Same H H' → Raises2 CT 0 (i : Int) E H') ∧ (∀ ps, readP (Txt.split z " ") = .inr ps → ∀ q us H', H q = none → Same H H' → H' q = some (.tup us) → PTs H' us ps → Q (.ref q) H'))
theorem iteX {b : Bool} {X Y : Prop} (hX : b = true → Y → X) (hY : Y) : if b = true then X else Y := by
  cases b with
  | true => exact hX rfl hY
  | false => exact hY
section
variable {P : Program} {w : World} {K : PySem.W.Frag} {mg : Str → Option Value} {base : Heap}
theorem sc_phases_read : FnScope ["text", "items", "phases", "at", "item", "phase"] ["text"] (defScope s_phases_read) := ⟨rfl, rfl, rfl, by decide +kernel, rfl, by decide +kernel, by decide +kernel⟩
abbrev N_phases_read : List Str := ["text", "items", "phases", "at", "item", "phase"]
theorem ok_phases_read {f f1 f2 f3 CT fT : Addr} {fd fd1 fd2 fd3 fdT : FuncData} (F : Fun K "phases_read" "phases_read" s_phases_read f fd) (T : Blt mg) (D_items_of : Df K mg "items_of" s_items_of ["text"] f1 fd1) (G_items_of : FnOk P w K mg base (L2.CX P w) 3 f1 fd1 ["text"] (spItems K CT)) (D_need_end : Df K mg "need_end" s_need_end ["items", "at"] f2 fd2) (G_need_end : FnOk P w K mg base (L2.CX P w) 3 f2 fd2 ["items", "at"] (spNeedEnd CT))
    (D_integer_at : Df K mg "integer_at" s_integer_at ["items", "at", "least", "most"] f3 fd3) (G_integer_at : FnOk P w K mg base (L2.CX P w) 5 f3 fd3 ["items", "at", "least", "most"] (spIntAt CT)) (R_BadText : Err2 P w K mg base "BadText" "line" "item" CT fT fdT) : FnOk P w K mg base (L2.CX P w) 6 f fd ["text"] (spPhRead K CT) := by
  refine F.okX sc_phases_read (fun vs H Q E h => ?_) (fun cdv A outer s H vs Q E hr h => ?_)
  · obtain ⟨x, rfl, _⟩ := h
    rfl
  · obtain ⟨x, rfl, h⟩ := h
    refine ⟨_, (pss_cons (ps_set (i := 1) sc_phases_read.nd rfl (Or.inl rfl) (pe_callS G_items_of (hr.mono (by decide)) (by rfl) D_items_of.g D_items_of.F.kp D_items_of.b (fun σ => passAt (takes_of rfl rfl rfl rfl) σ) (pa_cons (pv 0) pa_nil)))
  (pss_cons (ps_if (pt_cmpR op_eq (pe_ix ix_list (pv 1) pe_int (fun _ _ => rfl)) (pe_glob (v := .str "-") rfl T.g_NO_PHASE.choose_spec ⟨_, rfl⟩) (nomark _)) (pss_cons (ps_expr (pe_callS G_need_end (hr.mono (by decide)) (by rfl) D_need_end.g D_need_end.F.kp D_need_end.b (fun σ => passAt (takes_of rfl rfl rfl rfl) σ) (pa_cons (pv 1) (pa_cons pe_int pa_nil))))
  (pss_one (ps_ret (pe_tup pa_nil)))) pss_nil)
  (pss_cons (ps_set (i := 2) sc_phases_read.nd rfl (Or.inl rfl) (pe_lst (pa_cons (pe_lst pa_nil) pa_nil)))
  (pss_cons (ps_for (passes_of rfl) rfl (pi_enum (by rfl) T.n_enumerate (pa_cons (pv 1) pa_nil)) (pg_tup (by rfl) (pgs_cons (pg_name (i := 3) sc_phases_read.nd rfl (Or.inl rfl)) (pgs_cons (pg_name (i := 4) sc_phases_read.nd rfl (Or.inl rfl)) pgs_nil))) (pss_cons (ps_set (i := 5) sc_phases_read.nd rfl (Or.inl rfl) (pe_ix ix_list (pv 2) (pe_un un_neg pe_int) (fun _ _ => rfl)))
  (pss_one (ps_if (PW.pt (pw_and (pt_cmpR op_eq (pv 4) (pe_glob (v := .str "|") rfl T.g_BAR.choose_spec ⟨_, rfl⟩) (nomark _)) (pw_and1 (pt_truth (pv 5) (by intro _; rfl))))) (pss_one (ps_expr (pe_bm PySem.F.plainAttrs_list PySem.F.slot_list_append PySem.F.type_list_append mt_append (pv 2) (pa_cons (pe_lst pa_nil) pa_nil)))) (pss_one (ps_expr (pe_bm PySem.F.plainAttrs_list PySem.F.slot_list_append PySem.F.type_list_append mt_append (pv 5) (pa_cons (pe_callS G_integer_at (hr.mono (by decide)) (by rfl) D_integer_at.g D_integer_at.F.kp D_integer_at.b (fun σ => passAt (takes_of rfl rfl rfl rfl) σ) (pa_cons (pv 1) (pa_cons (pv 3) (pa_cons (pe_ifExp (pt_truth (pv 5) (by intro _; rfl)) (pe_op op_add (pe_ix ix_list (pv 5) (pe_un un_neg pe_int) (fun _ _ => rfl)) pe_int) pe_int) (pa_cons (pe_glob (v := .int 20000) rfl T.g_MOST_BIT.choose_spec ⟨_, rfl⟩) pa_nil))))) pa_nil))))))))
  (pss_cons (ps_if (pt_not (pt_truth (pe_ix ix_list (pv 2) (pe_un un_neg pe_int) (fun _ _ => rfl)) (by intro _; rfl))) (pss_one (ps_raise2 rfl (takes_of rfl rfl rfl rfl) R_BadText (hr.mono (by decide)) (by rfl) pe_int (pe_callB call_len_seq (by rfl) T.n_len (by decide +kernel) (pa_cons (pv 1) pa_nil)))) pss_nil)
  (pss_one (ps_ret (pe_callTy call_tuple_of (by rfl) T.n_tuple (by decide +kernel) (pa_cons (pe_lc (own := [("phase", 5)]) (g := (gName 5)) (tt := tYes) (te := tCB (rTupOf K) (tCons (tVar 5) tNil)) rfl sc_phases_read.nd (pi_list (pv 2)) (blkOk_by (N := N_phases_read) (own := [("phase", 5)]) (sc := defScope s_phases_read) (by decide +kernel)) (fun _ _ _ _ _ => (pg_name (i := 5) sc_phases_read.nd rfl (Or.inl rfl))) (fun _ _ _ _ _ => pts_nil) (fun _ _ _ _ _ => (pe_callTy call_tuple_of (by rfl) T.n_tuple (by decide +kernel) (pa_cons (pv 5) pa_nil)))) pa_nil))))))))), ?_⟩
    rcases h with ⟨no, k⟩ | ⟨z, rfl, zl, kx, k⟩
    · exact ⟨_, rfl, x, rfl, .inl ⟨no, k⟩⟩
    refine ⟨_, rfl, .str z, rfl, .inr ⟨z, rfl, by rw [sizeLine_eq]; omega, fun q hq => ?_⟩⟩
    obtain ⟨ys, hys⟩ : ∃ ys, ys = Txt.split z " " := ⟨_, rfl⟩
    rw [← hys] at kx k ⊢
    have yne : ys ≠ [] := by rw [hys]; exact split_ne z
    have yl : ys.length ≤ 100001 := by rw [hys]; exact Nat.le_trans (split_many z) (by omega)
    have ysh : ∀ y ∈ ys, y.length ≤ 1000000 := fun y hy => by
      rw [hys] at hy
      have := MN.split_short hy
      omega
    have Sq := same_new (o := .lst (ys.map V.str)) hq
    have gq : (upd H q (.lst (ys.map V.str))) q = some (.lst (ys.map V.str)) := upd_same
    generalize upd H q _ = H1 at Sq gq ⊢
    obtain ⟨y0, yr, e0⟩ : ∃ y0 yr, ys = y0 :: yr := by
      cases ys with
      | nil => exact absurd rfl yne
      | cons a b => exact ⟨a, b, rfl⟩
    have at0 : atI (ys.map V.str) 0 = some (.str y0) := by rw [e0]; exact atI_nat (j := 0) rfl
    have sqq := SqL.of (K := K) gq
    repeat (first | (with_reducible refine st_tC ?_) | (with_reducible refine st_tOp ?_) | ((with_reducible apply st_n); rfl; rfl; (first | trivial | (show _ ≤ _; omega) | (show _ < _; omega) | (show _ ∨ _; omega) | assumption | exact ⟨by assumption, by omega⟩ | exact ⟨W30.one, by omega⟩ | fail); rfl) | (with_reducible refine st_i0 rfl rfl rfl ?_) | ((with_reducible refine st_i rfl rfl ?_ rfl ?_); first | omega | exact ⟨by decide, by decide, by decide⟩ | exact .inl ⟨by decide, by decide⟩ | exact .inl ⟨by omega, by omega⟩ | exact .inr ⟨by omega, by omega⟩ | fail) | ((fail_if_success refine Exists.intro (α := Nat → Nat → L2.St → Hp → Prop) ?_ ?_); (fail_if_success refine Exists.intro (α := L2.St → Hp → Prop) ?_ ?_); (fail_if_success refine Exists.intro (α := Nat → L2.St → Hp → Prop) ?_ ?_); apply Exists.intro) | ((refine And.intro ?_ ?_); first | with_reducible rfl | with_reducible assumption | rfl | ((with_reducible apply SqL.of); assumption) | ((with_reducible apply SqT.of); assumption) | ((with_reducible apply OwnC.cl); assumption) | (with_reducible exact isI_int _) | exact within_args | (with_reducible exact upd_same) | ((with_reducible apply Mid.o); assumption) | ((with_reducible apply Mid.t); assumption) | exact .inl ⟨rfl, _, SqL.of (by assumption)⟩ | (with_reducible exact ⟨_, SqT.of (by assumption)⟩) | (with_reducible exact ⟨_, SqL.of (by assumption)⟩) | omega | exact Nat.le_of_ble_eq_true rfl | exact nat9 (by omega) | exact ⟨_, rfl⟩ | (show _ ≤ sizeLine; decide) | exact ⟨by decide, by decide, by decide⟩ | exact .inl ⟨by decide, by decide⟩ | exact .inl ⟨by omega, by omega⟩ | exact .inr ⟨by omega, by omega⟩ | assumption | fail) | ((with_reducible refine iteF' ?_ ?_); first | rfl | exact decide_eq_false (by omega) | exact in_no (by omega) (by omega) | exact in_no (by omega) (by assumption) | (simp <;> fail) | fail) | ((with_reducible refine iteT' ?_ ?_); first | rfl | exact decide_eq_true (by omega) | (simp <;> fail) | fail))
    refine iteB (fun b1 => ?_) (fun b1 => ?_)
    · have ey : y0 = "-" := V.str.inj (of_decide_eq_true b1)
      have hr1 : readP ys = if ys.length ≤ 1 then .inr [] else .inl 1 := by
        unfold readP
        rw [e0, ey]
        rfl
      repeat (first | (refine ⟨q, ys, 1, rfl, gq, fun l1 => ?_, fun l1 => ?_⟩) | (with_reducible refine st_tC ?_) | (with_reducible refine st_tOp ?_) | ((with_reducible apply st_n); rfl; rfl; (first | trivial | (show _ ≤ _; omega) | (show _ < _; omega) | (show _ ∨ _; omega) | assumption | exact ⟨by assumption, by omega⟩ | exact ⟨W30.one, by omega⟩ | fail); rfl) | (with_reducible refine st_i0 rfl rfl rfl ?_) | ((with_reducible refine st_i rfl rfl ?_ rfl ?_); first | omega | exact ⟨by decide, by decide, by decide⟩ | exact .inl ⟨by decide, by decide⟩ | exact .inl ⟨by omega, by omega⟩ | exact .inr ⟨by omega, by omega⟩ | fail) | ((fail_if_success refine Exists.intro (α := Nat → Nat → L2.St → Hp → Prop) ?_ ?_); (fail_if_success refine Exists.intro (α := L2.St → Hp → Prop) ?_ ?_); (fail_if_success refine Exists.intro (α := Nat → L2.St → Hp → Prop) ?_ ?_); apply Exists.intro) | ((refine And.intro ?_ ?_); first | with_reducible rfl | with_reducible assumption | rfl | ((with_reducible apply SqL.of); assumption) | ((with_reducible apply SqT.of); assumption) | ((with_reducible apply OwnC.cl); assumption) | (with_reducible exact isI_int _) | exact within_args | (with_reducible exact upd_same) | ((with_reducible apply Mid.o); assumption) | ((with_reducible apply Mid.t); assumption) | exact .inl ⟨rfl, _, SqL.of (by assumption)⟩ | (with_reducible exact ⟨_, SqT.of (by assumption)⟩) | (with_reducible exact ⟨_, SqL.of (by assumption)⟩) | omega | exact Nat.le_of_ble_eq_true rfl | exact nat9 (by omega) | exact ⟨_, rfl⟩ | (show _ ≤ sizeLine; decide) | exact ⟨by decide, by decide, by decide⟩ | exact .inl ⟨by decide, by decide⟩ | exact .inl ⟨by omega, by omega⟩ | exact .inr ⟨by omega, by omega⟩ | assumption | fail) | ((with_reducible refine iteF' ?_ ?_); first | rfl | exact decide_eq_false (by omega) | exact in_no (by omega) (by omega) | exact in_no (by omega) (by assumption) | (simp <;> fail) | fail) | ((with_reducible refine iteT' ?_ ?_); first | rfl | exact decide_eq_true (by omega) | (simp <;> fail) | fail))
      · rw [if_pos l1] at hr1
        repeat (first | (with_reducible refine st_tC ?_) | (with_reducible refine st_tOp ?_) | ((with_reducible apply st_n); rfl; rfl; (first | trivial | (show _ ≤ _; omega) | (show _ < _; omega) | (show _ ∨ _; omega) | assumption | exact ⟨by assumption, by omega⟩ | exact ⟨W30.one, by omega⟩ | fail); rfl) | (with_reducible refine st_i0 rfl rfl rfl ?_) | ((with_reducible refine st_i rfl rfl ?_ rfl ?_); first | omega | exact ⟨by decide, by decide, by decide⟩ | exact .inl ⟨by decide, by decide⟩ | exact .inl ⟨by omega, by omega⟩ | exact .inr ⟨by omega, by omega⟩ | fail) | ((fail_if_success refine Exists.intro (α := Nat → Nat → L2.St → Hp → Prop) ?_ ?_); (fail_if_success refine Exists.intro (α := L2.St → Hp → Prop) ?_ ?_); (fail_if_success refine Exists.intro (α := Nat → L2.St → Hp → Prop) ?_ ?_); apply Exists.intro) | ((refine And.intro ?_ ?_); first | with_reducible rfl | with_reducible assumption | rfl | ((with_reducible apply SqL.of); assumption) | ((with_reducible apply SqT.of); assumption) | ((with_reducible apply OwnC.cl); assumption) | (with_reducible exact isI_int _) | exact within_args | (with_reducible exact upd_same) | ((with_reducible apply Mid.o); assumption) | ((with_reducible apply Mid.t); assumption) | exact .inl ⟨rfl, _, SqL.of (by assumption)⟩ | (with_reducible exact ⟨_, SqT.of (by assumption)⟩) | (with_reducible exact ⟨_, SqL.of (by assumption)⟩) | omega | exact Nat.le_of_ble_eq_true rfl | exact nat9 (by omega) | exact ⟨_, rfl⟩ | (show _ ≤ sizeLine; decide) | exact ⟨by decide, by decide, by decide⟩ | exact .inl ⟨by decide, by decide⟩ | exact .inl ⟨by omega, by omega⟩ | exact .inr ⟨by omega, by omega⟩ | assumption | fail) | ((with_reducible refine iteF' ?_ ?_); first | rfl | exact decide_eq_false (by omega) | exact in_no (by omega) (by omega) | exact in_no (by omega) (by assumption) | (simp <;> fail) | fail) | ((with_reducible refine iteT' ?_ ?_); first | rfl | exact decide_eq_true (by omega) | (simp <;> fail) | fail))
        intro p hp
        exact k [] hr1 p [] _ (Sq.free hp) (Sq.trans (same_new hp)) upd_same trivial
      · rw [if_neg (by omega)] at hr1
        exact kx 1 hr1 H1 Sq
    have ey : y0 ≠ "-" := fun z => of_decide_eq_false b1 (by rw [z])
    have hread : readP ys = rd ([], []) 0 ys := by
      unfold readP
      rw [if_neg (by rw [e0]; intro z; exact ey (Option.some.inj z))]
    clear b1 ey at0 e0 sqq
    repeat (first | (with_reducible refine st_tC ?_) | (with_reducible refine st_tOp ?_) | ((with_reducible apply st_n); rfl; rfl; (first | trivial | (show _ ≤ _; omega) | (show _ < _; omega) | (show _ ∨ _; omega) | assumption | exact ⟨by assumption, by omega⟩ | exact ⟨W30.one, by omega⟩ | fail); rfl) | (with_reducible refine st_i0 rfl rfl rfl ?_) | ((with_reducible refine st_i rfl rfl ?_ rfl ?_); first | omega | exact ⟨by decide, by decide, by decide⟩ | exact .inl ⟨by decide, by decide⟩ | exact .inl ⟨by omega, by omega⟩ | exact .inr ⟨by omega, by omega⟩ | fail) | ((fail_if_success refine Exists.intro (α := Nat → Nat → L2.St → Hp → Prop) ?_ ?_); (fail_if_success refine Exists.intro (α := L2.St → Hp → Prop) ?_ ?_); (fail_if_success refine Exists.intro (α := Nat → L2.St → Hp → Prop) ?_ ?_); apply Exists.intro) | ((refine And.intro ?_ ?_); first | with_reducible rfl | with_reducible assumption | rfl | ((with_reducible apply SqL.of); assumption) | ((with_reducible apply SqT.of); assumption) | ((with_reducible apply OwnC.cl); assumption) | (with_reducible exact isI_int _) | exact within_args | (with_reducible exact upd_same) | ((with_reducible apply Mid.o); assumption) | ((with_reducible apply Mid.t); assumption) | exact .inl ⟨rfl, _, SqL.of (by assumption)⟩ | (with_reducible exact ⟨_, SqT.of (by assumption)⟩) | (with_reducible exact ⟨_, SqL.of (by assumption)⟩) | omega | exact Nat.le_of_ble_eq_true rfl | exact nat9 (by omega) | exact ⟨_, rfl⟩ | (show _ ≤ sizeLine; decide) | exact ⟨by decide, by decide, by decide⟩ | exact .inl ⟨by decide, by decide⟩ | exact .inl ⟨by omega, by omega⟩ | exact .inr ⟨by omega, by omega⟩ | assumption | fail) | ((with_reducible refine iteF' ?_ ?_); first | rfl | exact decide_eq_false (by omega) | exact in_no (by omega) (by omega) | exact in_no (by omega) (by assumption) | (simp <;> fail) | fail) | ((with_reducible refine iteT' ?_ ?_); first | rfl | exact decide_eq_true (by omega) | (simp <;> fail) | fail))
    intro c0 hc0
    have S2 := same_new (o := .lst []) hc0
    have gc : (upd H1 c0 (.lst [])) c0 = some (.lst []) := upd_same
    generalize upd H1 c0 _ = H2 at S2 gc ⊢
    repeat (first | (with_reducible refine st_tC ?_) | (with_reducible refine st_tOp ?_) | ((with_reducible apply st_n); rfl; rfl; (first | trivial | (show _ ≤ _; omega) | (show _ < _; omega) | (show _ ∨ _; omega) | assumption | exact ⟨by assumption, by omega⟩ | exact ⟨W30.one, by omega⟩ | fail); rfl) | (with_reducible refine st_i0 rfl rfl rfl ?_) | ((with_reducible refine st_i rfl rfl ?_ rfl ?_); first | omega | exact ⟨by decide, by decide, by decide⟩ | exact .inl ⟨by decide, by decide⟩ | exact .inl ⟨by omega, by omega⟩ | exact .inr ⟨by omega, by omega⟩ | fail) | ((fail_if_success refine Exists.intro (α := Nat → Nat → L2.St → Hp → Prop) ?_ ?_); (fail_if_success refine Exists.intro (α := L2.St → Hp → Prop) ?_ ?_); (fail_if_success refine Exists.intro (α := Nat → L2.St → Hp → Prop) ?_ ?_); apply Exists.intro) | ((refine And.intro ?_ ?_); first | with_reducible rfl | with_reducible assumption | rfl | ((with_reducible apply SqL.of); assumption) | ((with_reducible apply SqT.of); assumption) | ((with_reducible apply OwnC.cl); assumption) | (with_reducible exact isI_int _) | exact within_args | (with_reducible exact upd_same) | ((with_reducible apply Mid.o); assumption) | ((with_reducible apply Mid.t); assumption) | exact .inl ⟨rfl, _, SqL.of (by assumption)⟩ | (with_reducible exact ⟨_, SqT.of (by assumption)⟩) | (with_reducible exact ⟨_, SqL.of (by assumption)⟩) | omega | exact Nat.le_of_ble_eq_true rfl | exact nat9 (by omega) | exact ⟨_, rfl⟩ | (show _ ≤ sizeLine; decide) | exact ⟨by decide, by decide, by decide⟩ | exact .inl ⟨by decide, by decide⟩ | exact .inl ⟨by omega, by omega⟩ | exact .inr ⟨by omega, by omega⟩ | assumption | fail) | ((with_reducible refine iteF' ?_ ?_); first | rfl | exact decide_eq_false (by omega) | exact in_no (by omega) (by omega) | exact in_no (by omega) (by assumption) | (simp <;> fail) | fail) | ((with_reducible refine iteT' ?_ ?_); first | rfl | exact decide_eq_true (by omega) | (simp <;> fail) | fail))
    intro P hP
    have S3 := same_new (o := .lst [V.ref c0]) hP
    have gP : (upd H2 P (.lst [V.ref c0])) P = some (.lst [V.ref c0]) := upd_same
    have ncP : c0 ≠ P := ne_of_none gc hP
    replace gc := S3 _ _ gc
    generalize upd H2 P _ = H3 at S3 gP gc ⊢
    have S13 := S2.trans S3
    have hP1 : H1 P = none := S2.free hP
    clear S2 S3 hP
    have sq3 := SqL.of (K := K) (S13 _ _ gq)
    repeat (first | (with_reducible refine st_tC ?_) | (with_reducible refine st_tOp ?_) | ((with_reducible apply st_n); rfl; rfl; (first | trivial | (show _ ≤ _; omega) | (show _ < _; omega) | (show _ ∨ _; omega) | assumption | exact ⟨by assumption, by omega⟩ | exact ⟨W30.one, by omega⟩ | fail); rfl) | (with_reducible refine st_i0 rfl rfl rfl ?_) | ((with_reducible refine st_i rfl rfl ?_ rfl ?_); first | omega | exact ⟨by decide, by decide, by decide⟩ | exact .inl ⟨by decide, by decide⟩ | exact .inl ⟨by omega, by omega⟩ | exact .inr ⟨by omega, by omega⟩ | fail) | ((fail_if_success refine Exists.intro (α := Nat → Nat → L2.St → Hp → Prop) ?_ ?_); (fail_if_success refine Exists.intro (α := L2.St → Hp → Prop) ?_ ?_); (fail_if_success refine Exists.intro (α := Nat → L2.St → Hp → Prop) ?_ ?_); apply Exists.intro) | ((refine And.intro ?_ ?_); first | with_reducible rfl | with_reducible assumption | rfl | ((with_reducible apply SqL.of); assumption) | ((with_reducible apply SqT.of); assumption) | ((with_reducible apply OwnC.cl); assumption) | (with_reducible exact isI_int _) | exact within_args | (with_reducible exact upd_same) | ((with_reducible apply Mid.o); assumption) | ((with_reducible apply Mid.t); assumption) | exact .inl ⟨rfl, _, SqL.of (by assumption)⟩ | (with_reducible exact ⟨_, SqT.of (by assumption)⟩) | (with_reducible exact ⟨_, SqL.of (by assumption)⟩) | omega | exact Nat.le_of_ble_eq_true rfl | exact nat9 (by omega) | exact ⟨_, rfl⟩ | (show _ ≤ sizeLine; decide) | exact ⟨by decide, by decide, by decide⟩ | exact .inl ⟨by decide, by decide⟩ | exact .inl ⟨by omega, by omega⟩ | exact .inr ⟨by omega, by omega⟩ | assumption | fail) | ((with_reducible refine iteF' ?_ ?_); first | rfl | exact decide_eq_false (by omega) | exact in_no (by omega) (by omega) | exact in_no (by omega) (by assumption) | (simp <;> fail) | fail) | ((with_reducible refine iteT' ?_ ?_); first | rfl | exact decide_eq_true (by omega) | (simp <;> fail) | fail))
    refine for_it (walk_enum (K := K) (a := q) (xs := ys.map V.str)) (fun i σ H' => Same H1 H' ∧ Hid (∃ (D : List (List Nat)) (c : List Nat) (vs : List V) (c0 : Addr) (u3 u4 u5 : Option V), rd (D, c) i (ys.drop i) = rd ([], []) 0 ys ∧ H' P = some (.lst (vs ++ [.ref c0])) ∧ PLs H' vs D ∧ H' c0 = some (.lst (natV c)) ∧ V.ref c0 ∉ vs ∧ V.ref P ∉ vs ∧ c0 ≠ P ∧ H1 c0 = none ∧ D.length ≤ i ∧ c.length ≤ i ∧
      σ = [some (.str z), some (.ref q), some (.ref P), u3, u4, u5])) ⟨S13, ⟨[], [], [], c0, _, _, _, rfl, gP, trivial, gc, List.not_mem_nil, List.not_mem_nil, ncP, hc0, Nat.le_refl _, Nat.le_refl _, rfl⟩⟩ (fun i σ H' _ w => SqL.of (w.1 _ _ gq)) ?_ ?_
    · clear S13 gP gc ncP hc0 c0
      rintro i y σ H' H'' hi ⟨S17, ⟨D, c, vs, c0, u3, u4, u5, hrd, gP, pls, gc, nv, nP, ncP, hc0, lD, lc, rfl⟩⟩ ⟨Tq, a1, b1, rfl, hT, rfl, ea, eb⟩
      obtain rfl : V.int (i : Int) = a1 := Option.some.inj ea
      obtain ⟨y, ey, rfl⟩ : ∃ y, ys[i]? = some y ∧ b1 = V.str y := by
        replace eb : (ys.map V.str)[i]? = some b1 := eb
        rw [List.getElem?_map] at eb
        cases e : ys[i]? with
        | none => rw [e] at eb; cases eb
        | some y => rw [e] at eb; exact ⟨y, rfl, (Option.some.inj eb).symm⟩
      clear eb
      have il : i < ys.length := (List.getElem?_eq_some_iff.mp ey).1
      have dr : ys.drop i = y :: ys.drop (i + 1) := by
        obtain ⟨h1, h2⟩ := List.getElem?_eq_some_iff.mp ey
        rw [← h2]
        exact List.drop_eq_getElem_cons h1
      rw [dr, rd] at hrd
      have S8 := same_new (o := .tup [V.int (i : Int), V.str y]) hT
      have S18 := S17.trans S8
      refine ⟨Tq, _, rfl, SqT.of upd_same, rfl, _, _, rfl, _, _, rfl, rfl, ?_⟩
      generalize upd H' Tq _ = H8 at S8 S18 ⊢
      have gP8 := S8 _ _ gP
      have gc8 := S8 _ _ gc
      have gq8 := S18 _ _ gq
      have pls8 := pls.mono fun t _ xs e => S8 _ _ e
      have lvs := pls.len
      clear gP gc pls S8 S17 hT ea dr
      have atl : atI (vs ++ [V.ref c0]) (-1) = some (.ref c0) := atI_last _ _
      have sqP := SqL.of (K := K) gP8
      have sz8 : (natV c).length < sizeLine := by
        rw [natV_len, sizeLine_eq]
        omega
      have tv : TruV K (.ref c0) H8 (!(natV c).isEmpty) := tru_lst gc8
      repeat (first | (with_reducible refine st_tC ?_) | (with_reducible refine st_tOp ?_) | ((with_reducible apply st_n); rfl; rfl; (first | trivial | (show _ ≤ _; omega) | (show _ < _; omega) | (show _ ∨ _; omega) | assumption | exact ⟨by assumption, by omega⟩ | exact ⟨W30.one, by omega⟩ | fail); rfl) | (with_reducible refine st_i0 rfl rfl rfl ?_) | ((with_reducible refine st_i rfl rfl ?_ rfl ?_); first | omega | exact ⟨by decide, by decide, by decide⟩ | exact .inl ⟨by decide, by decide⟩ | exact .inl ⟨by omega, by omega⟩ | exact .inr ⟨by omega, by omega⟩ | fail) | ((fail_if_success refine Exists.intro (α := Nat → Nat → L2.St → Hp → Prop) ?_ ?_); (fail_if_success refine Exists.intro (α := L2.St → Hp → Prop) ?_ ?_); (fail_if_success refine Exists.intro (α := Nat → L2.St → Hp → Prop) ?_ ?_); apply Exists.intro) | ((refine And.intro ?_ ?_); first | with_reducible rfl | with_reducible assumption | rfl | ((with_reducible apply SqL.of); assumption) | ((with_reducible apply SqT.of); assumption) | ((with_reducible apply OwnC.cl); assumption) | (with_reducible exact isI_int _) | exact within_args | (with_reducible exact upd_same) | ((with_reducible apply Mid.o); assumption) | ((with_reducible apply Mid.t); assumption) | exact .inl ⟨rfl, _, SqL.of (by assumption)⟩ | (with_reducible exact ⟨_, SqT.of (by assumption)⟩) | (with_reducible exact ⟨_, SqL.of (by assumption)⟩) | omega | exact Nat.le_of_ble_eq_true rfl | exact nat9 (by omega) | exact ⟨_, rfl⟩ | (show _ ≤ sizeLine; decide) | exact ⟨by decide, by decide, by decide⟩ | exact .inl ⟨by decide, by decide⟩ | exact .inl ⟨by omega, by omega⟩ | exact .inr ⟨by omega, by omega⟩ | assumption | fail) | ((with_reducible refine iteF' ?_ ?_); first | rfl | exact decide_eq_false (by omega) | exact in_no (by omega) (by omega) | exact in_no (by omega) (by assumption) | (simp <;> fail) | fail) | ((with_reducible refine iteT' ?_ ?_); first | rfl | exact decide_eq_true (by omega) | (simp <;> fail) | fail))
      by_cases hb : y = "|" ∧ c ≠ []
      · obtain ⟨rfl, cn⟩ := hb
        have hs : stp (D, c) "|" = some (D ++ [c], []) := by
          unfold stp
          exact if_pos ⟨rfl, cn⟩
        rw [hs] at hrd
        have tt : (!(natV c).isEmpty) = true := by
          cases c with
          | nil => exact absurd rfl cn
          | cons _ _ => rfl
        rw [tt] at tv
        repeat (first | (with_reducible refine st_tC ?_) | (with_reducible refine st_tOp ?_) | ((with_reducible apply st_n); rfl; rfl; (first | trivial | (show _ ≤ _; omega) | (show _ < _; omega) | (show _ ∨ _; omega) | assumption | exact ⟨by assumption, by omega⟩ | exact ⟨W30.one, by omega⟩ | fail); rfl) | (with_reducible refine st_i0 rfl rfl rfl ?_) | ((with_reducible refine st_i rfl rfl ?_ rfl ?_); first | omega | exact ⟨by decide, by decide, by decide⟩ | exact .inl ⟨by decide, by decide⟩ | exact .inl ⟨by omega, by omega⟩ | exact .inr ⟨by omega, by omega⟩ | fail) | ((fail_if_success refine Exists.intro (α := Nat → Nat → L2.St → Hp → Prop) ?_ ?_); (fail_if_success refine Exists.intro (α := L2.St → Hp → Prop) ?_ ?_); (fail_if_success refine Exists.intro (α := Nat → L2.St → Hp → Prop) ?_ ?_); apply Exists.intro) | ((refine And.intro ?_ ?_); first | with_reducible rfl | with_reducible assumption | rfl | ((with_reducible apply SqL.of); assumption) | ((with_reducible apply SqT.of); assumption) | ((with_reducible apply OwnC.cl); assumption) | (with_reducible exact isI_int _) | exact within_args | (with_reducible exact upd_same) | ((with_reducible apply Mid.o); assumption) | ((with_reducible apply Mid.t); assumption) | exact .inl ⟨rfl, _, SqL.of (by assumption)⟩ | (with_reducible exact ⟨_, SqT.of (by assumption)⟩) | (with_reducible exact ⟨_, SqL.of (by assumption)⟩) | omega | exact Nat.le_of_ble_eq_true rfl | exact nat9 (by omega) | exact ⟨_, rfl⟩ | (show _ ≤ sizeLine; decide) | exact ⟨by decide, by decide, by decide⟩ | exact .inl ⟨by decide, by decide⟩ | exact .inl ⟨by omega, by omega⟩ | exact .inr ⟨by omega, by omega⟩ | assumption | fail) | ((with_reducible refine iteF' ?_ ?_); first | rfl | exact decide_eq_false (by omega) | exact in_no (by omega) (by omega) | exact in_no (by omega) (by assumption) | (simp <;> fail) | fail) | ((with_reducible refine iteT' ?_ ?_); first | rfl | exact decide_eq_true (by omega) | (simp <;> fail) | fail))
        intro c1 hc1
        have S9 := same_new (o := .lst []) hc1
        have g1 : (upd H8 c1 (.lst [])) c1 = some (.lst []) := upd_same
        generalize upd H8 c1 _ = H9 at S9 g1 ⊢
        have n1 := pls8.new hc1
        have nc : c1 ≠ c0 := (ne_of_none gc8 hc1).symm
        have nP1 : c1 ≠ P := (ne_of_none gP8 hc1).symm
        have h1n := S18.free hc1
        have gP9 := S9 _ _ gP8
        have szP : (vs ++ [V.ref c0]).length < sizeLine := by
          rw [List.length_append, sizeLine_eq]
          show _ + 1 < _
          omega
        repeat (first | (with_reducible refine st_tC ?_) | (with_reducible refine st_tOp ?_) | ((with_reducible apply st_n); rfl; rfl; (first | trivial | (show _ ≤ _; omega) | (show _ < _; omega) | (show _ ∨ _; omega) | assumption | exact ⟨by assumption, by omega⟩ | exact ⟨W30.one, by omega⟩ | fail); rfl) | (with_reducible refine st_i0 rfl rfl rfl ?_) | ((with_reducible refine st_i rfl rfl ?_ rfl ?_); first | omega | exact ⟨by decide, by decide, by decide⟩ | exact .inl ⟨by decide, by decide⟩ | exact .inl ⟨by omega, by omega⟩ | exact .inr ⟨by omega, by omega⟩ | fail) | ((fail_if_success refine Exists.intro (α := Nat → Nat → L2.St → Hp → Prop) ?_ ?_); (fail_if_success refine Exists.intro (α := L2.St → Hp → Prop) ?_ ?_); (fail_if_success refine Exists.intro (α := Nat → L2.St → Hp → Prop) ?_ ?_); apply Exists.intro) | ((refine And.intro ?_ ?_); first | with_reducible rfl | with_reducible assumption | rfl | ((with_reducible apply SqL.of); assumption) | ((with_reducible apply SqT.of); assumption) | ((with_reducible apply OwnC.cl); assumption) | (with_reducible exact isI_int _) | exact within_args | (with_reducible exact upd_same) | ((with_reducible apply Mid.o); assumption) | ((with_reducible apply Mid.t); assumption) | exact .inl ⟨rfl, _, SqL.of (by assumption)⟩ | (with_reducible exact ⟨_, SqT.of (by assumption)⟩) | (with_reducible exact ⟨_, SqL.of (by assumption)⟩) | omega | exact Nat.le_of_ble_eq_true rfl | exact nat9 (by omega) | exact ⟨_, rfl⟩ | (show _ ≤ sizeLine; decide) | exact ⟨by decide, by decide, by decide⟩ | exact .inl ⟨by decide, by decide⟩ | exact .inl ⟨by omega, by omega⟩ | exact .inr ⟨by omega, by omega⟩ | assumption | fail) | ((with_reducible refine iteF' ?_ ?_); first | rfl | exact decide_eq_false (by omega) | exact in_no (by omega) (by omega) | exact in_no (by omega) (by assumption) | (simp <;> fail) | fail) | ((with_reducible refine iteT' ?_ ?_); first | rfl | exact decide_eq_true (by omega) | (simp <;> fail) | fail))
        refine ⟨fun a o e => ?_, ⟨D ++ [c], [], vs ++ [V.ref c0], c1, _, _, _, hrd, upd_same, ?_, ?_, ?_, ?_, nP1, h1n, by rw [List.length_append]; show _ + 1 ≤ _; omega, Nat.zero_le _, rfl⟩⟩
        · rw [upd_ne (ne_of_none e hP1)]
          exact S9 _ _ (S18 a o e)
        · refine PLs.app (vs2 := [V.ref c0]) (ps2 := [c]) ⟨⟨c0, rfl, ?_⟩, trivial⟩ (pls8.mono fun t ht xs e => ?_)
          · rw [upd_ne ncP]
            exact S9 _ _ gc8
          · rw [upd_ne (show t ≠ P from fun z => nP (by rw [← z]; exact ht))]
            exact S9 _ _ e
        · rw [upd_ne nP1]
          exact g1
        · intro z
          rcases List.mem_append.mp z with z | z
          · exact n1 z
          · have := List.mem_singleton.mp z
            injection this with this
            exact nc this
        · intro z
          rcases List.mem_append.mp z with z | z
          · exact nP z
          · have := List.mem_singleton.mp z
            injection this with this
            exact ncP this.symm
      · refine iteX (fun b1 kY => ?_) ?_
        · have cn : c = [] := Classical.byContradiction fun z => hb ⟨V.str.inj (of_decide_eq_true b1), z⟩
          refine ⟨_, rfl, _, tv, ?_⟩
          subst cn
          exact iteF kY
        · rcases List.eq_nil_or_concat c with rfl | ⟨c', n, rfl⟩
          · skip
            skip
            repeat (first | (refine ⟨q, ys, i, _, 20000, rfl, gq8, ysh, (by omega), (fun y' m e1 e2 e3 e4 => ?_), (fun y' e1 e2 => ?_), fun e1 => ?_⟩) | (with_reducible refine st_tC ?_) | (with_reducible refine st_tOp ?_) | ((with_reducible apply st_n); rfl; rfl; (first | trivial | (show _ ≤ _; omega) | (show _ < _; omega) | (show _ ∨ _; omega) | assumption | exact ⟨by assumption, by omega⟩ | exact ⟨W30.one, by omega⟩ | fail); rfl) | (with_reducible refine st_i0 rfl rfl rfl ?_) | ((with_reducible refine st_i rfl rfl ?_ rfl ?_); first | omega | exact ⟨by decide, by decide, by decide⟩ | exact .inl ⟨by decide, by decide⟩ | exact .inl ⟨by omega, by omega⟩ | exact .inr ⟨by omega, by omega⟩ | fail) | ((fail_if_success refine Exists.intro (α := Nat → Nat → L2.St → Hp → Prop) ?_ ?_); (fail_if_success refine Exists.intro (α := L2.St → Hp → Prop) ?_ ?_); (fail_if_success refine Exists.intro (α := Nat → L2.St → Hp → Prop) ?_ ?_); apply Exists.intro) | ((refine And.intro ?_ ?_); first | with_reducible rfl | with_reducible assumption | rfl | ((with_reducible apply SqL.of); assumption) | ((with_reducible apply SqT.of); assumption) | ((with_reducible apply OwnC.cl); assumption) | (with_reducible exact isI_int _) | exact within_args | (with_reducible exact upd_same) | ((with_reducible apply Mid.o); assumption) | ((with_reducible apply Mid.t); assumption) | exact .inl ⟨rfl, _, SqL.of (by assumption)⟩ | (with_reducible exact ⟨_, SqT.of (by assumption)⟩) | (with_reducible exact ⟨_, SqL.of (by assumption)⟩) | omega | exact Nat.le_of_ble_eq_true rfl | exact nat9 (by omega) | exact ⟨_, rfl⟩ | (show _ ≤ sizeLine; decide) | exact ⟨by decide, by decide, by decide⟩ | exact .inl ⟨by decide, by decide⟩ | exact .inl ⟨by omega, by omega⟩ | exact .inr ⟨by omega, by omega⟩ | assumption | fail) | ((with_reducible refine iteF' ?_ ?_); first | rfl | exact decide_eq_false (by omega) | exact in_no (by omega) (by omega) | exact in_no (by omega) (by assumption) | (simp <;> fail) | fail) | ((with_reducible refine iteT' ?_ ?_); first | rfl | exact decide_eq_true (by omega) | (simp <;> fail) | fail))
            · obtain rfl : y = y' := Option.some.inj (ey.symm.trans e1)
              have hs : stp (D, []) y = some (D, [] ++ [m]) := by
                unfold stp
                rw [if_neg hb, e2]
                exact if_pos ⟨by first | rw [low_snoc]; omega | exact Nat.zero_le _, by omega⟩
              rw [hs] at hrd
              refine ⟨fun a o e => ?_, ⟨D, [] ++ [m], vs, c0, _, _, _, hrd, ?_, ?_, ?_, nv, nP, ncP, hc0, by omega, by rw [List.length_append]; show _ + 1 ≤ _; omega, rfl⟩⟩
              · rw [upd_ne (ne_of_none e hc0)]
                exact S18 a o e
              · rw [upd_ne ncP.symm]
                exact gP8
              · exact pls8.mono fun t ht xs e => by
                  rw [upd_ne (show t ≠ c0 from fun z => nv (by rw [← z]; exact ht))]
                  exact e
              · rw [upd_same]
                exact congrArg (fun l => some (HO.lst l)) (by simp [natV])
            · obtain rfl : y = y' := Option.some.inj (ey.symm.trans e1)
              have hs : stp (D, []) y = none := by
                unfold stp
                rw [if_neg hb]
                cases en : MN.num y with
                | none => rfl
                | some m =>
                  refine if_neg fun w => ?_
                  rw [MN.inR_of (lo := 0) (hi := 20000) en (by omega) (by omega)] at e2
                  cases e2
              rw [hs] at hrd
              exact kx i (hread.trans hrd.symm) _ (Sq.trans S18)
            · rw [ey] at e1
              cases e1
          · rw [List.concat_eq_append] at *
            have tt : (!(natV (c' ++ [n])).isEmpty) = true := by
              rw [← natV_snoc]
              cases natV c' <;> rfl
            rw [tt] at tv
            have gl8 := gc8
            rw [← natV_snoc] at gl8 sz8
            have sqc := SqL.of (K := K) gl8
            have atc : atI (natV c' ++ [V.int (n : Int)]) (-1) = some (.int (n : Int)) := atI_last _ _
            skip
            repeat (first | (refine ⟨q, ys, i, _, 20000, rfl, gq8, ysh, (by omega), (fun y' m e1 e2 e3 e4 => ?_), (fun y' e1 e2 => ?_), fun e1 => ?_⟩) | (with_reducible refine st_tC ?_) | (with_reducible refine st_tOp ?_) | ((with_reducible apply st_n); rfl; rfl; (first | trivial | (show _ ≤ _; omega) | (show _ < _; omega) | (show _ ∨ _; omega) | assumption | exact ⟨by assumption, by omega⟩ | exact ⟨W30.one, by omega⟩ | fail); rfl) | (with_reducible refine st_i0 rfl rfl rfl ?_) | ((with_reducible refine st_i rfl rfl ?_ rfl ?_); first | omega | exact ⟨by decide, by decide, by decide⟩ | exact .inl ⟨by decide, by decide⟩ | exact .inl ⟨by omega, by omega⟩ | exact .inr ⟨by omega, by omega⟩ | fail) | ((fail_if_success refine Exists.intro (α := Nat → Nat → L2.St → Hp → Prop) ?_ ?_); (fail_if_success refine Exists.intro (α := L2.St → Hp → Prop) ?_ ?_); (fail_if_success refine Exists.intro (α := Nat → L2.St → Hp → Prop) ?_ ?_); apply Exists.intro) | ((refine And.intro ?_ ?_); first | with_reducible rfl | with_reducible assumption | rfl | ((with_reducible apply SqL.of); assumption) | ((with_reducible apply SqT.of); assumption) | ((with_reducible apply OwnC.cl); assumption) | (with_reducible exact isI_int _) | exact within_args | (with_reducible exact upd_same) | ((with_reducible apply Mid.o); assumption) | ((with_reducible apply Mid.t); assumption) | exact .inl ⟨rfl, _, SqL.of (by assumption)⟩ | (with_reducible exact ⟨_, SqT.of (by assumption)⟩) | (with_reducible exact ⟨_, SqL.of (by assumption)⟩) | omega | exact Nat.le_of_ble_eq_true rfl | exact nat9 (by omega) | exact ⟨_, rfl⟩ | (show _ ≤ sizeLine; decide) | exact ⟨by decide, by decide, by decide⟩ | exact .inl ⟨by decide, by decide⟩ | exact .inl ⟨by omega, by omega⟩ | exact .inr ⟨by omega, by omega⟩ | assumption | fail) | ((with_reducible refine iteF' ?_ ?_); first | rfl | exact decide_eq_false (by omega) | exact in_no (by omega) (by omega) | exact in_no (by omega) (by assumption) | (simp <;> fail) | fail) | ((with_reducible refine iteT' ?_ ?_); first | rfl | exact decide_eq_true (by omega) | (simp <;> fail) | fail))
            · obtain rfl : y = y' := Option.some.inj (ey.symm.trans e1)
              have hs : stp (D, (c' ++ [n])) y = some (D, (c' ++ [n]) ++ [m]) := by
                unfold stp
                rw [if_neg hb, e2]
                exact if_pos ⟨by first | rw [low_snoc]; omega | exact Nat.zero_le _, by omega⟩
              rw [hs] at hrd
              refine ⟨fun a o e => ?_, ⟨D, (c' ++ [n]) ++ [m], vs, c0, _, _, _, hrd, ?_, ?_, ?_, nv, nP, ncP, hc0, by omega, by rw [List.length_append]; show _ + 1 ≤ _; omega, rfl⟩⟩
              · rw [upd_ne (ne_of_none e hc0)]
                exact S18 a o e
              · rw [upd_ne ncP.symm]
                exact gP8
              · exact pls8.mono fun t ht xs e => by
                  rw [upd_ne (show t ≠ c0 from fun z => nv (by rw [← z]; exact ht))]
                  exact e
              · rw [upd_same]
                exact congrArg (fun l => some (HO.lst l)) (by simp [natV])
            · obtain rfl : y = y' := Option.some.inj (ey.symm.trans e1)
              have hs : stp (D, (c' ++ [n])) y = none := by
                unfold stp
                rw [if_neg hb]
                cases en : MN.num y with
                | none => rfl
                | some m =>
                  refine if_neg fun w => ?_
                  have w1 : low (c' ++ [n]) ≤ m := w.1
                  rw [low_snoc] at w1
                  rw [MN.inR_of (lo := (n : Int) + 1) (hi := 20000) en (by omega) (by omega)] at e2
                  cases e2
              rw [hs] at hrd
              exact kx i (hread.trans hrd.symm) _ (Sq.trans S18)
            · rw [ey] at e1
              cases e1
    · rintro σ H' ⟨S17, ⟨D, c, vs, c0, u3, u4, u5, hrd, gP, pls, gc, nv, nP, ncP, hc0, lD, lc, rfl⟩⟩
      rw [List.length_map] at hrd lD lc
      rw [List.drop_length, rd] at hrd
      have gq' := S17 _ _ gq
      have sqq := SqL.of (K := K) gq'
      have atl : atI (vs ++ [V.ref c0]) (-1) = some (.ref c0) := atI_last _ _
      have sqP := SqL.of (K := K) gP
      have tv : TruV K (.ref c0) H' (!(natV c).isEmpty) := tru_lst gc
      have sqo : SqL K H' q (ys.map V.str) ∨ SqT K H' q (ys.map V.str) := .inl sqq
      have plA : PLs H' (vs ++ [V.ref c0]) (D ++ [c]) := PLs.app (vs2 := [V.ref c0]) (ps2 := [c]) ⟨⟨c0, rfl, gc⟩, trivial⟩ pls
      have lA := plA.len
      cases c with
      | nil =>
        rw [if_pos rfl] at hrd
        have kk := kx _ (hread.trans hrd.symm) _ (Sq.trans S17)
        repeat (first | (with_reducible refine st_tC ?_) | (with_reducible refine st_tOp ?_) | ((with_reducible apply st_n); rfl; rfl; (first | trivial | (show _ ≤ _; omega) | (show _ < _; omega) | (show _ ∨ _; omega) | assumption | exact ⟨by assumption, by omega⟩ | exact ⟨W30.one, by omega⟩ | fail); rfl) | (with_reducible refine st_i0 rfl rfl rfl ?_) | ((with_reducible refine st_i rfl rfl ?_ rfl ?_); first | omega | exact ⟨by decide, by decide, by decide⟩ | exact .inl ⟨by decide, by decide⟩ | exact .inl ⟨by omega, by omega⟩ | exact .inr ⟨by omega, by omega⟩ | fail) | ((fail_if_success refine Exists.intro (α := Nat → Nat → L2.St → Hp → Prop) ?_ ?_); (fail_if_success refine Exists.intro (α := L2.St → Hp → Prop) ?_ ?_); (fail_if_success refine Exists.intro (α := Nat → L2.St → Hp → Prop) ?_ ?_); apply Exists.intro) | ((refine And.intro ?_ ?_); first | with_reducible rfl | with_reducible assumption | rfl | ((with_reducible apply SqL.of); assumption) | ((with_reducible apply SqT.of); assumption) | ((with_reducible apply OwnC.cl); assumption) | (with_reducible exact isI_int _) | exact within_args | (with_reducible exact upd_same) | ((with_reducible apply Mid.o); assumption) | ((with_reducible apply Mid.t); assumption) | exact .inl ⟨rfl, _, SqL.of (by assumption)⟩ | (with_reducible exact ⟨_, SqT.of (by assumption)⟩) | (with_reducible exact ⟨_, SqL.of (by assumption)⟩) | omega | exact Nat.le_of_ble_eq_true rfl | exact nat9 (by omega) | exact ⟨_, rfl⟩ | (show _ ≤ sizeLine; decide) | exact ⟨by decide, by decide, by decide⟩ | exact .inl ⟨by decide, by decide⟩ | exact .inl ⟨by omega, by omega⟩ | exact .inr ⟨by omega, by omega⟩ | assumption | fail) | ((with_reducible refine iteF' ?_ ?_); first | rfl | exact decide_eq_false (by omega) | exact in_no (by omega) (by omega) | exact in_no (by omega) (by assumption) | (simp <;> fail) | fail) | ((with_reducible refine iteT' ?_ ?_); first | rfl | exact decide_eq_true (by omega) | (simp <;> fail) | fail))
        rw [List.length_map]
        have rr := raise2_of (σ := []) (W := fun cls d _ H => E cls d H) R_BadText.T R_BadText.no R_BadText.no2 kk
        exact rr.2
      | cons a0 r0 =>
        rw [if_neg (by intro z; cases z)] at hrd
        have kk := k _ (hread.trans hrd.symm)
        have tt : (!(natV (a0 :: r0)).isEmpty) = true := rfl
        generalize a0 :: r0 = c at *
        rw [tt] at tv
        repeat (first | (with_reducible refine st_tC ?_) | (with_reducible refine st_tOp ?_) | ((with_reducible apply st_n); rfl; rfl; (first | trivial | (show _ ≤ _; omega) | (show _ < _; omega) | (show _ ∨ _; omega) | assumption | exact ⟨by assumption, by omega⟩ | exact ⟨W30.one, by omega⟩ | fail); rfl) | (with_reducible refine st_i0 rfl rfl rfl ?_) | ((with_reducible refine st_i rfl rfl ?_ rfl ?_); first | omega | exact ⟨by decide, by decide, by decide⟩ | exact .inl ⟨by decide, by decide⟩ | exact .inl ⟨by omega, by omega⟩ | exact .inr ⟨by omega, by omega⟩ | fail) | ((fail_if_success refine Exists.intro (α := Nat → Nat → L2.St → Hp → Prop) ?_ ?_); (fail_if_success refine Exists.intro (α := L2.St → Hp → Prop) ?_ ?_); (fail_if_success refine Exists.intro (α := Nat → L2.St → Hp → Prop) ?_ ?_); apply Exists.intro) | ((refine And.intro ?_ ?_); first | with_reducible rfl | with_reducible assumption | rfl | ((with_reducible apply SqL.of); assumption) | ((with_reducible apply SqT.of); assumption) | ((with_reducible apply OwnC.cl); assumption) | (with_reducible exact isI_int _) | exact within_args | (with_reducible exact upd_same) | ((with_reducible apply Mid.o); assumption) | ((with_reducible apply Mid.t); assumption) | exact .inl ⟨rfl, _, SqL.of (by assumption)⟩ | (with_reducible exact ⟨_, SqT.of (by assumption)⟩) | (with_reducible exact ⟨_, SqL.of (by assumption)⟩) | omega | exact Nat.le_of_ble_eq_true rfl | exact nat9 (by omega) | exact ⟨_, rfl⟩ | (show _ ≤ sizeLine; decide) | exact ⟨by decide, by decide, by decide⟩ | exact .inl ⟨by decide, by decide⟩ | exact .inl ⟨by omega, by omega⟩ | exact .inr ⟨by omega, by omega⟩ | assumption | fail) | ((with_reducible refine iteF' ?_ ?_); first | rfl | exact decide_eq_false (by omega) | exact in_no (by omega) (by omega) | exact in_no (by omega) (by assumption) | (simp <;> fail) | fail) | ((with_reducible refine iteT' ?_ ?_); first | rfl | exact decide_eq_true (by omega) | (simp <;> fail) | fail))
        intro Dn hDn
        refine lc_list (xs := vs ++ [V.ref c0]) (fun j H2 => Same H' H2 ∧ ∃ us, H2 Dn = some (.lst us) ∧ PTs H2 us ((D ++ [c]).take j)) ⟨same_new hDn, [], upd_same, trivial⟩ (fun j H2 _ h => SqL.of (h.1 _ _ gP)) ?_ ?_
        · rintro j y H2 hy ⟨S4, us, gu, pu⟩
          obtain ⟨t, ph, rfl, hph, gt⟩ := plA.at hy
          have jl := (List.getElem?_eq_some_iff.mp hph).1
          have lu := pu.len
          rw [List.length_take, List.length_append] at lu
          have gt2 := S4 _ _ gt
          refine ⟨rfl, ⟨_, rfl, t, natV ph, rfl, .inl ⟨SqL.of gt2, fun tn htn => ?_⟩⟩⟩
          have S5 := same_new (o := .tup (natV ph)) htn
          refine ⟨us, S5 _ _ gu, by rw [sizeLine_eq]; change us.length = min j (D.length + 1) at lu; omega, fun a o e => ?_, us ++ [V.ref tn], upd_same, ?_⟩
          · rw [upd_ne (ne_of_none e hDn)]
            exact S5 _ _ (S4 _ _ e)
          · rw [List.take_add_one, hph]
            refine PTs.app (us2 := [V.ref tn]) (ps2 := [ph]) ⟨⟨tn, rfl, ?_⟩, trivial⟩ (pu.mono fun t xs e => ?_)
            · rw [upd_ne (ne_of_none gu htn).symm]
              exact upd_same
            · rw [upd_ne (ne_of (S5 _ _ e) (S5 _ _ gu) (by intro z; cases z))]
              exact S5 _ _ e
        · rintro H2 ⟨S4, us, gu, pu⟩
          rw [lA, List.take_length] at pu
          refine ⟨Dn, us, rfl, .inl ⟨SqL.of gu, fun tn htn => ?_⟩⟩
          have S5 := same_new (o := .tup us) htn
          have S15 := (Sq.trans S17).trans S4
          exact kk tn us _ (S15.free htn) (S15.trans S5) upd_same (pu.mono fun t xs e => S5 _ _ e)
end
end K46
namespace K46
open PySem PySem.Spec PyProof.Rows L2 OB SkE LamX
/-- some numbers in a drawn order, in a new list -/
def spStir : Sp := fun vs H Q _ => ∃ (p b l : Addr) (n : Nat) (ns : List Int), vs = [.ref p, .ref l] ∧ Orch H p b n ∧ n + 20 < 1000000 ∧ H l = some (.lst (ns.map V.int)) ∧ l ≠ p ∧ ns.length ≤ 20 ∧
  ∀ (q : Addr) (ns' : List Int) (H' : Hp), ns'.Perm ns → H q = none → H' q = some (.lst (ns'.map V.int)) → Orch H' p b (n + 20) → But p H H' → Q (.ref q) H'
theorem small_of {a b : Nat} (h : a ≤ 1000) (e : b ≤ a) : b ≤ sizeLine := Nat.le_of_lt (small1000 (Nat.le_trans e h))
theorem map_erase : ∀ (as : List Int) (j : Nat), (as.map V.int).eraseIdx j = (as.eraseIdx j).map V.int
  | [], _ => rfl
  | _ :: _, 0 => rfl
  | a :: r, j + 1 => by
    show V.int a :: (r.map V.int).eraseIdx j = V.int a :: (r.eraseIdx j).map V.int
    rw [map_erase r j]
theorem perm_erase : ∀ (as : List Int) (j : Nat) (hj : j < as.length), (as[j] :: as.eraseIdx j).Perm as
  | a :: r, 0, _ => List.Perm.refl _
  | a :: r, j + 1, hj => (List.Perm.swap a (r[j]'(Nat.lt_of_succ_lt_succ hj)) (r.eraseIdx j)).trans ((perm_erase r j (Nat.lt_of_succ_lt_succ hj)).cons a)
section
variable {P : Program} {w : World} {K : PySem.W.Frag} {mg : Str → Option Value} {base : Heap}
theorem sc__law_mixed : FnScope ["quarry", "some", "left", "found"] ["quarry", "some"] (defScope s__law_mixed) := ⟨rfl, rfl, rfl, by decide +kernel, rfl, by decide +kernel, by decide +kernel⟩
theorem ok__law_mixed {f f1 : Addr} {fd fd1 : FuncData} (F : Fun K "_law_mixed" "_law_mixed" s__law_mixed f fd) (T : Blt mg) (D__law_chip : Df K mg "_law_chip" s__law_chip ["quarry", "many"] f1 fd1) : FnOk P w K mg base CX0 2 f fd ["quarry", "some"] spStir := by
  have G__law_chip : FnOk P w K mg base CX0 1 f1 fd1 ["quarry", "many"] spDraw := ok__law_chip D__law_chip.F T
  refine F.ok sc__law_mixed (fun vs H Q E h => ?_) (fun cdv A outer s H vs Q E hr h => ?_)
  · obtain ⟨p, b, l, n, ns, rfl, _⟩ := h
    rfl
  · obtain ⟨p, b, l, n, ns, rfl, O, hn, hl, nlp, h1, k⟩ := h
    obtain ⟨up, hup⟩ := O.pn
    obtain ⟨ub, hub⟩ := O.bn
    refine ⟨_, (pss_cons (ps_par (i := 2) (j := 3) (by rfl) sc__law_mixed.nd rfl rfl (by decide) rfl rfl (pa_cons (pe_callTy call_list_of (by rfl) T.n_list (by decide +kernel) (pa_cons (pv 1) pa_nil)) (pa_cons (pe_lst pa_nil) pa_nil)) (by rfl))
  (pss_cons (ps_while PassesOwn.never (pt_cmpR (op_neD hr.units) (pv 2) (pe_lst pa_nil) (nomark _)) (pss_one (ps_expr (pe_bm PySem.F.plainAttrs_list PySem.F.slot_list_append PySem.F.type_list_append mt_append (pv 3) (pa_cons (pe_bm PySem.F.plainAttrs_list PySem.F.slot_list_pop PySem.F.type_list_pop mt_popAt (pv 2) (pa_cons (pe_call G__law_chip (hr.mono (by decide)) (by rfl) D__law_chip.g D__law_chip.F.kp D__law_chip.b .nil pass0 (pa_cons (pv 0) (pa_cons (pe_callB call_len_seq (by rfl) T.n_len (by decide +kernel) (pa_cons (pv 2) pa_nil)) pa_nil))) pa_nil)) pa_nil)))))
  (pss_one (ps_ret (pv 3))))), ?_⟩
    refine ⟨_, rfl, l, _, rfl, .inl (SqL.of hl), fun L hL => ?_⟩
    have S1 := same_new (o := .lst (ns.map V.int)) hL
    refine ⟨Nat.zero_le _, fun g hg => ?_⟩
    have S2 := S1.trans (same_new (o := .lst []) hg)
    have nLg : L ≠ g := ne_of_none upd_same hg
    have nLp : p ≠ L := ne_of_none hup hL
    have nLb : b ≠ L := ne_of_none hub hL
    have hg0 : H g = none := S1.free hg
    have ngp : p ≠ g := ne_of_none hup hg0
    have ngb : b ≠ g := ne_of_none hub hg0
    refine ⟨_, _, rfl, ?_⟩
    refine while_by (fun σ H' => ∃ as bs : List Int, σ = [some (.ref p), some (.ref l), some (.ref L), some (.ref g)] ∧ (as ++ bs).Perm ns ∧ H' L = some (.lst (as.map V.int)) ∧ H' g = some (.lst (bs.map V.int)) ∧ Orch H' p b (n + bs.length) ∧ But p H H')
      (fun σ H' => match H' L with
        | some (.lst xs) => xs.length
        | _ => 0) ⟨ns, [], rfl, by rw [List.append_nil], ?_, upd_same, O.same S2, But.of S2⟩ ?_ ?_
    · rw [upd_ne nLg]
      exact upd_same
    · rintro σ H1 ⟨as, bs, rfl, perm, hLa, hgb, O1, B1⟩
      have hlen : as.length + bs.length = ns.length := by rw [← perm.length_eq, List.length_append]
      refine ⟨_, rfl, Nat.zero_le _, fun e he => ?_⟩
      have S3 := same_new (o := .lst []) he
      refine ⟨.list (as.map PyData.int), .list [], Dp.lst (SqL.of (S3 _ _ hLa)) (dp_ints as), Dp.lst (SqL.of upd_same) .nil, shaped_ints as, shaped_ints [], ?_⟩
      rw [eqv_nil]
      have hb : (!decide (as = [])) = decide (as ≠ []) := by by_cases z : as = [] <;> simp [z]
      refine ⟨_, rfl, ?_⟩
      refine ite2 (fun c => ?_) (fun c => ?_)
      · have c : as ≠ [] := by simpa using c
        have h0 : 0 < as.length := List.length_pos_iff.mpr c
        have O2 := O1.same S3
        have hL2 := S3 _ _ hLa
        have hg2 := S3 _ _ hgb
        have B2 : But p H (upd H1 e (.lst [])) := B1.trans (But.of S3)
        refine ⟨_, rfl, .inl ⟨rfl, _, SqL.of hg2⟩, _, rfl, .inl ⟨rfl, _, SqL.of hL2⟩, _, rfl, _, rfl, L, _, rfl, .inl (SqL.of hL2), p, b, _, _, rfl, O2, by omega, ?_, ?_, fun r H3 r0 r1 O3 B3 => ?_⟩
        · rw [List.length_map]
          omega
        · rw [List.length_map, Int.natAbs_natCast]
          exact Nat.lt_of_le_of_lt (show as.length ≤ 20 by omega) (by decide)
        rw [List.length_map] at r1
        obtain ⟨j, rfl⟩ := Int.eq_ofNat_of_zero_le r0
        have hj : j < as.length := by omega
        have hL3 := B3 _ _ hL2 nLp.symm
        have hg3 := B3 _ _ hg2 ngp.symm
        refine ⟨L, as.map V.int, (j : Int), j, V.int as[j], rfl, rfl, hL3, by omega, by omega, ?_, ?_, ?_⟩
        · rw [List.length_map]
          exact (seqIndex_of (Int.natCast_nonneg j) (by omega)).trans (by rw [Int.toNat_natCast])
        · rw [List.getElem?_map, List.getElem?_eq_getElem hj]
          rfl
        have hg4 : (upd H3 L (.lst ((as.map V.int).eraseIdx j))) g = some (.lst (bs.map V.int)) := by
          rw [upd_ne nLg.symm]
          exact hg3
        refine ⟨g, _, _, rfl, rfl, hg4, small1000 (by rw [List.length_map]; omega), ?_⟩
        have ee : (as.map V.int).eraseIdx j = (as.eraseIdx j).map V.int := map_erase as j
        have el : (as.eraseIdx j).length = as.length - 1 := List.length_eraseIdx_of_lt hj
        have hL5 : (upd (upd H3 L (.lst ((as.map V.int).eraseIdx j))) g (.lst (bs.map V.int ++ [V.int as[j]]))) L = some (.lst ((as.eraseIdx j).map V.int)) := by
          rw [upd_ne nLg, upd_same, ee]
        refine ⟨⟨as.eraseIdx j, bs ++ [as[j]], rfl, ?_, hL5, ?_, ?_, ?_⟩, ?_⟩
        · refine List.Perm.trans ?_ perm
          rw [← List.append_assoc]
          refine List.perm_append_comm.trans ?_
          show (as[j] :: (as.eraseIdx j ++ bs)).Perm _
          rw [← List.cons_append]
          exact (perm_erase as j hj).append_right bs
        · rw [upd_same, List.map_append]
          rfl
        · rw [List.length_append, List.length_singleton]
          exact O3.keep (fun u hu => by rw [upd_ne ngp, upd_ne nLp]; exact hu) fun u hu => by rw [upd_ne ngb, upd_ne nLb]; exact hu
        · intro q o e nq
          have e3 := B2.trans B3 q o e nq
          rw [upd_ne (ne_of_none e hg0), upd_ne (ne_of_none e hL)]
          exact e3
        · rw [hL5, hLa]
          show ((as.eraseIdx j).map V.int).length < (as.map V.int).length
          rw [List.length_map, List.length_map, el]
          omega
      · have c : as = [] := by simpa using c
        subst c
        exact ⟨_, rfl, k g bs _ perm hg0 (S3 _ _ hgb) ((O1.same S3).mono (by have hlen := perm.length_eq; rw [List.nil_append] at hlen; omega)) (B1.trans (But.of S3))⟩
    · rintro σ H1 Q1 Q2 hQ ⟨x, e, n0, hh⟩
      refine ⟨x, e, n0, fun a ha => ?_⟩
      obtain ⟨d1, d2, x1, x2, x3, x4, k, e1, q⟩ := hh a ha
      exact ⟨d1, d2, x1, x2, x3, x4, k, e1, hQ _ _ q⟩
end
end K46
namespace K46
open PySem PySem.Spec PyProof.Rows L2 OB SkE LamX
theorem pick_int {ks : List Int} {j : Nat} {x : V} (h : (ks.map V.int)[j]? = some x) : ∃ k ∈ ks, x = V.int k := by
  rw [List.getElem?_map] at h
  cases e : ks[j]? with
  | none => rw [e] at h; cases h
  | some k => rw [e] at h; exact ⟨k, List.mem_of_getElem? e, (Option.some.inj h).symm⟩
theorem nat9 {k : Int} (h : k.natAbs < 1000) : k.natAbs < 2 ^ 9000 := Nat.lt_of_lt_of_le h (by decide)
theorem two_of {α : Type} : ∀ {l : List α}, l.length = 2 → ∃ a b, l = [a, b]
  | [a, b], _ => ⟨a, b, rfl⟩
/-- what stands between two steps of the law -/
structure Mid (T : List (Addr × Str)) (p b n : Nat) (H : Hp) : Prop where
  o : Orch H p b n
  t : Tabs T H
theorem Mid.same {T : List (Addr × Str)} {p b n : Nat} {H H' : Hp} (m : Mid T p b n H) (s : Same H H') : Mid T p b n H' := ⟨m.o.same s, m.t.ext s⟩
theorem Mid.draw {T : List (Addr × Str)} {p b n k : Nat} {H H' : Hp} (m : Mid T p b n H) (o : Orch H' p b k) (B : But p H H') : Mid T p b k H' := ⟨o, tabs_orchN m.t B m.o⟩
theorem Mid.mono {T : List (Addr × Str)} {p b n k : Nat} {H : Hp} (m : Mid T p b n H) (h : n ≤ k) : Mid T p b k H := ⟨m.o.mono h, m.t⟩
theorem Mid.put {T : List (Addr × Str)} {p b n : Nat} {H : Hp} {D : Addr} {xs ys : List V} (m : Mid T p b n H) (hD : H D = some (.lst xs)) (n1 : D ≠ p) (n2 : b ≠ D) : Mid T p b n (upd H D (.lst ys)) :=
  ⟨m.o.keep (fun u e => by rw [upd_ne n1.symm]; exact e) (fun u e => by rw [upd_ne n2]; exact e), tabs_butN m.t but_at hD⟩
theorem Mid.pD {T : List (Addr × Str)} {p b n : Nat} {H : Hp} {D : Addr} (m : Mid T p b n H) (h : H D = none) : D ≠ p := by
  obtain ⟨u, hu⟩ := m.o.pn
  exact (ne_of_none hu h).symm
theorem Mid.bD {T : List (Addr × Str)} {p b n : Nat} {H : Hp} {D : Addr} (m : Mid T p b n H) (h : H D = none) : b ≠ D := by
  obtain ⟨u, hu⟩ := m.o.bn
  exact ne_of_none hu h
theorem Mid.ext {T : List (Addr × Str)} {p b n : Nat} {H H' : Hp} (m : Mid T p b n H) (e : ExtN H H') (t : Tabs T H') : Mid T p b n H' := ⟨orch_extN m.o e, t⟩
theorem but_put {p D : Addr} {H H' : Hp} {o : HO} (hD : H D = none) (B : But p H H') : But p H (upd H' D o) := fun a u e na => by
  rw [upd_ne (ne_of_none e hD)]
  exact B _ _ e na
theorem new_facts {H H' : Hp} {l : Addr} {o : HO} (h : H l = none) (e : upd H l o = H') : Same H H' ∧ H' l = some o := by
  subst e
  exact ⟨same_new h, upd_same⟩
/-- lists of numbers, each ascending -/
def LsOk (ls : List (List Nat)) : Prop := ∀ l ∈ ls, l ≠ [] ∧ l.Pairwise (· < ·) ∧ l.length ≤ 6 ∧ ∀ n ∈ l, n ≤ 20000
theorem nd_len : ∀ {l L : List Nat}, l.Nodup → (∀ x ∈ l, x ∈ L) → l.length ≤ L.length
  | [], _, _, _ => Nat.zero_le _
  | a :: r, L, nd, h => by
    have ha := h a List.mem_cons_self
    have ih := nd_len (L := L.erase a) (List.nodup_cons.mp nd).2 fun x hx => (List.mem_erase_of_ne (fun e => (List.nodup_cons.mp nd).1 (by rw [← e]; exact hx))).mpr (h x (List.mem_cons_of_mem _ hx))
    rw [List.length_erase_of_mem ha] at ih
    have := List.length_pos_of_mem ha
    rw [List.length_cons]
    omega
def spLPhases : Sp := fun vs H Q _ => ∃ (p b n : Nat), vs = [.ref p] ∧ Orch H p b n ∧ n + 100 < 1000000 ∧
  ∀ (q : Addr) (us : List V) (ls : List (List Nat)) (H' : Hp), H q = none → H' q = some (.lst us) → PLs H' us ls → LsOk ls → ls.length ≤ 5 → Orch H' p b (n + 100) → But p H H' → Q (.ref q) H'
section
variable {P : Program} {w : World} {K : PySem.W.Frag} {mg : Str → Option Value} {base : Heap}
theorem sc__law_phases : FnScope ["quarry", "found", "turn", "most", "bit"] ["quarry"] (defScope s__law_phases) := ⟨rfl, rfl, rfl, by decide +kernel, rfl, by decide +kernel, by decide +kernel⟩
abbrev N__law_phases : List Str := ["quarry", "found", "turn", "most", "bit"]
theorem ok__law_phases {f f1 f2 : Addr} {fd fd1 fd2 : FuncData} (F : Fun K "_law_phases" "_law_phases" s__law_phases f fd) (T : Blt mg) (D__law_chip : Df K mg "_law_chip" s__law_chip ["quarry", "many"] f1 fd1) (D__law_pick : Df K mg "_law_pick" s__law_pick ["quarry", "some"] f2 fd2) : FnOk P w K mg base CX0 3 f fd ["quarry"] spLPhases := by
  have G__law_chip : FnOk P w K mg base CX0 1 f1 fd1 ["quarry", "many"] spDraw := ok__law_chip D__law_chip.F T
  have G__law_pick : FnOk P w K mg base CX0 2 f2 fd2 ["quarry", "some"] spOne := ok__law_pick D__law_pick.F T D__law_chip
  refine F.ok sc__law_phases (fun vs H Q E h => ?_) (fun cdv A outer s H vs Q E hr h => ?_)
  · obtain ⟨p, b, n, rfl, _⟩ := h
    rfl
  · obtain ⟨p, b, n, rfl, O, hn, k⟩ := h
    refine ⟨_, (pss_cons (ps_set (i := 1) sc__law_phases.nd rfl (Or.inl rfl) (pe_lst pa_nil))
  (pss_cons (ps_for PassesOwn.never rfl (pi_range1 (by rfl) T.n_range (pa_cons (pe_call G__law_chip (hr.mono (by decide)) (by rfl) D__law_chip.g D__law_chip.F.kp D__law_chip.b .nil pass0 (pa_cons (pv 0) (pa_cons pe_int pa_nil))) pa_nil)) (pg_name (i := 2) sc__law_phases.nd rfl (Or.inl rfl)) (pss_cons (ps_set (i := 3) sc__law_phases.nd rfl (Or.inr rfl) (pe_call G__law_pick (hr.mono (by decide)) (by rfl) D__law_pick.g D__law_pick.F.kp D__law_pick.b .nil pass0 (pa_cons (pv 0) (pa_cons (pe_lst (pa_cons pe_int (pa_cons pe_int (pa_cons pe_int (pa_cons pe_int pa_nil))))) pa_nil))))
  (pss_one (ps_expr (pe_bm PySem.F.plainAttrs_list PySem.F.slot_list_append PySem.F.type_list_append mt_append (pv 1) (pa_cons (pe_sortedSet (by rfl) T.n_sorted (by rfl) T.n_set (pe_lc (own := [("bit", 4)]) (g := (gName 4)) (tt := tYes) rfl sc__law_phases.nd (pi_range1 (by rfl) T.n_range (pa_cons (pe_op op_add pe_int (pe_call G__law_chip (hr.mono (by decide)) (by rfl) D__law_chip.g D__law_chip.F.kp D__law_chip.b .nil pass0 (pa_cons (pv 0) (pa_cons pe_int pa_nil)))) pa_nil)) (blkOk_by (N := N__law_phases) (own := [("bit", 4)]) (sc := defScope s__law_phases) (by decide +kernel)) (fun _ _ _ _ _ => (pg_name (i := 4) sc__law_phases.nd rfl (Or.inl rfl))) (fun _ _ _ _ _ => pts_nil) (fun _ _ _ _ _ => (pe_call G__law_pick (hr.mono (by decide)) (by rfl) D__law_pick.g D__law_pick.F.kp D__law_pick.b .nil pass0 (pa_cons (pv 0) (pa_cons (pe_lst (pa_cons (pe_call G__law_chip (hr.mono (by decide)) (by rfl) D__law_chip.g D__law_chip.F.kp D__law_chip.b .nil pass0 (pa_cons (pv 0) (pa_cons (pv 3) pa_nil))) (pa_cons (pe_op op_sub (pv 3) pe_int) pa_nil))) pa_nil)))))) pa_nil))))))
  (pss_one (ps_ret (pv 1))))), ?_⟩
    have M : Mid [] p b n H := ⟨O, fun x hx => absurd hx List.not_mem_nil⟩
    have B0 : But p H H := fun _ _ e _ => e
    have hqq : ∀ q, H q = none → H q = none := fun _ z => z
    repeat (first | (with_reducible refine st_tC ?_) | (with_reducible refine st_tOp ?_) | ((with_reducible apply st_n); rfl; rfl; (first | trivial | (show _ ≤ _; omega) | (show _ < _; omega) | (show _ ∨ _; omega) | assumption | exact ⟨by assumption, by omega⟩ | exact ⟨W30.one, by omega⟩ | fail); rfl) | (with_reducible refine st_i0 rfl rfl rfl ?_) | ((with_reducible refine st_i rfl rfl ?_ rfl ?_); first | omega | exact ⟨by decide, by decide, by decide⟩ | exact .inl ⟨by decide, by decide⟩ | exact .inl ⟨by omega, by omega⟩ | exact .inr ⟨by omega, by omega⟩ | fail) | ((fail_if_success refine Exists.intro (α := Nat → Nat → L2.St → Hp → Prop) ?_ ?_); (fail_if_success refine Exists.intro (α := L2.St → Hp → Prop) ?_ ?_); (fail_if_success refine Exists.intro (α := Nat → L2.St → Hp → Prop) ?_ ?_); apply Exists.intro) | ((refine And.intro ?_ ?_); first | with_reducible rfl | with_reducible assumption | rfl | ((with_reducible apply SqL.of); assumption) | ((with_reducible apply SqT.of); assumption) | ((with_reducible apply OwnC.cl); assumption) | (with_reducible exact isI_int _) | exact within_args | (with_reducible exact upd_same) | ((with_reducible apply Mid.o); assumption) | ((with_reducible apply Mid.t); assumption) | exact .inl ⟨rfl, _, SqL.of (by assumption)⟩ | (with_reducible exact ⟨_, SqT.of (by assumption)⟩) | (with_reducible exact ⟨_, SqL.of (by assumption)⟩) | omega | exact Nat.le_of_ble_eq_true rfl | exact nat9 (by omega) | exact ⟨_, rfl⟩ | (show _ ≤ sizeLine; decide) | exact ⟨by decide, by decide, by decide⟩ | exact .inl ⟨by decide, by decide⟩ | exact .inl ⟨by omega, by omega⟩ | exact .inr ⟨by omega, by omega⟩ | assumption | fail) | ((with_reducible refine iteF' ?_ ?_); first | rfl | exact decide_eq_false (by omega) | exact in_no (by omega) (by omega) | exact in_no (by omega) (by assumption) | (simp <;> fail) | fail) | ((with_reducible refine iteT' ?_ ?_); first | rfl | exact decide_eq_true (by omega) | (simp <;> fail) | fail))
    intro q hq
    have np_q := M.pD hq
    have nb_q := M.bD hq
    have S1 := same_new (o := .lst []) hq
    have gq : (upd H q (.lst [])) q = some (.lst []) := upd_same
    replace M := M.same S1
    have B1 : But p H (upd H q (.lst [])) := But.of S1
    generalize upd H q _ = H1 at *
    clear S1 B0 hqq
    repeat (first | (with_reducible refine st_tC ?_) | (with_reducible refine st_tOp ?_) | ((with_reducible apply st_n); rfl; rfl; (first | trivial | (show _ ≤ _; omega) | (show _ < _; omega) | (show _ ∨ _; omega) | assumption | exact ⟨by assumption, by omega⟩ | exact ⟨W30.one, by omega⟩ | fail); rfl) | (with_reducible refine st_i0 rfl rfl rfl ?_) | ((with_reducible refine st_i rfl rfl ?_ rfl ?_); first | omega | exact ⟨by decide, by decide, by decide⟩ | exact .inl ⟨by decide, by decide⟩ | exact .inl ⟨by omega, by omega⟩ | exact .inr ⟨by omega, by omega⟩ | fail) | ((fail_if_success refine Exists.intro (α := Nat → Nat → L2.St → Hp → Prop) ?_ ?_); (fail_if_success refine Exists.intro (α := L2.St → Hp → Prop) ?_ ?_); (fail_if_success refine Exists.intro (α := Nat → L2.St → Hp → Prop) ?_ ?_); apply Exists.intro) | ((refine And.intro ?_ ?_); first | with_reducible rfl | with_reducible assumption | rfl | ((with_reducible apply SqL.of); assumption) | ((with_reducible apply SqT.of); assumption) | ((with_reducible apply OwnC.cl); assumption) | (with_reducible exact isI_int _) | exact within_args | (with_reducible exact upd_same) | ((with_reducible apply Mid.o); assumption) | ((with_reducible apply Mid.t); assumption) | exact .inl ⟨rfl, _, SqL.of (by assumption)⟩ | (with_reducible exact ⟨_, SqT.of (by assumption)⟩) | (with_reducible exact ⟨_, SqL.of (by assumption)⟩) | omega | exact Nat.le_of_ble_eq_true rfl | exact nat9 (by omega) | exact ⟨_, rfl⟩ | (show _ ≤ sizeLine; decide) | exact ⟨by decide, by decide, by decide⟩ | exact .inl ⟨by decide, by decide⟩ | exact .inl ⟨by omega, by omega⟩ | exact .inr ⟨by omega, by omega⟩ | assumption | fail) | ((with_reducible refine iteF' ?_ ?_); first | rfl | exact decide_eq_false (by omega) | exact in_no (by omega) (by omega) | exact in_no (by omega) (by assumption) | (simp <;> fail) | fail) | ((with_reducible refine iteT' ?_ ?_); first | rfl | exact decide_eq_true (by omega) | (simp <;> fail) | fail))
    intro r1 H2 r10 r11 O1 B2
    obtain ⟨r1, rfl⟩ := Int.eq_ofNat_of_zero_le r10
    replace gq := B2 _ _ gq np_q
    replace M := M.draw O1 B2
    replace B1 := B1.trans B2
    clear O1 B2 r10
    repeat (first | (with_reducible refine st_tC ?_) | (with_reducible refine st_tOp ?_) | ((with_reducible apply st_n); rfl; rfl; (first | trivial | (show _ ≤ _; omega) | (show _ < _; omega) | (show _ ∨ _; omega) | assumption | exact ⟨by assumption, by omega⟩ | exact ⟨W30.one, by omega⟩ | fail); rfl) | (with_reducible refine st_i0 rfl rfl rfl ?_) | ((with_reducible refine st_i rfl rfl ?_ rfl ?_); first | omega | exact ⟨by decide, by decide, by decide⟩ | exact .inl ⟨by decide, by decide⟩ | exact .inl ⟨by omega, by omega⟩ | exact .inr ⟨by omega, by omega⟩ | fail) | ((fail_if_success refine Exists.intro (α := Nat → Nat → L2.St → Hp → Prop) ?_ ?_); (fail_if_success refine Exists.intro (α := L2.St → Hp → Prop) ?_ ?_); (fail_if_success refine Exists.intro (α := Nat → L2.St → Hp → Prop) ?_ ?_); apply Exists.intro) | ((refine And.intro ?_ ?_); first | with_reducible rfl | with_reducible assumption | rfl | ((with_reducible apply SqL.of); assumption) | ((with_reducible apply SqT.of); assumption) | ((with_reducible apply OwnC.cl); assumption) | (with_reducible exact isI_int _) | exact within_args | (with_reducible exact upd_same) | ((with_reducible apply Mid.o); assumption) | ((with_reducible apply Mid.t); assumption) | exact .inl ⟨rfl, _, SqL.of (by assumption)⟩ | (with_reducible exact ⟨_, SqT.of (by assumption)⟩) | (with_reducible exact ⟨_, SqL.of (by assumption)⟩) | omega | exact Nat.le_of_ble_eq_true rfl | exact nat9 (by omega) | exact ⟨_, rfl⟩ | (show _ ≤ sizeLine; decide) | exact ⟨by decide, by decide, by decide⟩ | exact .inl ⟨by decide, by decide⟩ | exact .inl ⟨by omega, by omega⟩ | exact .inr ⟨by omega, by omega⟩ | assumption | fail) | ((with_reducible refine iteF' ?_ ?_); first | rfl | exact decide_eq_false (by omega) | exact in_no (by omega) (by omega) | exact in_no (by omega) (by assumption) | (simp <;> fail) | fail) | ((with_reducible refine iteT' ?_ ?_); first | rfl | exact decide_eq_true (by omega) | (simp <;> fail) | fail))
    refine for_range (n := r1) (fun i σ H' => Mid [] p b (n + 1 + 14 * i) H' ∧ But p H H' ∧ Hid (∃ (us : List V) (ls : List (List Nat)) (u2 u3 u4 : Option V), H' q = some (.lst us) ∧ PLs H' us ls ∧ ls.length = i ∧ LsOk ls ∧ V.ref q ∉ us ∧ (∀ t, V.ref t ∈ us → t ≠ p) ∧
      σ = [some (.ref p), some (.ref q), u2, u3, u4])) ⟨M, B1, ⟨[], [], _, _, _, gq, trivial, rfl, (fun _ z => absurd z List.not_mem_nil), List.not_mem_nil, (fun _ z => absurd z List.not_mem_nil), rfl⟩⟩ ?_ ?_
    · clear M B1 gq
      rintro i σ H' hi ⟨M, B1, ⟨us, ls, u2, u3, u4, gq, pls, ll, ok, nq, npu, rfl⟩⟩
      have i5 : i < 5 := by omega
      repeat (first | (with_reducible refine st_tC ?_) | (with_reducible refine st_tOp ?_) | ((with_reducible apply st_n); rfl; rfl; (first | trivial | (show _ ≤ _; omega) | (show _ < _; omega) | (show _ ∨ _; omega) | assumption | exact ⟨by assumption, by omega⟩ | exact ⟨W30.one, by omega⟩ | fail); rfl) | (with_reducible refine st_i0 rfl rfl rfl ?_) | ((with_reducible refine st_i rfl rfl ?_ rfl ?_); first | omega | exact ⟨by decide, by decide, by decide⟩ | exact .inl ⟨by decide, by decide⟩ | exact .inl ⟨by omega, by omega⟩ | exact .inr ⟨by omega, by omega⟩ | fail) | ((fail_if_success refine Exists.intro (α := Nat → Nat → L2.St → Hp → Prop) ?_ ?_); (fail_if_success refine Exists.intro (α := L2.St → Hp → Prop) ?_ ?_); (fail_if_success refine Exists.intro (α := Nat → L2.St → Hp → Prop) ?_ ?_); apply Exists.intro) | ((refine And.intro ?_ ?_); first | with_reducible rfl | with_reducible assumption | rfl | ((with_reducible apply SqL.of); assumption) | ((with_reducible apply SqT.of); assumption) | ((with_reducible apply OwnC.cl); assumption) | (with_reducible exact isI_int _) | exact within_args | (with_reducible exact upd_same) | ((with_reducible apply Mid.o); assumption) | ((with_reducible apply Mid.t); assumption) | exact .inl ⟨rfl, _, SqL.of (by assumption)⟩ | (with_reducible exact ⟨_, SqT.of (by assumption)⟩) | (with_reducible exact ⟨_, SqL.of (by assumption)⟩) | omega | exact Nat.le_of_ble_eq_true rfl | exact nat9 (by omega) | exact ⟨_, rfl⟩ | (show _ ≤ sizeLine; decide) | exact ⟨by decide, by decide, by decide⟩ | exact .inl ⟨by decide, by decide⟩ | exact .inl ⟨by omega, by omega⟩ | exact .inr ⟨by omega, by omega⟩ | assumption | fail) | ((with_reducible refine iteF' ?_ ?_); first | rfl | exact decide_eq_false (by omega) | exact in_no (by omega) (by omega) | exact in_no (by omega) (by assumption) | (simp <;> fail) | fail) | ((with_reducible refine iteT' ?_ ?_); first | rfl | exact decide_eq_true (by omega) | (simp <;> fail) | fail))
      intro l1 hl1
      have npl := M.pD hl1
      have S2 := same_new (o := .lst [V.int 4, V.int 12, V.int 101, V.int 20001]) hl1
      have gl : (upd H' l1 (.lst [V.int 4, V.int 12, V.int 101, V.int 20001])) l1 = some (.lst [V.int 4, V.int 12, V.int 101, V.int 20001]) := upd_same
      replace M := M.same S2
      replace gq := S2 _ _ gq
      replace pls := pls.mono fun t _ xs e => S2 _ _ e
      replace B1 := B1.trans (But.of S2)
      generalize upd H' l1 _ = H3 at *
      clear S2 hl1
      repeat (first | (with_reducible refine st_tC ?_) | (with_reducible refine st_tOp ?_) | ((with_reducible apply st_n); rfl; rfl; (first | trivial | (show _ ≤ _; omega) | (show _ < _; omega) | (show _ ∨ _; omega) | assumption | exact ⟨by assumption, by omega⟩ | exact ⟨W30.one, by omega⟩ | fail); rfl) | (with_reducible refine st_i0 rfl rfl rfl ?_) | ((with_reducible refine st_i rfl rfl ?_ rfl ?_); first | omega | exact ⟨by decide, by decide, by decide⟩ | exact .inl ⟨by decide, by decide⟩ | exact .inl ⟨by omega, by omega⟩ | exact .inr ⟨by omega, by omega⟩ | fail) | ((fail_if_success refine Exists.intro (α := Nat → Nat → L2.St → Hp → Prop) ?_ ?_); (fail_if_success refine Exists.intro (α := L2.St → Hp → Prop) ?_ ?_); (fail_if_success refine Exists.intro (α := Nat → L2.St → Hp → Prop) ?_ ?_); apply Exists.intro) | ((refine And.intro ?_ ?_); first | with_reducible rfl | with_reducible assumption | rfl | ((with_reducible apply SqL.of); assumption) | ((with_reducible apply SqT.of); assumption) | ((with_reducible apply OwnC.cl); assumption) | (with_reducible exact isI_int _) | exact within_args | (with_reducible exact upd_same) | ((with_reducible apply Mid.o); assumption) | ((with_reducible apply Mid.t); assumption) | exact .inl ⟨rfl, _, SqL.of (by assumption)⟩ | (with_reducible exact ⟨_, SqT.of (by assumption)⟩) | (with_reducible exact ⟨_, SqL.of (by assumption)⟩) | omega | exact Nat.le_of_ble_eq_true rfl | exact nat9 (by omega) | exact ⟨_, rfl⟩ | (show _ ≤ sizeLine; decide) | exact ⟨by decide, by decide, by decide⟩ | exact .inl ⟨by decide, by decide⟩ | exact .inl ⟨by omega, by omega⟩ | exact .inr ⟨by omega, by omega⟩ | assumption | fail) | ((with_reducible refine iteF' ?_ ?_); first | rfl | exact decide_eq_false (by omega) | exact in_no (by omega) (by omega) | exact in_no (by omega) (by assumption) | (simp <;> fail) | fail) | ((with_reducible refine iteT' ?_ ?_); first | rfl | exact decide_eq_true (by omega) | (simp <;> fail) | fail))
      intro j1 mv H4 e1 O2 B2
      obtain ⟨z, hz, rfl⟩ := pick_int (ks := [4, 12, 101, 20001]) e1
      have zb : 4 ≤ z ∧ z ≤ 20001 := by simp at hz; omega
      obtain ⟨mo, rfl⟩ := Int.eq_ofNat_of_zero_le (show 0 ≤ z by omega)
      replace gq := B2 _ _ gq np_q
      replace pls := pls.mono fun t ht xs e => B2 _ _ e (npu t ht)
      replace M := M.draw O2 B2
      replace B1 := B1.trans B2
      clear O2 B2 e1 hz gl npl
      repeat (first | (with_reducible refine st_tC ?_) | (with_reducible refine st_tOp ?_) | ((with_reducible apply st_n); rfl; rfl; (first | trivial | (show _ ≤ _; omega) | (show _ < _; omega) | (show _ ∨ _; omega) | assumption | exact ⟨by assumption, by omega⟩ | exact ⟨W30.one, by omega⟩ | fail); rfl) | (with_reducible refine st_i0 rfl rfl rfl ?_) | ((with_reducible refine st_i rfl rfl ?_ rfl ?_); first | omega | exact ⟨by decide, by decide, by decide⟩ | exact .inl ⟨by decide, by decide⟩ | exact .inl ⟨by omega, by omega⟩ | exact .inr ⟨by omega, by omega⟩ | fail) | ((fail_if_success refine Exists.intro (α := Nat → Nat → L2.St → Hp → Prop) ?_ ?_); (fail_if_success refine Exists.intro (α := L2.St → Hp → Prop) ?_ ?_); (fail_if_success refine Exists.intro (α := Nat → L2.St → Hp → Prop) ?_ ?_); apply Exists.intro) | ((refine And.intro ?_ ?_); first | with_reducible rfl | with_reducible assumption | rfl | ((with_reducible apply SqL.of); assumption) | ((with_reducible apply SqT.of); assumption) | ((with_reducible apply OwnC.cl); assumption) | (with_reducible exact isI_int _) | exact within_args | (with_reducible exact upd_same) | ((with_reducible apply Mid.o); assumption) | ((with_reducible apply Mid.t); assumption) | exact .inl ⟨rfl, _, SqL.of (by assumption)⟩ | (with_reducible exact ⟨_, SqT.of (by assumption)⟩) | (with_reducible exact ⟨_, SqL.of (by assumption)⟩) | omega | exact Nat.le_of_ble_eq_true rfl | exact nat9 (by omega) | exact ⟨_, rfl⟩ | (show _ ≤ sizeLine; decide) | exact ⟨by decide, by decide, by decide⟩ | exact .inl ⟨by decide, by decide⟩ | exact .inl ⟨by omega, by omega⟩ | exact .inr ⟨by omega, by omega⟩ | assumption | fail) | ((with_reducible refine iteF' ?_ ?_); first | rfl | exact decide_eq_false (by omega) | exact in_no (by omega) (by omega) | exact in_no (by omega) (by assumption) | (simp <;> fail) | fail) | ((with_reducible refine iteT' ?_ ?_); first | rfl | exact decide_eq_true (by omega) | (simp <;> fail) | fail))
      intro r2 H5 r20 r21 O2 B2
      obtain ⟨r2, rfl⟩ := Int.eq_ofNat_of_zero_le r20
      replace gq := B2 _ _ gq np_q
      replace pls := pls.mono fun t ht xs e => B2 _ _ e (npu t ht)
      replace M := M.draw O2 B2
      replace B1 := B1.trans B2
      clear O2 B2 r20
      repeat (first | (with_reducible refine st_tC ?_) | (with_reducible refine st_tOp ?_) | ((with_reducible apply st_n); rfl; rfl; (first | trivial | (show _ ≤ _; omega) | (show _ < _; omega) | (show _ ∨ _; omega) | assumption | exact ⟨by assumption, by omega⟩ | exact ⟨W30.one, by omega⟩ | fail); rfl) | (with_reducible refine st_i0 rfl rfl rfl ?_) | ((with_reducible refine st_i rfl rfl ?_ rfl ?_); first | omega | exact ⟨by decide, by decide, by decide⟩ | exact .inl ⟨by decide, by decide⟩ | exact .inl ⟨by omega, by omega⟩ | exact .inr ⟨by omega, by omega⟩ | fail) | ((fail_if_success refine Exists.intro (α := Nat → Nat → L2.St → Hp → Prop) ?_ ?_); (fail_if_success refine Exists.intro (α := L2.St → Hp → Prop) ?_ ?_); (fail_if_success refine Exists.intro (α := Nat → L2.St → Hp → Prop) ?_ ?_); apply Exists.intro) | ((refine And.intro ?_ ?_); first | with_reducible rfl | with_reducible assumption | rfl | ((with_reducible apply SqL.of); assumption) | ((with_reducible apply SqT.of); assumption) | ((with_reducible apply OwnC.cl); assumption) | (with_reducible exact isI_int _) | exact within_args | (with_reducible exact upd_same) | ((with_reducible apply Mid.o); assumption) | ((with_reducible apply Mid.t); assumption) | exact .inl ⟨rfl, _, SqL.of (by assumption)⟩ | (with_reducible exact ⟨_, SqT.of (by assumption)⟩) | (with_reducible exact ⟨_, SqL.of (by assumption)⟩) | omega | exact Nat.le_of_ble_eq_true rfl | exact nat9 (by omega) | exact ⟨_, rfl⟩ | (show _ ≤ sizeLine; decide) | exact ⟨by decide, by decide, by decide⟩ | exact .inl ⟨by decide, by decide⟩ | exact .inl ⟨by omega, by omega⟩ | exact .inr ⟨by omega, by omega⟩ | assumption | fail) | ((with_reducible refine iteF' ?_ ?_); first | rfl | exact decide_eq_false (by omega) | exact in_no (by omega) (by omega) | exact in_no (by omega) (by assumption) | (simp <;> fail) | fail) | ((with_reducible refine iteT' ?_ ?_); first | rfl | exact decide_eq_true (by omega) | (simp <;> fail) | fail))
      intro D hD
      rw [show ((1 : Int) + (r2 : Int)).toNat = 1 + r2 by omega]
      have npD := M.pD hD
      have nbD := M.bD hD
      have S2 := same_new (o := .lst []) hD
      refine lc_range (n := 1 + r2) (fun j H' => Mid [] p b (n + 1 + 14 * i + 2 + 2 * j) H' ∧ But p H H' ∧ H' q = some (.lst us) ∧ PLs H' us ls ∧ ∃ L : List Nat, H' D = some (.lst (natV L)) ∧ L.length = j ∧ ∀ x ∈ L, x ≤ 20000)
        ⟨(M.same S2).mono (by omega), B1.trans (But.of S2), S2 _ _ gq, pls.mono fun t _ xs e => S2 _ _ e, [], upd_same, rfl, fun _ z => absurd z List.not_mem_nil⟩ ?_ ?_
      · have nqD : q ≠ D := ne_of_none gq hD
        have nuD := pls.new hD
        have hDH : H D = none := by
          cases e : H D with
          | none => rfl
          | some o => rw [B1 D o e npD] at hD; cases hD
        clear M B1 gq pls S2 hD
        rintro j H6 hj ⟨M, B1, gq, pls, L, gL, lL, hL⟩
        refine ⟨rfl, ?_⟩
        have mz : 0 < (mo : Int) := by omega
        have m9 : (mo : Int).natAbs < 2 ^ 9000 := by
          rw [Int.natAbs_natCast]
          exact Nat.lt_of_le_of_lt (show mo ≤ 2 ^ 15 by omega) (Nat.pow_lt_pow_right (by decide) (by decide))
        repeat (first | (with_reducible refine st_tC ?_) | (with_reducible refine st_tOp ?_) | ((with_reducible apply st_n); rfl; rfl; (first | trivial | (show _ ≤ _; omega) | (show _ < _; omega) | (show _ ∨ _; omega) | assumption | exact ⟨by assumption, by omega⟩ | exact ⟨W30.one, by omega⟩ | fail); rfl) | (with_reducible refine st_i0 rfl rfl rfl ?_) | ((with_reducible refine st_i rfl rfl ?_ rfl ?_); first | omega | exact ⟨by decide, by decide, by decide⟩ | exact .inl ⟨by decide, by decide⟩ | exact .inl ⟨by omega, by omega⟩ | exact .inr ⟨by omega, by omega⟩ | fail) | ((fail_if_success refine Exists.intro (α := Nat → Nat → L2.St → Hp → Prop) ?_ ?_); (fail_if_success refine Exists.intro (α := L2.St → Hp → Prop) ?_ ?_); (fail_if_success refine Exists.intro (α := Nat → L2.St → Hp → Prop) ?_ ?_); apply Exists.intro) | ((refine And.intro ?_ ?_); first | with_reducible rfl | with_reducible assumption | rfl | ((with_reducible apply SqL.of); assumption) | ((with_reducible apply SqT.of); assumption) | ((with_reducible apply OwnC.cl); assumption) | (with_reducible exact isI_int _) | exact within_args | (with_reducible exact upd_same) | ((with_reducible apply Mid.o); assumption) | ((with_reducible apply Mid.t); assumption) | exact .inl ⟨rfl, _, SqL.of (by assumption)⟩ | (with_reducible exact ⟨_, SqT.of (by assumption)⟩) | (with_reducible exact ⟨_, SqL.of (by assumption)⟩) | omega | exact Nat.le_of_ble_eq_true rfl | exact nat9 (by omega) | exact ⟨_, rfl⟩ | (show _ ≤ sizeLine; decide) | exact ⟨by decide, by decide, by decide⟩ | exact .inl ⟨by decide, by decide⟩ | exact .inl ⟨by omega, by omega⟩ | exact .inr ⟨by omega, by omega⟩ | assumption | fail) | ((with_reducible refine iteF' ?_ ?_); first | rfl | exact decide_eq_false (by omega) | exact in_no (by omega) (by omega) | exact in_no (by omega) (by assumption) | (simp <;> fail) | fail) | ((with_reducible refine iteT' ?_ ?_); first | rfl | exact decide_eq_true (by omega) | (simp <;> fail) | fail))
        intro r3 H7 r30 r31 O2 B2
        obtain ⟨r3, rfl⟩ := Int.eq_ofNat_of_zero_le r30
        replace gq := B2 _ _ gq np_q
        replace gL := B2 _ _ gL npD
        replace pls := pls.mono fun t ht xs e => B2 _ _ e (npu t ht)
        replace M := M.draw O2 B2
        replace B1 := B1.trans B2
        clear O2 B2 r30
        repeat (first | (with_reducible refine st_tC ?_) | (with_reducible refine st_tOp ?_) | ((with_reducible apply st_n); rfl; rfl; (first | trivial | (show _ ≤ _; omega) | (show _ < _; omega) | (show _ ∨ _; omega) | assumption | exact ⟨by assumption, by omega⟩ | exact ⟨W30.one, by omega⟩ | fail); rfl) | (with_reducible refine st_i0 rfl rfl rfl ?_) | ((with_reducible refine st_i rfl rfl ?_ rfl ?_); first | omega | exact ⟨by decide, by decide, by decide⟩ | exact .inl ⟨by decide, by decide⟩ | exact .inl ⟨by omega, by omega⟩ | exact .inr ⟨by omega, by omega⟩ | fail) | ((fail_if_success refine Exists.intro (α := Nat → Nat → L2.St → Hp → Prop) ?_ ?_); (fail_if_success refine Exists.intro (α := L2.St → Hp → Prop) ?_ ?_); (fail_if_success refine Exists.intro (α := Nat → L2.St → Hp → Prop) ?_ ?_); apply Exists.intro) | ((refine And.intro ?_ ?_); first | with_reducible rfl | with_reducible assumption | rfl | ((with_reducible apply SqL.of); assumption) | ((with_reducible apply SqT.of); assumption) | ((with_reducible apply OwnC.cl); assumption) | (with_reducible exact isI_int _) | exact within_args | (with_reducible exact upd_same) | ((with_reducible apply Mid.o); assumption) | ((with_reducible apply Mid.t); assumption) | exact .inl ⟨rfl, _, SqL.of (by assumption)⟩ | (with_reducible exact ⟨_, SqT.of (by assumption)⟩) | (with_reducible exact ⟨_, SqL.of (by assumption)⟩) | omega | exact Nat.le_of_ble_eq_true rfl | exact nat9 (by omega) | exact ⟨_, rfl⟩ | (show _ ≤ sizeLine; decide) | exact ⟨by decide, by decide, by decide⟩ | exact .inl ⟨by decide, by decide⟩ | exact .inl ⟨by omega, by omega⟩ | exact .inr ⟨by omega, by omega⟩ | assumption | fail) | ((with_reducible refine iteF' ?_ ?_); first | rfl | exact decide_eq_false (by omega) | exact in_no (by omega) (by omega) | exact in_no (by omega) (by assumption) | (simp <;> fail) | fail) | ((with_reducible refine iteT' ?_ ?_); first | rfl | exact decide_eq_true (by omega) | (simp <;> fail) | fail))
        intro l2 hl2
        have npl := M.pD hl2
        have S2 := same_new (o := .lst [V.int (r3 : Int), V.int ((mo : Int) - 1)]) hl2
        have gl : (upd H7 l2 (.lst [V.int (r3 : Int), V.int ((mo : Int) - 1)])) l2 = some (.lst [V.int (r3 : Int), V.int ((mo : Int) - 1)]) := upd_same
        replace M := M.same S2
        replace gq := S2 _ _ gq
        replace gL := S2 _ _ gL
        replace pls := pls.mono fun t _ xs e => S2 _ _ e
        replace B1 := B1.trans (But.of S2)
        generalize upd H7 l2 _ = H8 at *
        clear S2 hl2
        repeat (first | (with_reducible refine st_tC ?_) | (with_reducible refine st_tOp ?_) | ((with_reducible apply st_n); rfl; rfl; (first | trivial | (show _ ≤ _; omega) | (show _ < _; omega) | (show _ ∨ _; omega) | assumption | exact ⟨by assumption, by omega⟩ | exact ⟨W30.one, by omega⟩ | fail); rfl) | (with_reducible refine st_i0 rfl rfl rfl ?_) | ((with_reducible refine st_i rfl rfl ?_ rfl ?_); first | omega | exact ⟨by decide, by decide, by decide⟩ | exact .inl ⟨by decide, by decide⟩ | exact .inl ⟨by omega, by omega⟩ | exact .inr ⟨by omega, by omega⟩ | fail) | ((fail_if_success refine Exists.intro (α := Nat → Nat → L2.St → Hp → Prop) ?_ ?_); (fail_if_success refine Exists.intro (α := L2.St → Hp → Prop) ?_ ?_); (fail_if_success refine Exists.intro (α := Nat → L2.St → Hp → Prop) ?_ ?_); apply Exists.intro) | ((refine And.intro ?_ ?_); first | with_reducible rfl | with_reducible assumption | rfl | ((with_reducible apply SqL.of); assumption) | ((with_reducible apply SqT.of); assumption) | ((with_reducible apply OwnC.cl); assumption) | (with_reducible exact isI_int _) | exact within_args | (with_reducible exact upd_same) | ((with_reducible apply Mid.o); assumption) | ((with_reducible apply Mid.t); assumption) | exact .inl ⟨rfl, _, SqL.of (by assumption)⟩ | (with_reducible exact ⟨_, SqT.of (by assumption)⟩) | (with_reducible exact ⟨_, SqL.of (by assumption)⟩) | omega | exact Nat.le_of_ble_eq_true rfl | exact nat9 (by omega) | exact ⟨_, rfl⟩ | (show _ ≤ sizeLine; decide) | exact ⟨by decide, by decide, by decide⟩ | exact .inl ⟨by decide, by decide⟩ | exact .inl ⟨by omega, by omega⟩ | exact .inr ⟨by omega, by omega⟩ | assumption | fail) | ((with_reducible refine iteF' ?_ ?_); first | rfl | exact decide_eq_false (by omega) | exact in_no (by omega) (by omega) | exact in_no (by omega) (by assumption) | (simp <;> fail) | fail) | ((with_reducible refine iteT' ?_ ?_); first | rfl | exact decide_eq_true (by omega) | (simp <;> fail) | fail))
        intro j2 xv H9 e2 O2 B2
        obtain ⟨z, hz, rfl⟩ := pick_int (ks := [(r3 : Int), (mo : Int) - 1]) e2
        have zb : 0 ≤ z ∧ z ≤ 20000 := by simp at hz; omega
        obtain ⟨x, rfl⟩ := Int.eq_ofNat_of_zero_le zb.1
        replace gq := B2 _ _ gq np_q
        replace gL := B2 _ _ gL npD
        replace pls := pls.mono fun t ht xs e => B2 _ _ e (npu t ht)
        replace M := M.draw O2 B2
        replace B1 := B1.trans B2
        refine ⟨_, gL, by rw [natV_len, sizeLine_eq]; omega, (M.put gL npD nbD).mono (by omega), but_put hDH B1, ?_, ?_, L ++ [x], by rw [upd_same, natV_snoc], by rw [List.length_append, lL]; rfl, fun y hy => ?_⟩
        · rw [upd_ne nqD]
          exact gq
        · exact pls.mono fun t ht xs e => by
            rw [upd_ne (show t ≠ D from fun z => nuD (by rw [← z]; exact ht))]
            exact e
        · rcases List.mem_append.mp hy with h | h
          · exact hL y h
          · rw [List.mem_singleton.mp h]
            omega
      · clear M B1 gq pls S2 hD
        rintro H6 ⟨M, B1, gq, pls, L, gL, lL, hL⟩
        have eL : natV L = (L.map fun n : Nat => (n : Int)).map V.int := by
          rw [List.map_map]
          rfl
        refine ⟨D, L.map fun n : Nat => (n : Int), rfl, .inl (eL ▸ SqL.of gL), by rw [List.length_map]; omega, fun ms q9 pw hm hq9 => ?_⟩
        obtain ⟨l9, rfl⟩ : ∃ l9 : List Nat, ms = l9.map fun n : Nat => (n : Int) := ⟨ms.map Int.toNat, by
          rw [List.map_map]
          refine (List.map_id _).symm.trans (List.map_congr_left fun y hy => ?_)
          obtain ⟨u, _, rfl⟩ := List.mem_map.mp ((hm y).mp hy)
          rfl⟩
        have pw9 : l9.Pairwise (· < ·) := (List.pairwise_map.mp pw).imp fun z => by omega
        have hm9 : ∀ n, n ∈ l9 ↔ n ∈ L := fun n => by
          have := hm (n : Int)
          constructor
          · intro z
            obtain ⟨u, hu, e⟩ := List.mem_map.mp (this.mp (List.mem_map.mpr ⟨n, z, rfl⟩))
            rw [← Int.ofNat.inj e]
            exact hu
          · intro z
            obtain ⟨u, hu, e⟩ := List.mem_map.mp (this.mpr (List.mem_map.mpr ⟨n, z, rfl⟩))
            rw [← Int.ofNat.inj e]
            exact hu
        have S2 := same_new (o := .lst ((l9.map fun n : Nat => (n : Int)).map V.int)) hq9
        have g9 : (upd H6 q9 (.lst ((l9.map fun n : Nat => (n : Int)).map V.int))) q9 = some (.lst (natV l9)) := by
          rw [upd_same, List.map_map]
          rfl
        have n9 := pls.new hq9
        have nq9 : q ≠ q9 := ne_of_none gq hq9
        have np9 := M.pD hq9
        replace M := M.same S2
        replace gq := S2 _ _ gq
        replace pls := pls.mono fun t _ xs e => S2 _ _ e
        replace B1 := B1.trans (But.of S2)
        have lu := pls.len
        have szu : us.length < sizeLine := by rw [sizeLine_eq]; omega
        generalize upd H6 q9 _ = H7 at *
        repeat (first | (with_reducible refine st_tC ?_) | (with_reducible refine st_tOp ?_) | ((with_reducible apply st_n); rfl; rfl; (first | trivial | (show _ ≤ _; omega) | (show _ < _; omega) | (show _ ∨ _; omega) | assumption | exact ⟨by assumption, by omega⟩ | exact ⟨W30.one, by omega⟩ | fail); rfl) | (with_reducible refine st_i0 rfl rfl rfl ?_) | ((with_reducible refine st_i rfl rfl ?_ rfl ?_); first | omega | exact ⟨by decide, by decide, by decide⟩ | exact .inl ⟨by decide, by decide⟩ | exact .inl ⟨by omega, by omega⟩ | exact .inr ⟨by omega, by omega⟩ | fail) | ((fail_if_success refine Exists.intro (α := Nat → Nat → L2.St → Hp → Prop) ?_ ?_); (fail_if_success refine Exists.intro (α := L2.St → Hp → Prop) ?_ ?_); (fail_if_success refine Exists.intro (α := Nat → L2.St → Hp → Prop) ?_ ?_); apply Exists.intro) | ((refine And.intro ?_ ?_); first | with_reducible rfl | with_reducible assumption | rfl | ((with_reducible apply SqL.of); assumption) | ((with_reducible apply SqT.of); assumption) | ((with_reducible apply OwnC.cl); assumption) | (with_reducible exact isI_int _) | exact within_args | (with_reducible exact upd_same) | ((with_reducible apply Mid.o); assumption) | ((with_reducible apply Mid.t); assumption) | exact .inl ⟨rfl, _, SqL.of (by assumption)⟩ | (with_reducible exact ⟨_, SqT.of (by assumption)⟩) | (with_reducible exact ⟨_, SqL.of (by assumption)⟩) | omega | exact Nat.le_of_ble_eq_true rfl | exact nat9 (by omega) | exact ⟨_, rfl⟩ | (show _ ≤ sizeLine; decide) | exact ⟨by decide, by decide, by decide⟩ | exact .inl ⟨by decide, by decide⟩ | exact .inl ⟨by omega, by omega⟩ | exact .inr ⟨by omega, by omega⟩ | assumption | fail) | ((with_reducible refine iteF' ?_ ?_); first | rfl | exact decide_eq_false (by omega) | exact in_no (by omega) (by omega) | exact in_no (by omega) (by assumption) | (simp <;> fail) | fail) | ((with_reducible refine iteT' ?_ ?_); first | rfl | exact decide_eq_true (by omega) | (simp <;> fail) | fail))
        have ok9 : l9 ≠ [] ∧ l9.Pairwise (· < ·) ∧ l9.length ≤ 6 ∧ ∀ n ∈ l9, n ≤ 20000 := by
          refine ⟨fun z => ?_, pw9, ?_, fun n hn => hL n ((hm9 n).mp hn)⟩
          · rw [z] at hm9
            cases L with
            | nil => change 0 = 1 + r2 at lL; omega
            | cons a r => exact absurd ((hm9 a).mpr List.mem_cons_self) List.not_mem_nil
          · have := nd_len (l := l9) (L := L) (pw9.imp fun z => Nat.ne_of_lt z) fun n hn => (hm9 n).mp hn
            omega
        refine ⟨(M.put gq np_q nb_q).mono (by omega), but_put hq B1, ⟨us ++ [V.ref q9], ls ++ [l9], _, _, _, upd_same, ?_, by rw [List.length_append, ll]; rfl, fun l hl => ?_, ?_, fun t ht => ?_, rfl⟩⟩
        · refine PLs.app (vs2 := [V.ref q9]) (ps2 := [l9]) ⟨⟨q9, rfl, ?_⟩, trivial⟩ (pls.mono fun t ht xs e => ?_)
          · rw [upd_ne nq9.symm]
            exact g9
          · rw [upd_ne (show t ≠ q from fun z => nq (by rw [← z]; exact ht))]
            exact e
        · rcases List.mem_append.mp hl with h | h
          · exact ok l h
          · rw [List.mem_singleton.mp h]
            exact ok9
        · intro z
          rcases List.mem_append.mp z with z | z
          · exact nq z
          · have := List.mem_singleton.mp z
            injection this with this
            exact nq9 this
        · rcases List.mem_append.mp ht with z | z
          · exact npu t z
          · have := List.mem_singleton.mp z
            injection this with this
            rw [this]
            exact np9
    · rintro σ H' ⟨M, B1, ⟨us, ls, u2, u3, u4, gq, pls, ll, ok, nq, npu, rfl⟩⟩
      repeat (first | (with_reducible refine st_tC ?_) | (with_reducible refine st_tOp ?_) | ((with_reducible apply st_n); rfl; rfl; (first | trivial | (show _ ≤ _; omega) | (show _ < _; omega) | (show _ ∨ _; omega) | assumption | exact ⟨by assumption, by omega⟩ | exact ⟨W30.one, by omega⟩ | fail); rfl) | (with_reducible refine st_i0 rfl rfl rfl ?_) | ((with_reducible refine st_i rfl rfl ?_ rfl ?_); first | omega | exact ⟨by decide, by decide, by decide⟩ | exact .inl ⟨by decide, by decide⟩ | exact .inl ⟨by omega, by omega⟩ | exact .inr ⟨by omega, by omega⟩ | fail) | ((fail_if_success refine Exists.intro (α := Nat → Nat → L2.St → Hp → Prop) ?_ ?_); (fail_if_success refine Exists.intro (α := L2.St → Hp → Prop) ?_ ?_); (fail_if_success refine Exists.intro (α := Nat → L2.St → Hp → Prop) ?_ ?_); apply Exists.intro) | ((refine And.intro ?_ ?_); first | with_reducible rfl | with_reducible assumption | rfl | ((with_reducible apply SqL.of); assumption) | ((with_reducible apply SqT.of); assumption) | ((with_reducible apply OwnC.cl); assumption) | (with_reducible exact isI_int _) | exact within_args | (with_reducible exact upd_same) | ((with_reducible apply Mid.o); assumption) | ((with_reducible apply Mid.t); assumption) | exact .inl ⟨rfl, _, SqL.of (by assumption)⟩ | (with_reducible exact ⟨_, SqT.of (by assumption)⟩) | (with_reducible exact ⟨_, SqL.of (by assumption)⟩) | omega | exact Nat.le_of_ble_eq_true rfl | exact nat9 (by omega) | exact ⟨_, rfl⟩ | (show _ ≤ sizeLine; decide) | exact ⟨by decide, by decide, by decide⟩ | exact .inl ⟨by decide, by decide⟩ | exact .inl ⟨by omega, by omega⟩ | exact .inr ⟨by omega, by omega⟩ | assumption | fail) | ((with_reducible refine iteF' ?_ ?_); first | rfl | exact decide_eq_false (by omega) | exact in_no (by omega) (by omega) | exact in_no (by omega) (by assumption) | (simp <;> fail) | fail) | ((with_reducible refine iteT' ?_ ?_); first | rfl | exact decide_eq_true (by omega) | (simp <;> fail) | fail))
      exact k q us ls H' hq gq pls ok (by omega) (M.mono (by omega)).o B1
end
end K46
namespace K46
open PySem PySem.Spec PyProof.Rows L2 OB SkE LamX
theorem dp_strs {K : PySem.W.Frag} {H : Hp} : ∀ ys : List Str, DpAll K H (ys.map V.str) (ys.map PyData.str)
  | [] => .nil
  | _ :: r => .cons (.str _) (dp_strs r)
theorem str_ok {y : Str} (h : MN.asc y) : PyData.strOk y = true := by
  unfold PyData.strOk
  rw [Array.all_eq_true']
  intro c hc
  have : c < 256 := h c (Array.mem_toList_iff.mpr hc)
  exact decide_eq_true (by omega)
theorem lay_strs : ∀ ys : List Str, (∀ y ∈ ys, MN.asc y) → PyData.canLayAll0 (ys.map PyData.str) = true ∧ PyData.depthAll (ys.map PyData.str) ≤ 1
  | [], _ => ⟨rfl, by simp [PyData.depthAll]⟩
  | y :: r, h => by
    obtain ⟨a, b⟩ := lay_strs r fun z hz => h z (List.mem_cons_of_mem _ hz)
    have s0 := str_ok (h y List.mem_cons_self)
    refine ⟨by simp [PyData.canLayAll0, PyData.canLay0, a, s0], ?_⟩
    simp only [List.map_cons, PyData.depthAll, PyData.depth]
    omega
theorem shp_strs {ys : List Str} (h : ∀ y ∈ ys, MN.asc y) : SeqAt.shaped (.list (ys.map PyData.str)) = true := by
  obtain ⟨a, b⟩ := lay_strs ys h
  unfold SeqAt.shaped
  rw [Bool.and_eq_true]
  exact ⟨by simp only [PyData.canLay0, a], decide_eq_true (by simp only [PyData.depth]; omega)⟩
theorem eqv_strs0 : ∀ ys : List Str, PyData.eqv (.list (ys.map PyData.str)) (.list []) = decide (ys = [])
  | [] => by simp [PyData.eqv, PyData.eqvAll]
  | y :: r => by simp [PyData.eqv, PyData.eqvAll]
theorem bar_asc : MN.asc ("|" : Str) := fun c hc => (show ∀ c ∈ MT.cs ("|" : Str), c < 256 by decide +kernel) c hc
/-- the items of phases -/
def itm (f : List Str) : List (List Nat) → List Str
  | [] => f
  | l :: r => itm (f ++ (if f = [] then [] else [("|" : Str)]) ++ l.map ds) r
def itemsF (ls : List (List Nat)) : List Str := if itm [] ls = [] then [("-" : Str)] else itm [] ls
def spLItems : Sp := fun vs H Q _ => ∃ (a : Addr) (us : List V) (ls : List (List Nat)), vs = [.ref a] ∧ H a = some (.lst us) ∧ PLs H us ls ∧ ls.length ≤ 5 ∧ (∀ l ∈ ls, l.length ≤ 6 ∧ ∀ n ∈ l, n ≤ 20000) ∧
  ∀ q H', H q = none → Same H H' → H' q = some (.lst ((itemsF ls).map V.str)) → Q (.ref q) H'
section
variable {P : Program} {w : World} {K : PySem.W.Frag} {mg : Str → Option Value} {base : Heap}
theorem sc__law_items : FnScope ["phases", "found", "phase", "bit"] ["phases"] (defScope s__law_items) := ⟨rfl, rfl, rfl, by decide +kernel, rfl, by decide +kernel, by decide +kernel⟩
abbrev N__law_items : List Str := ["phases", "found", "phase", "bit"]
theorem ok__law_items {f : Addr} {fd : FuncData} (F : Fun K "_law_items" "_law_items" s__law_items f fd) (T : Blt mg) : FnOk P w K mg base CX0 1 f fd ["phases"] spLItems := by
  refine F.ok sc__law_items (fun vs H Q E h => ?_) (fun cdv A outer s H vs Q E hr h => ?_)
  · obtain ⟨a, us, ls, rfl, _⟩ := h
    rfl
  · obtain ⟨a, us, ls, rfl, ga, pls, l5, ok, k⟩ := h
    refine ⟨_, (pss_cons (ps_set (i := 1) sc__law_items.nd rfl (Or.inl rfl) (pe_lst pa_nil))
  (pss_cons (ps_for PassesOwn.never rfl (pi_list (pv 0)) (pg_name (i := 2) sc__law_items.nd rfl (Or.inl rfl)) (pss_one (ps_set (i := 1) sc__law_items.nd rfl (Or.inl rfl) (pe_op op_cat (pe_op op_cat (pv 1) (pe_ifExp (pt_cmpR (op_neD hr.units) (pv 1) (pe_lst pa_nil) (nomark _)) (pe_lst (pa_cons pe_str pa_nil)) (pe_lst pa_nil))) (pe_lc (own := [("bit", 3)]) (g := (gName 3)) (tt := tYes) rfl sc__law_items.nd (pi_list (pv 2)) (blkOk_by (N := N__law_items) (own := [("bit", 3)]) (sc := defScope s__law_items) (by decide +kernel)) (fun _ _ _ _ _ => (pg_name (i := 3) sc__law_items.nd rfl (Or.inl rfl))) (fun _ _ _ _ _ => pts_nil) (fun _ _ _ _ _ => (pe_callTy call_str_int (by rfl) T.n_str (by decide +kernel) (pa_cons (pv 3) pa_nil))))))))
  (pss_one (ps_ret (pe_ifExp (pt_cmpR (op_neD hr.units) (pv 1) (pe_lst pa_nil) (nomark _)) (pv 1) (pe_lst (pa_cons pe_str pa_nil))))))), ?_⟩
    have sqa := SqL.of (K := K) ga
    have pl := pls.len
    repeat (first | (with_reducible refine st_tC ?_) | (with_reducible refine st_tOp ?_) | ((with_reducible apply st_n); rfl; rfl; (first | trivial | (show _ ≤ _; omega) | (show _ < _; omega) | (show _ ∨ _; omega) | assumption | exact ⟨by assumption, by omega⟩ | exact ⟨W30.one, by omega⟩ | fail); rfl) | (with_reducible refine st_i0 rfl rfl rfl ?_) | ((with_reducible refine st_i rfl rfl ?_ rfl ?_); first | omega | exact ⟨by decide, by decide, by decide⟩ | exact .inl ⟨by decide, by decide⟩ | exact .inl ⟨by omega, by omega⟩ | exact .inr ⟨by omega, by omega⟩ | fail) | ((fail_if_success refine Exists.intro (α := Nat → Nat → L2.St → Hp → Prop) ?_ ?_); (fail_if_success refine Exists.intro (α := L2.St → Hp → Prop) ?_ ?_); (fail_if_success refine Exists.intro (α := Nat → L2.St → Hp → Prop) ?_ ?_); apply Exists.intro) | ((refine And.intro ?_ ?_); first | with_reducible rfl | with_reducible assumption | rfl | ((with_reducible apply SqL.of); assumption) | ((with_reducible apply SqT.of); assumption) | ((with_reducible apply OwnC.cl); assumption) | (with_reducible exact isI_int _) | exact within_args | (with_reducible exact upd_same) | ((with_reducible apply Mid.o); assumption) | ((with_reducible apply Mid.t); assumption) | exact .inl ⟨rfl, _, SqL.of (by assumption)⟩ | (with_reducible exact ⟨_, SqT.of (by assumption)⟩) | (with_reducible exact ⟨_, SqL.of (by assumption)⟩) | omega | exact Nat.le_of_ble_eq_true rfl | exact nat9 (by omega) | exact ⟨_, rfl⟩ | (show _ ≤ sizeLine; decide) | exact ⟨by decide, by decide, by decide⟩ | exact .inl ⟨by decide, by decide⟩ | exact .inl ⟨by omega, by omega⟩ | exact .inr ⟨by omega, by omega⟩ | assumption | fail) | ((with_reducible refine iteF' ?_ ?_); first | rfl | exact decide_eq_false (by omega) | exact in_no (by omega) (by omega) | exact in_no (by omega) (by assumption) | (simp <;> fail) | fail) | ((with_reducible refine iteT' ?_ ?_); first | rfl | exact decide_eq_true (by omega) | (simp <;> fail) | fail))
    intro f0 hf0
    have S1 := same_new (o := .lst []) hf0
    have gf : (upd H f0 (.lst [])) f0 = some (.lst (([] : List Str).map V.str)) := upd_same
    generalize upd H f0 _ = H1 at *
    have ga1 := S1 _ _ ga
    replace sqa := SqL.of (K := K) ga1
    repeat (first | (with_reducible refine st_tC ?_) | (with_reducible refine st_tOp ?_) | ((with_reducible apply st_n); rfl; rfl; (first | trivial | (show _ ≤ _; omega) | (show _ < _; omega) | (show _ ∨ _; omega) | assumption | exact ⟨by assumption, by omega⟩ | exact ⟨W30.one, by omega⟩ | fail); rfl) | (with_reducible refine st_i0 rfl rfl rfl ?_) | ((with_reducible refine st_i rfl rfl ?_ rfl ?_); first | omega | exact ⟨by decide, by decide, by decide⟩ | exact .inl ⟨by decide, by decide⟩ | exact .inl ⟨by omega, by omega⟩ | exact .inr ⟨by omega, by omega⟩ | fail) | ((fail_if_success refine Exists.intro (α := Nat → Nat → L2.St → Hp → Prop) ?_ ?_); (fail_if_success refine Exists.intro (α := L2.St → Hp → Prop) ?_ ?_); (fail_if_success refine Exists.intro (α := Nat → L2.St → Hp → Prop) ?_ ?_); apply Exists.intro) | ((refine And.intro ?_ ?_); first | with_reducible rfl | with_reducible assumption | rfl | ((with_reducible apply SqL.of); assumption) | ((with_reducible apply SqT.of); assumption) | ((with_reducible apply OwnC.cl); assumption) | (with_reducible exact isI_int _) | exact within_args | (with_reducible exact upd_same) | ((with_reducible apply Mid.o); assumption) | ((with_reducible apply Mid.t); assumption) | exact .inl ⟨rfl, _, SqL.of (by assumption)⟩ | (with_reducible exact ⟨_, SqT.of (by assumption)⟩) | (with_reducible exact ⟨_, SqL.of (by assumption)⟩) | omega | exact Nat.le_of_ble_eq_true rfl | exact nat9 (by omega) | exact ⟨_, rfl⟩ | (show _ ≤ sizeLine; decide) | exact ⟨by decide, by decide, by decide⟩ | exact .inl ⟨by decide, by decide⟩ | exact .inl ⟨by omega, by omega⟩ | exact .inr ⟨by omega, by omega⟩ | assumption | fail) | ((with_reducible refine iteF' ?_ ?_); first | rfl | exact decide_eq_false (by omega) | exact in_no (by omega) (by omega) | exact in_no (by omega) (by assumption) | (simp <;> fail) | fail) | ((with_reducible refine iteT' ?_ ?_); first | rfl | exact decide_eq_true (by omega) | (simp <;> fail) | fail))
    refine for_list (K := K) (a := a) (xs := us) (fun i σ H' => Same H H' ∧ Hid (∃ (f : Addr) (ys : List Str) (u2 u3 : Option V), H' f = some (.lst (ys.map V.str)) ∧ H f = none ∧ (∀ y ∈ ys, MN.asc y) ∧ itm ys (ls.drop i) = itm [] ls ∧ ys.length ≤ 7 * i ∧ σ = [some (.ref a), some (.ref f), u2, u3])) ⟨S1, ⟨f0, [], _, _, gf, hf0, (fun _ z => absurd z List.not_mem_nil), rfl, Nat.zero_le _, rfl⟩⟩ (fun i σ H' _ w => SqL.of (w.1 _ _ ga)) ?_ ?_
    · clear S1 gf sqa
      rintro i y σ H' hy ⟨S1, ⟨f, ys, u2, u3, gf, hf, as, ei, ly, rfl⟩⟩
      obtain ⟨t, ph, rfl, hph, gt⟩ := pls.at hy
      obtain ⟨il, e⟩ := List.getElem?_eq_some_iff.mp hph
      have dr : ls.drop i = ph :: ls.drop (i + 1) := by
        rw [← e]
        exact List.drop_eq_getElem_cons il
      rw [dr, itm] at ei
      obtain ⟨p6, p20⟩ := ok ph (List.mem_of_getElem? hph)
      have gt1 := S1 _ _ gt
      have sqf := SqL.of (K := K) gf
      repeat (first | (with_reducible refine st_tC ?_) | (with_reducible refine st_tOp ?_) | ((with_reducible apply st_n); rfl; rfl; (first | trivial | (show _ ≤ _; omega) | (show _ < _; omega) | (show _ ∨ _; omega) | assumption | exact ⟨by assumption, by omega⟩ | exact ⟨W30.one, by omega⟩ | fail); rfl) | (with_reducible refine st_i0 rfl rfl rfl ?_) | ((with_reducible refine st_i rfl rfl ?_ rfl ?_); first | omega | exact ⟨by decide, by decide, by decide⟩ | exact .inl ⟨by decide, by decide⟩ | exact .inl ⟨by omega, by omega⟩ | exact .inr ⟨by omega, by omega⟩ | fail) | ((fail_if_success refine Exists.intro (α := Nat → Nat → L2.St → Hp → Prop) ?_ ?_); (fail_if_success refine Exists.intro (α := L2.St → Hp → Prop) ?_ ?_); (fail_if_success refine Exists.intro (α := Nat → L2.St → Hp → Prop) ?_ ?_); apply Exists.intro) | ((refine And.intro ?_ ?_); first | with_reducible rfl | with_reducible assumption | rfl | ((with_reducible apply SqL.of); assumption) | ((with_reducible apply SqT.of); assumption) | ((with_reducible apply OwnC.cl); assumption) | (with_reducible exact isI_int _) | exact within_args | (with_reducible exact upd_same) | ((with_reducible apply Mid.o); assumption) | ((with_reducible apply Mid.t); assumption) | exact .inl ⟨rfl, _, SqL.of (by assumption)⟩ | (with_reducible exact ⟨_, SqT.of (by assumption)⟩) | (with_reducible exact ⟨_, SqL.of (by assumption)⟩) | omega | exact Nat.le_of_ble_eq_true rfl | exact nat9 (by omega) | exact ⟨_, rfl⟩ | (show _ ≤ sizeLine; decide) | exact ⟨by decide, by decide, by decide⟩ | exact .inl ⟨by decide, by decide⟩ | exact .inl ⟨by omega, by omega⟩ | exact .inr ⟨by omega, by omega⟩ | assumption | fail) | ((with_reducible refine iteF' ?_ ?_); first | rfl | exact decide_eq_false (by omega) | exact in_no (by omega) (by omega) | exact in_no (by omega) (by assumption) | (simp <;> fail) | fail) | ((with_reducible refine iteT' ?_ ?_); first | rfl | exact decide_eq_true (by omega) | (simp <;> fail) | fail))
      intro e0 he0
      have S2 := same_new (o := .lst []) he0
      have g0 : (upd H' e0 (.lst [])) e0 = some (.lst []) := upd_same
      have gf2 := S2 _ _ gf
      have gt2 := S2 _ _ gt1
      have S12 := S1.trans S2
      generalize upd H' e0 _ = H2 at *
      refine ⟨.list (ys.map PyData.str), .list [], .lst (SqL.of gf2) (dp_strs _), .lst (SqL.of g0) .nil, shp_strs as, shaped_ints [], _, rfl, ?_⟩
      rw [eqv_strs0]
      by_cases hy0 : ys = []
      · rw [if_pos hy0] at ei
        refine iteF' (by rw [decide_eq_true hy0]; rfl) ?_
        repeat (first | (with_reducible refine st_tC ?_) | (with_reducible refine st_tOp ?_) | ((with_reducible apply st_n); rfl; rfl; (first | trivial | (show _ ≤ _; omega) | (show _ < _; omega) | (show _ ∨ _; omega) | assumption | exact ⟨by assumption, by omega⟩ | exact ⟨W30.one, by omega⟩ | fail); rfl) | (with_reducible refine st_i0 rfl rfl rfl ?_) | ((with_reducible refine st_i rfl rfl ?_ rfl ?_); first | omega | exact ⟨by decide, by decide, by decide⟩ | exact .inl ⟨by decide, by decide⟩ | exact .inl ⟨by omega, by omega⟩ | exact .inr ⟨by omega, by omega⟩ | fail) | ((fail_if_success refine Exists.intro (α := Nat → Nat → L2.St → Hp → Prop) ?_ ?_); (fail_if_success refine Exists.intro (α := L2.St → Hp → Prop) ?_ ?_); (fail_if_success refine Exists.intro (α := Nat → L2.St → Hp → Prop) ?_ ?_); apply Exists.intro) | ((refine And.intro ?_ ?_); first | with_reducible rfl | with_reducible assumption | rfl | ((with_reducible apply SqL.of); assumption) | ((with_reducible apply SqT.of); assumption) | ((with_reducible apply OwnC.cl); assumption) | (with_reducible exact isI_int _) | exact within_args | (with_reducible exact upd_same) | ((with_reducible apply Mid.o); assumption) | ((with_reducible apply Mid.t); assumption) | exact .inl ⟨rfl, _, SqL.of (by assumption)⟩ | (with_reducible exact ⟨_, SqT.of (by assumption)⟩) | (with_reducible exact ⟨_, SqL.of (by assumption)⟩) | omega | exact Nat.le_of_ble_eq_true rfl | exact nat9 (by omega) | exact ⟨_, rfl⟩ | (show _ ≤ sizeLine; decide) | exact ⟨by decide, by decide, by decide⟩ | exact .inl ⟨by decide, by decide⟩ | exact .inl ⟨by omega, by omega⟩ | exact .inr ⟨by omega, by omega⟩ | assumption | fail) | ((with_reducible refine iteF' ?_ ?_); first | rfl | exact decide_eq_false (by omega) | exact in_no (by omega) (by omega) | exact in_no (by omega) (by assumption) | (simp <;> fail) | fail) | ((with_reducible refine iteT' ?_ ?_); first | rfl | exact decide_eq_true (by omega) | (simp <;> fail) | fail))
        intro e1 he1
        have S3 := same_new (o := .lst []) he1
        have ge : (upd H2 e1 (.lst [])) e1 = some (.lst (([] : List Str).map V.str)) := upd_same
        have gf3 := S3 _ _ gf2
        have szE : (ys.map V.str).length + (([] : List Str).map V.str).length ≤ sizeLine := by
          rw [List.length_map, sizeLine_eq]
          show _ + 0 ≤ _
          omega
        have S13 := S12.trans S3
        generalize upd H2 e1 _ = H3 at *
        repeat (first | (with_reducible refine st_tC ?_) | (with_reducible refine st_tOp ?_) | ((with_reducible apply st_n); rfl; rfl; (first | trivial | (show _ ≤ _; omega) | (show _ < _; omega) | (show _ ∨ _; omega) | assumption | exact ⟨by assumption, by omega⟩ | exact ⟨W30.one, by omega⟩ | fail); rfl) | (with_reducible refine st_i0 rfl rfl rfl ?_) | ((with_reducible refine st_i rfl rfl ?_ rfl ?_); first | omega | exact ⟨by decide, by decide, by decide⟩ | exact .inl ⟨by decide, by decide⟩ | exact .inl ⟨by omega, by omega⟩ | exact .inr ⟨by omega, by omega⟩ | fail) | ((fail_if_success refine Exists.intro (α := Nat → Nat → L2.St → Hp → Prop) ?_ ?_); (fail_if_success refine Exists.intro (α := L2.St → Hp → Prop) ?_ ?_); (fail_if_success refine Exists.intro (α := Nat → L2.St → Hp → Prop) ?_ ?_); apply Exists.intro) | ((refine And.intro ?_ ?_); first | with_reducible rfl | with_reducible assumption | rfl | ((with_reducible apply SqL.of); assumption) | ((with_reducible apply SqT.of); assumption) | ((with_reducible apply OwnC.cl); assumption) | (with_reducible exact isI_int _) | exact within_args | (with_reducible exact upd_same) | ((with_reducible apply Mid.o); assumption) | ((with_reducible apply Mid.t); assumption) | exact .inl ⟨rfl, _, SqL.of (by assumption)⟩ | (with_reducible exact ⟨_, SqT.of (by assumption)⟩) | (with_reducible exact ⟨_, SqL.of (by assumption)⟩) | omega | exact Nat.le_of_ble_eq_true rfl | exact nat9 (by omega) | exact ⟨_, rfl⟩ | (show _ ≤ sizeLine; decide) | exact ⟨by decide, by decide, by decide⟩ | exact .inl ⟨by decide, by decide⟩ | exact .inl ⟨by omega, by omega⟩ | exact .inr ⟨by omega, by omega⟩ | assumption | fail) | ((with_reducible refine iteF' ?_ ?_); first | rfl | exact decide_eq_false (by omega) | exact in_no (by omega) (by omega) | exact in_no (by omega) (by assumption) | (simp <;> fail) | fail) | ((with_reducible refine iteT' ?_ ?_); first | rfl | exact decide_eq_true (by omega) | (simp <;> fail) | fail))
        intro c1 hc1
        have S4 := same_new (o := .lst (ys.map V.str ++ (([] : List Str)).map V.str)) hc1
        have g4 : (upd H3 c1 (.lst (ys.map V.str ++ (([] : List Str)).map V.str))) c1 = some (.lst ((ys ++ ([] : List Str)).map V.str)) := by
          rw [upd_same, List.map_append]
        have gt4 := S4 _ _ (S3 _ _ gt2)
        have S14 := S13.trans S4
        generalize upd H3 c1 _ = H4 at *
        repeat (first | (with_reducible refine st_tC ?_) | (with_reducible refine st_tOp ?_) | ((with_reducible apply st_n); rfl; rfl; (first | trivial | (show _ ≤ _; omega) | (show _ < _; omega) | (show _ ∨ _; omega) | assumption | exact ⟨by assumption, by omega⟩ | exact ⟨W30.one, by omega⟩ | fail); rfl) | (with_reducible refine st_i0 rfl rfl rfl ?_) | ((with_reducible refine st_i rfl rfl ?_ rfl ?_); first | omega | exact ⟨by decide, by decide, by decide⟩ | exact .inl ⟨by decide, by decide⟩ | exact .inl ⟨by omega, by omega⟩ | exact .inr ⟨by omega, by omega⟩ | fail) | ((fail_if_success refine Exists.intro (α := Nat → Nat → L2.St → Hp → Prop) ?_ ?_); (fail_if_success refine Exists.intro (α := L2.St → Hp → Prop) ?_ ?_); (fail_if_success refine Exists.intro (α := Nat → L2.St → Hp → Prop) ?_ ?_); apply Exists.intro) | ((refine And.intro ?_ ?_); first | with_reducible rfl | with_reducible assumption | rfl | ((with_reducible apply SqL.of); assumption) | ((with_reducible apply SqT.of); assumption) | ((with_reducible apply OwnC.cl); assumption) | (with_reducible exact isI_int _) | exact within_args | (with_reducible exact upd_same) | ((with_reducible apply Mid.o); assumption) | ((with_reducible apply Mid.t); assumption) | exact .inl ⟨rfl, _, SqL.of (by assumption)⟩ | (with_reducible exact ⟨_, SqT.of (by assumption)⟩) | (with_reducible exact ⟨_, SqL.of (by assumption)⟩) | omega | exact Nat.le_of_ble_eq_true rfl | exact nat9 (by omega) | exact ⟨_, rfl⟩ | (show _ ≤ sizeLine; decide) | exact ⟨by decide, by decide, by decide⟩ | exact .inl ⟨by decide, by decide⟩ | exact .inl ⟨by omega, by omega⟩ | exact .inr ⟨by omega, by omega⟩ | assumption | fail) | ((with_reducible refine iteF' ?_ ?_); first | rfl | exact decide_eq_false (by omega) | exact in_no (by omega) (by omega) | exact in_no (by omega) (by assumption) | (simp <;> fail) | fail) | ((with_reducible refine iteT' ?_ ?_); first | rfl | exact decide_eq_true (by omega) | (simp <;> fail) | fail))
        intro D hD
        refine lc_list (xs := natV ph) (fun j H5 => Same H4 H5 ∧ H5 D = some (.lst (((ph.take j).map ds).map V.str))) ⟨same_new hD, upd_same⟩ (fun j H5 _ h => SqL.of (h.1 _ _ gt4)) ?_ ?_
        · rintro j y H5 hy5 ⟨S5, gD⟩
          obtain ⟨n, hn9, rfl⟩ : ∃ n : Nat, ph[j]? = some n ∧ y = V.int (n : Int) := by
            rw [List.getElem?_map] at hy5
            cases e : ph[j]? with
            | none => rw [e] at hy5; cases hy5
            | some n => rw [e] at hy5; exact ⟨n, rfl, (Option.some.inj hy5).symm⟩
          refine ⟨rfl, _, rfl, _, rfl, (ds_room (p20 n (List.mem_of_getElem? hn9))).2, _, gD, ?_, fun o w z => ?_, ?_⟩
          · rw [List.length_map, List.length_map, List.length_take, sizeLine_eq]
            omega
          · rw [upd_ne (ne_of_none z hD)]
            exact S5 _ _ z
          · rw [upd_same, List.take_add_one, hn9, List.map_append, List.map_append]
            rfl
        · rintro H5 ⟨S5, gD⟩
          rw [natV_len, List.take_length] at gD
          have g5 := S5 _ _ g4
          have sz5 : ((ys ++ ([] : List Str)).map V.str).length + ((ph.map ds).map V.str).length ≤ sizeLine := by
            rw [List.length_map, List.length_map, List.length_map, List.length_append, sizeLine_eq]
            show _ + 0 + _ ≤ _
            omega
          repeat (first | (with_reducible refine st_tC ?_) | (with_reducible refine st_tOp ?_) | ((with_reducible apply st_n); rfl; rfl; (first | trivial | (show _ ≤ _; omega) | (show _ < _; omega) | (show _ ∨ _; omega) | assumption | exact ⟨by assumption, by omega⟩ | exact ⟨W30.one, by omega⟩ | fail); rfl) | (with_reducible refine st_i0 rfl rfl rfl ?_) | ((with_reducible refine st_i rfl rfl ?_ rfl ?_); first | omega | exact ⟨by decide, by decide, by decide⟩ | exact .inl ⟨by decide, by decide⟩ | exact .inl ⟨by omega, by omega⟩ | exact .inr ⟨by omega, by omega⟩ | fail) | ((fail_if_success refine Exists.intro (α := Nat → Nat → L2.St → Hp → Prop) ?_ ?_); (fail_if_success refine Exists.intro (α := L2.St → Hp → Prop) ?_ ?_); (fail_if_success refine Exists.intro (α := Nat → L2.St → Hp → Prop) ?_ ?_); apply Exists.intro) | ((refine And.intro ?_ ?_); first | with_reducible rfl | with_reducible assumption | rfl | ((with_reducible apply SqL.of); assumption) | ((with_reducible apply SqT.of); assumption) | ((with_reducible apply OwnC.cl); assumption) | (with_reducible exact isI_int _) | exact within_args | (with_reducible exact upd_same) | ((with_reducible apply Mid.o); assumption) | ((with_reducible apply Mid.t); assumption) | exact .inl ⟨rfl, _, SqL.of (by assumption)⟩ | (with_reducible exact ⟨_, SqT.of (by assumption)⟩) | (with_reducible exact ⟨_, SqL.of (by assumption)⟩) | omega | exact Nat.le_of_ble_eq_true rfl | exact nat9 (by omega) | exact ⟨_, rfl⟩ | (show _ ≤ sizeLine; decide) | exact ⟨by decide, by decide, by decide⟩ | exact .inl ⟨by decide, by decide⟩ | exact .inl ⟨by omega, by omega⟩ | exact .inr ⟨by omega, by omega⟩ | assumption | fail) | ((with_reducible refine iteF' ?_ ?_); first | rfl | exact decide_eq_false (by omega) | exact in_no (by omega) (by omega) | exact in_no (by omega) (by assumption) | (simp <;> fail) | fail) | ((with_reducible refine iteT' ?_ ?_); first | rfl | exact decide_eq_true (by omega) | (simp <;> fail) | fail))
          intro c2 hc2
          have S6 := same_new (o := .lst ((ys ++ ([] : List Str)).map V.str ++ (ph.map ds).map V.str)) hc2
          have S16 := (S14.trans S5)
          refine ⟨S16.trans S6, ⟨c2, ys ++ ([] : List Str) ++ ph.map ds, _, _, by rw [upd_same, ← List.map_append], S16.free hc2, fun y hy => ?_, ei, ?_, rfl⟩⟩
          · rcases List.mem_append.mp hy with h | h
            · rcases List.mem_append.mp h with h | h
              · exact as y h
              · cases h
            · obtain ⟨n, _, rfl⟩ := List.mem_map.mp h
              exact MN.asc_ds n
          · rw [List.length_append, List.length_append, List.length_map]
            show _ + 0 + _ ≤ _
            omega
        
      · rw [if_neg hy0] at ei
        refine iteT' (by rw [decide_eq_false hy0]; rfl) ?_
        repeat (first | (with_reducible refine st_tC ?_) | (with_reducible refine st_tOp ?_) | ((with_reducible apply st_n); rfl; rfl; (first | trivial | (show _ ≤ _; omega) | (show _ < _; omega) | (show _ ∨ _; omega) | assumption | exact ⟨by assumption, by omega⟩ | exact ⟨W30.one, by omega⟩ | fail); rfl) | (with_reducible refine st_i0 rfl rfl rfl ?_) | ((with_reducible refine st_i rfl rfl ?_ rfl ?_); first | omega | exact ⟨by decide, by decide, by decide⟩ | exact .inl ⟨by decide, by decide⟩ | exact .inl ⟨by omega, by omega⟩ | exact .inr ⟨by omega, by omega⟩ | fail) | ((fail_if_success refine Exists.intro (α := Nat → Nat → L2.St → Hp → Prop) ?_ ?_); (fail_if_success refine Exists.intro (α := L2.St → Hp → Prop) ?_ ?_); (fail_if_success refine Exists.intro (α := Nat → L2.St → Hp → Prop) ?_ ?_); apply Exists.intro) | ((refine And.intro ?_ ?_); first | with_reducible rfl | with_reducible assumption | rfl | ((with_reducible apply SqL.of); assumption) | ((with_reducible apply SqT.of); assumption) | ((with_reducible apply OwnC.cl); assumption) | (with_reducible exact isI_int _) | exact within_args | (with_reducible exact upd_same) | ((with_reducible apply Mid.o); assumption) | ((with_reducible apply Mid.t); assumption) | exact .inl ⟨rfl, _, SqL.of (by assumption)⟩ | (with_reducible exact ⟨_, SqT.of (by assumption)⟩) | (with_reducible exact ⟨_, SqL.of (by assumption)⟩) | omega | exact Nat.le_of_ble_eq_true rfl | exact nat9 (by omega) | exact ⟨_, rfl⟩ | (show _ ≤ sizeLine; decide) | exact ⟨by decide, by decide, by decide⟩ | exact .inl ⟨by decide, by decide⟩ | exact .inl ⟨by omega, by omega⟩ | exact .inr ⟨by omega, by omega⟩ | assumption | fail) | ((with_reducible refine iteF' ?_ ?_); first | rfl | exact decide_eq_false (by omega) | exact in_no (by omega) (by omega) | exact in_no (by omega) (by assumption) | (simp <;> fail) | fail) | ((with_reducible refine iteT' ?_ ?_); first | rfl | exact decide_eq_true (by omega) | (simp <;> fail) | fail))
        intro e1 he1
        have S3 := same_new (o := .lst [V.str "|"]) he1
        have ge : (upd H2 e1 (.lst [V.str "|"])) e1 = some (.lst (([("|" : Str)] : List Str).map V.str)) := upd_same
        have gf3 := S3 _ _ gf2
        have szE : (ys.map V.str).length + (([("|" : Str)] : List Str).map V.str).length ≤ sizeLine := by
          rw [List.length_map, sizeLine_eq]
          show _ + 1 ≤ _
          omega
        have S13 := S12.trans S3
        generalize upd H2 e1 _ = H3 at *
        repeat (first | (with_reducible refine st_tC ?_) | (with_reducible refine st_tOp ?_) | ((with_reducible apply st_n); rfl; rfl; (first | trivial | (show _ ≤ _; omega) | (show _ < _; omega) | (show _ ∨ _; omega) | assumption | exact ⟨by assumption, by omega⟩ | exact ⟨W30.one, by omega⟩ | fail); rfl) | (with_reducible refine st_i0 rfl rfl rfl ?_) | ((with_reducible refine st_i rfl rfl ?_ rfl ?_); first | omega | exact ⟨by decide, by decide, by decide⟩ | exact .inl ⟨by decide, by decide⟩ | exact .inl ⟨by omega, by omega⟩ | exact .inr ⟨by omega, by omega⟩ | fail) | ((fail_if_success refine Exists.intro (α := Nat → Nat → L2.St → Hp → Prop) ?_ ?_); (fail_if_success refine Exists.intro (α := L2.St → Hp → Prop) ?_ ?_); (fail_if_success refine Exists.intro (α := Nat → L2.St → Hp → Prop) ?_ ?_); apply Exists.intro) | ((refine And.intro ?_ ?_); first | with_reducible rfl | with_reducible assumption | rfl | ((with_reducible apply SqL.of); assumption) | ((with_reducible apply SqT.of); assumption) | ((with_reducible apply OwnC.cl); assumption) | (with_reducible exact isI_int _) | exact within_args | (with_reducible exact upd_same) | ((with_reducible apply Mid.o); assumption) | ((with_reducible apply Mid.t); assumption) | exact .inl ⟨rfl, _, SqL.of (by assumption)⟩ | (with_reducible exact ⟨_, SqT.of (by assumption)⟩) | (with_reducible exact ⟨_, SqL.of (by assumption)⟩) | omega | exact Nat.le_of_ble_eq_true rfl | exact nat9 (by omega) | exact ⟨_, rfl⟩ | (show _ ≤ sizeLine; decide) | exact ⟨by decide, by decide, by decide⟩ | exact .inl ⟨by decide, by decide⟩ | exact .inl ⟨by omega, by omega⟩ | exact .inr ⟨by omega, by omega⟩ | assumption | fail) | ((with_reducible refine iteF' ?_ ?_); first | rfl | exact decide_eq_false (by omega) | exact in_no (by omega) (by omega) | exact in_no (by omega) (by assumption) | (simp <;> fail) | fail) | ((with_reducible refine iteT' ?_ ?_); first | rfl | exact decide_eq_true (by omega) | (simp <;> fail) | fail))
        intro c1 hc1
        have S4 := same_new (o := .lst (ys.map V.str ++ ([("|" : Str)]).map V.str)) hc1
        have g4 : (upd H3 c1 (.lst (ys.map V.str ++ ([("|" : Str)]).map V.str))) c1 = some (.lst ((ys ++ [("|" : Str)]).map V.str)) := by
          rw [upd_same, List.map_append]
        have gt4 := S4 _ _ (S3 _ _ gt2)
        have S14 := S13.trans S4
        generalize upd H3 c1 _ = H4 at *
        repeat (first | (with_reducible refine st_tC ?_) | (with_reducible refine st_tOp ?_) | ((with_reducible apply st_n); rfl; rfl; (first | trivial | (show _ ≤ _; omega) | (show _ < _; omega) | (show _ ∨ _; omega) | assumption | exact ⟨by assumption, by omega⟩ | exact ⟨W30.one, by omega⟩ | fail); rfl) | (with_reducible refine st_i0 rfl rfl rfl ?_) | ((with_reducible refine st_i rfl rfl ?_ rfl ?_); first | omega | exact ⟨by decide, by decide, by decide⟩ | exact .inl ⟨by decide, by decide⟩ | exact .inl ⟨by omega, by omega⟩ | exact .inr ⟨by omega, by omega⟩ | fail) | ((fail_if_success refine Exists.intro (α := Nat → Nat → L2.St → Hp → Prop) ?_ ?_); (fail_if_success refine Exists.intro (α := L2.St → Hp → Prop) ?_ ?_); (fail_if_success refine Exists.intro (α := Nat → L2.St → Hp → Prop) ?_ ?_); apply Exists.intro) | ((refine And.intro ?_ ?_); first | with_reducible rfl | with_reducible assumption | rfl | ((with_reducible apply SqL.of); assumption) | ((with_reducible apply SqT.of); assumption) | ((with_reducible apply OwnC.cl); assumption) | (with_reducible exact isI_int _) | exact within_args | (with_reducible exact upd_same) | ((with_reducible apply Mid.o); assumption) | ((with_reducible apply Mid.t); assumption) | exact .inl ⟨rfl, _, SqL.of (by assumption)⟩ | (with_reducible exact ⟨_, SqT.of (by assumption)⟩) | (with_reducible exact ⟨_, SqL.of (by assumption)⟩) | omega | exact Nat.le_of_ble_eq_true rfl | exact nat9 (by omega) | exact ⟨_, rfl⟩ | (show _ ≤ sizeLine; decide) | exact ⟨by decide, by decide, by decide⟩ | exact .inl ⟨by decide, by decide⟩ | exact .inl ⟨by omega, by omega⟩ | exact .inr ⟨by omega, by omega⟩ | assumption | fail) | ((with_reducible refine iteF' ?_ ?_); first | rfl | exact decide_eq_false (by omega) | exact in_no (by omega) (by omega) | exact in_no (by omega) (by assumption) | (simp <;> fail) | fail) | ((with_reducible refine iteT' ?_ ?_); first | rfl | exact decide_eq_true (by omega) | (simp <;> fail) | fail))
        intro D hD
        refine lc_list (xs := natV ph) (fun j H5 => Same H4 H5 ∧ H5 D = some (.lst (((ph.take j).map ds).map V.str))) ⟨same_new hD, upd_same⟩ (fun j H5 _ h => SqL.of (h.1 _ _ gt4)) ?_ ?_
        · rintro j y H5 hy5 ⟨S5, gD⟩
          obtain ⟨n, hn9, rfl⟩ : ∃ n : Nat, ph[j]? = some n ∧ y = V.int (n : Int) := by
            rw [List.getElem?_map] at hy5
            cases e : ph[j]? with
            | none => rw [e] at hy5; cases hy5
            | some n => rw [e] at hy5; exact ⟨n, rfl, (Option.some.inj hy5).symm⟩
          refine ⟨rfl, _, rfl, _, rfl, (ds_room (p20 n (List.mem_of_getElem? hn9))).2, _, gD, ?_, fun o w z => ?_, ?_⟩
          · rw [List.length_map, List.length_map, List.length_take, sizeLine_eq]
            omega
          · rw [upd_ne (ne_of_none z hD)]
            exact S5 _ _ z
          · rw [upd_same, List.take_add_one, hn9, List.map_append, List.map_append]
            rfl
        · rintro H5 ⟨S5, gD⟩
          rw [natV_len, List.take_length] at gD
          have g5 := S5 _ _ g4
          have sz5 : ((ys ++ [("|" : Str)]).map V.str).length + ((ph.map ds).map V.str).length ≤ sizeLine := by
            rw [List.length_map, List.length_map, List.length_map, List.length_append, sizeLine_eq]
            show _ + 1 + _ ≤ _
            omega
          repeat (first | (with_reducible refine st_tC ?_) | (with_reducible refine st_tOp ?_) | ((with_reducible apply st_n); rfl; rfl; (first | trivial | (show _ ≤ _; omega) | (show _ < _; omega) | (show _ ∨ _; omega) | assumption | exact ⟨by assumption, by omega⟩ | exact ⟨W30.one, by omega⟩ | fail); rfl) | (with_reducible refine st_i0 rfl rfl rfl ?_) | ((with_reducible refine st_i rfl rfl ?_ rfl ?_); first | omega | exact ⟨by decide, by decide, by decide⟩ | exact .inl ⟨by decide, by decide⟩ | exact .inl ⟨by omega, by omega⟩ | exact .inr ⟨by omega, by omega⟩ | fail) | ((fail_if_success refine Exists.intro (α := Nat → Nat → L2.St → Hp → Prop) ?_ ?_); (fail_if_success refine Exists.intro (α := L2.St → Hp → Prop) ?_ ?_); (fail_if_success refine Exists.intro (α := Nat → L2.St → Hp → Prop) ?_ ?_); apply Exists.intro) | ((refine And.intro ?_ ?_); first | with_reducible rfl | with_reducible assumption | rfl | ((with_reducible apply SqL.of); assumption) | ((with_reducible apply SqT.of); assumption) | ((with_reducible apply OwnC.cl); assumption) | (with_reducible exact isI_int _) | exact within_args | (with_reducible exact upd_same) | ((with_reducible apply Mid.o); assumption) | ((with_reducible apply Mid.t); assumption) | exact .inl ⟨rfl, _, SqL.of (by assumption)⟩ | (with_reducible exact ⟨_, SqT.of (by assumption)⟩) | (with_reducible exact ⟨_, SqL.of (by assumption)⟩) | omega | exact Nat.le_of_ble_eq_true rfl | exact nat9 (by omega) | exact ⟨_, rfl⟩ | (show _ ≤ sizeLine; decide) | exact ⟨by decide, by decide, by decide⟩ | exact .inl ⟨by decide, by decide⟩ | exact .inl ⟨by omega, by omega⟩ | exact .inr ⟨by omega, by omega⟩ | assumption | fail) | ((with_reducible refine iteF' ?_ ?_); first | rfl | exact decide_eq_false (by omega) | exact in_no (by omega) (by omega) | exact in_no (by omega) (by assumption) | (simp <;> fail) | fail) | ((with_reducible refine iteT' ?_ ?_); first | rfl | exact decide_eq_true (by omega) | (simp <;> fail) | fail))
          intro c2 hc2
          have S6 := same_new (o := .lst ((ys ++ [("|" : Str)]).map V.str ++ (ph.map ds).map V.str)) hc2
          have S16 := (S14.trans S5)
          refine ⟨S16.trans S6, ⟨c2, ys ++ [("|" : Str)] ++ ph.map ds, _, _, by rw [upd_same, ← List.map_append], S16.free hc2, fun y hy => ?_, ei, ?_, rfl⟩⟩
          · rcases List.mem_append.mp hy with h | h
            · rcases List.mem_append.mp h with h | h
              · exact as y h
              · rw [List.mem_singleton.mp h]; exact bar_asc
            · obtain ⟨n, _, rfl⟩ := List.mem_map.mp h
              exact MN.asc_ds n
          · rw [List.length_append, List.length_append, List.length_map]
            show _ + 1 + _ ≤ _
            omega
        
    · rintro σ H' ⟨S1, ⟨f, ys, u2, u3, gf, hf, as, ei, ly, rfl⟩⟩
      repeat (first | (with_reducible refine st_tC ?_) | (with_reducible refine st_tOp ?_) | ((with_reducible apply st_n); rfl; rfl; (first | trivial | (show _ ≤ _; omega) | (show _ < _; omega) | (show _ ∨ _; omega) | assumption | exact ⟨by assumption, by omega⟩ | exact ⟨W30.one, by omega⟩ | fail); rfl) | (with_reducible refine st_i0 rfl rfl rfl ?_) | ((with_reducible refine st_i rfl rfl ?_ rfl ?_); first | omega | exact ⟨by decide, by decide, by decide⟩ | exact .inl ⟨by decide, by decide⟩ | exact .inl ⟨by omega, by omega⟩ | exact .inr ⟨by omega, by omega⟩ | fail) | ((fail_if_success refine Exists.intro (α := Nat → Nat → L2.St → Hp → Prop) ?_ ?_); (fail_if_success refine Exists.intro (α := L2.St → Hp → Prop) ?_ ?_); (fail_if_success refine Exists.intro (α := Nat → L2.St → Hp → Prop) ?_ ?_); apply Exists.intro) | ((refine And.intro ?_ ?_); first | with_reducible rfl | with_reducible assumption | rfl | ((with_reducible apply SqL.of); assumption) | ((with_reducible apply SqT.of); assumption) | ((with_reducible apply OwnC.cl); assumption) | (with_reducible exact isI_int _) | exact within_args | (with_reducible exact upd_same) | ((with_reducible apply Mid.o); assumption) | ((with_reducible apply Mid.t); assumption) | exact .inl ⟨rfl, _, SqL.of (by assumption)⟩ | (with_reducible exact ⟨_, SqT.of (by assumption)⟩) | (with_reducible exact ⟨_, SqL.of (by assumption)⟩) | omega | exact Nat.le_of_ble_eq_true rfl | exact nat9 (by omega) | exact ⟨_, rfl⟩ | (show _ ≤ sizeLine; decide) | exact ⟨by decide, by decide, by decide⟩ | exact .inl ⟨by decide, by decide⟩ | exact .inl ⟨by omega, by omega⟩ | exact .inr ⟨by omega, by omega⟩ | assumption | fail) | ((with_reducible refine iteF' ?_ ?_); first | rfl | exact decide_eq_false (by omega) | exact in_no (by omega) (by omega) | exact in_no (by omega) (by assumption) | (simp <;> fail) | fail) | ((with_reducible refine iteT' ?_ ?_); first | rfl | exact decide_eq_true (by omega) | (simp <;> fail) | fail))
      intro e0 he0
      have S2 := same_new (o := .lst []) he0
      have g0 : (upd H' e0 (.lst [])) e0 = some (.lst []) := upd_same
      have gf2 := S2 _ _ gf
      have S12 := S1.trans S2
      generalize upd H' e0 _ = H2 at *
      rw [pl, List.drop_length, itm] at ei
      refine ⟨.list (ys.map PyData.str), .list [], .lst (SqL.of gf2) (dp_strs _), .lst (SqL.of g0) .nil, shp_strs as, shaped_ints [], _, rfl, ?_⟩
      rw [eqv_strs0]
      by_cases hy0 : ys = []
      · refine iteF' (by rw [decide_eq_true hy0]; rfl) ?_
        repeat (first | (with_reducible refine st_tC ?_) | (with_reducible refine st_tOp ?_) | ((with_reducible apply st_n); rfl; rfl; (first | trivial | (show _ ≤ _; omega) | (show _ < _; omega) | (show _ ∨ _; omega) | assumption | exact ⟨by assumption, by omega⟩ | exact ⟨W30.one, by omega⟩ | fail); rfl) | (with_reducible refine st_i0 rfl rfl rfl ?_) | ((with_reducible refine st_i rfl rfl ?_ rfl ?_); first | omega | exact ⟨by decide, by decide, by decide⟩ | exact .inl ⟨by decide, by decide⟩ | exact .inl ⟨by omega, by omega⟩ | exact .inr ⟨by omega, by omega⟩ | fail) | ((fail_if_success refine Exists.intro (α := Nat → Nat → L2.St → Hp → Prop) ?_ ?_); (fail_if_success refine Exists.intro (α := L2.St → Hp → Prop) ?_ ?_); (fail_if_success refine Exists.intro (α := Nat → L2.St → Hp → Prop) ?_ ?_); apply Exists.intro) | ((refine And.intro ?_ ?_); first | with_reducible rfl | with_reducible assumption | rfl | ((with_reducible apply SqL.of); assumption) | ((with_reducible apply SqT.of); assumption) | ((with_reducible apply OwnC.cl); assumption) | (with_reducible exact isI_int _) | exact within_args | (with_reducible exact upd_same) | ((with_reducible apply Mid.o); assumption) | ((with_reducible apply Mid.t); assumption) | exact .inl ⟨rfl, _, SqL.of (by assumption)⟩ | (with_reducible exact ⟨_, SqT.of (by assumption)⟩) | (with_reducible exact ⟨_, SqL.of (by assumption)⟩) | omega | exact Nat.le_of_ble_eq_true rfl | exact nat9 (by omega) | exact ⟨_, rfl⟩ | (show _ ≤ sizeLine; decide) | exact ⟨by decide, by decide, by decide⟩ | exact .inl ⟨by decide, by decide⟩ | exact .inl ⟨by omega, by omega⟩ | exact .inr ⟨by omega, by omega⟩ | assumption | fail) | ((with_reducible refine iteF' ?_ ?_); first | rfl | exact decide_eq_false (by omega) | exact in_no (by omega) (by omega) | exact in_no (by omega) (by assumption) | (simp <;> fail) | fail) | ((with_reducible refine iteT' ?_ ?_); first | rfl | exact decide_eq_true (by omega) | (simp <;> fail) | fail))
        intro e1 he1
        have S3 := same_new (o := .lst [V.str "-"]) he1
        refine k e1 _ (S12.free he1) (S12.trans S3) ?_
        rw [upd_same]
        unfold itemsF
        rw [← ei, if_pos hy0]
        rfl
      · refine iteT' (by rw [decide_eq_false hy0]; rfl) ?_
        repeat (first | (with_reducible refine st_tC ?_) | (with_reducible refine st_tOp ?_) | ((with_reducible apply st_n); rfl; rfl; (first | trivial | (show _ ≤ _; omega) | (show _ < _; omega) | (show _ ∨ _; omega) | assumption | exact ⟨by assumption, by omega⟩ | exact ⟨W30.one, by omega⟩ | fail); rfl) | (with_reducible refine st_i0 rfl rfl rfl ?_) | ((with_reducible refine st_i rfl rfl ?_ rfl ?_); first | omega | exact ⟨by decide, by decide, by decide⟩ | exact .inl ⟨by decide, by decide⟩ | exact .inl ⟨by omega, by omega⟩ | exact .inr ⟨by omega, by omega⟩ | fail) | ((fail_if_success refine Exists.intro (α := Nat → Nat → L2.St → Hp → Prop) ?_ ?_); (fail_if_success refine Exists.intro (α := L2.St → Hp → Prop) ?_ ?_); (fail_if_success refine Exists.intro (α := Nat → L2.St → Hp → Prop) ?_ ?_); apply Exists.intro) | ((refine And.intro ?_ ?_); first | with_reducible rfl | with_reducible assumption | rfl | ((with_reducible apply SqL.of); assumption) | ((with_reducible apply SqT.of); assumption) | ((with_reducible apply OwnC.cl); assumption) | (with_reducible exact isI_int _) | exact within_args | (with_reducible exact upd_same) | ((with_reducible apply Mid.o); assumption) | ((with_reducible apply Mid.t); assumption) | exact .inl ⟨rfl, _, SqL.of (by assumption)⟩ | (with_reducible exact ⟨_, SqT.of (by assumption)⟩) | (with_reducible exact ⟨_, SqL.of (by assumption)⟩) | omega | exact Nat.le_of_ble_eq_true rfl | exact nat9 (by omega) | exact ⟨_, rfl⟩ | (show _ ≤ sizeLine; decide) | exact ⟨by decide, by decide, by decide⟩ | exact .inl ⟨by decide, by decide⟩ | exact .inl ⟨by omega, by omega⟩ | exact .inr ⟨by omega, by omega⟩ | assumption | fail) | ((with_reducible refine iteF' ?_ ?_); first | rfl | exact decide_eq_false (by omega) | exact in_no (by omega) (by omega) | exact in_no (by omega) (by assumption) | (simp <;> fail) | fail) | ((with_reducible refine iteT' ?_ ?_); first | rfl | exact decide_eq_true (by omega) | (simp <;> fail) | fail))
        refine k f H2 hf S12 ?_
        unfold itemsF
        rw [← ei, if_neg hy0]
        exact gf2
end
end K46
namespace K46
open PySem PySem.Spec PyProof.Rows L2 OB SkE LamX
/-- the signs that are no digits -/
def odds (l : List Nat) : List Nat := l.filter fun c => !MT.dig c
def signs (l : List Nat) : List V := l.map fun c => V.str ⟨#[c]⟩
def signD (l : List Nat) : PyData := .list (l.map fun c => PyData.str ⟨#[c]⟩)
theorem dp_signs {K : PySem.W.Frag} {H : Hp} : ∀ l : List Nat, DpAll K H (signs l) (l.map fun c => PyData.str ⟨#[c]⟩)
  | [] => .nil
  | c :: r => .cons (.str _) (dp_signs r)
theorem sign_flat : ∀ l : List Nat, (∀ c ∈ l, c < 256) → PyData.canLayAll0 (l.map fun c => PyData.str ⟨#[c]⟩) = true ∧ PyData.depthAll (l.map fun c => PyData.str ⟨#[c]⟩) ≤ 1
  | [], _ => by simp [PyData.canLayAll0, PyData.depthAll]
  | c :: r, h => by
    obtain ⟨h1, h2⟩ := sign_flat r fun x hx => h x (List.mem_cons_of_mem _ hx)
    have hc := h c List.mem_cons_self
    have ok : PyData.strOk ⟨#[c]⟩ = true := by
      unfold PyData.strOk
      simp
      omega
    refine ⟨by simp [PyData.canLayAll0, PyData.canLay0, h1, ok], ?_⟩
    simp only [List.map_cons, PyData.depthAll, PyData.depth]
    omega
theorem sign_shaped {l : List Nat} (h : ∀ c ∈ l, c < 256) : SeqAt.shaped (signD l) = true := by
  obtain ⟨h1, h2⟩ := sign_flat l h
  unfold SeqAt.shaped
  rw [Bool.and_eq_true]
  refine ⟨by simp [signD, PyData.canLay0, h1], decide_eq_true ?_⟩
  simp only [signD, PyData.depth]
  omega
theorem sign_nil (l : List Nat) : PyData.eqv (signD l) (.list []) = decide (l = []) := by
  cases l with
  | nil => simp [signD, PyData.eqv, PyData.eqvAll]
  | cons n r => simp [signD, PyData.eqv, PyData.eqvAll]
theorem odds_nil {l : List Nat} (h : odds l = []) (ne : l ≠ []) : MT.digs l = true := by
  unfold MT.digs
  rw [Bool.and_eq_true]
  constructor
  · cases l with
    | nil => exact absurd rfl ne
    | cons a r => rfl
  · rw [List.all_eq_true]
    intro c hc
    cases e : MT.dig c with
    | true => rfl
    | false =>
      have : c ∈ odds l := List.mem_filter.mpr ⟨hc, by rw [e]; rfl⟩
      rw [h] at this
      exact absurd this List.not_mem_nil
theorem odds_ne {l : List Nat} (h : odds l ≠ []) : MT.digs l = false := by
  cases e : MT.digs l with
  | false => rfl
  | true =>
    refine absurd (List.filter_eq_nil_iff.mpr fun c hc => ?_) h
    unfold MT.digs at e
    rw [Bool.and_eq_true] at e
    rw [List.all_eq_true.mp e.2 c hc]
    decide
theorem sign_in (c : Nat) : decide (c ∈ ("0123456789" : Str).cps.toList) = MT.dig c := by
  rw [← MT.in_digits, StrLaws.found_one]
theorem short_num {z : Str} {n : Nat} (h : MN.num z = some n) (h2 : n ≤ 20000) : z.length ≤ 5 := by
  rw [MN.num_text h]
  exact ds_len5 h2
/-- the law's own reading of a bit's text -/
def spIsBit : Sp := fun vs H Q _ => ∃ z : Str, vs = [.str z] ∧ z.length ≤ 100000 ∧ MN.asc z ∧ ∀ H', Same H H' → Q (.bl (MN.inR z 0 20000)) H'
section
variable {P : Program} {w : World} {K : PySem.W.Frag} {mg : Str → Option Value} {base : Heap}
theorem sc__law_is_bit : FnScope ["item", "sign"] ["item"] (defScope s__law_is_bit) := ⟨rfl, rfl, rfl, by decide +kernel, rfl, by decide +kernel, by decide +kernel⟩
abbrev N__law_is_bit : List Str := ["item", "sign"]
theorem ok__law_is_bit {f : Addr} {fd : FuncData} (F : Fun K "_law_is_bit" "_law_is_bit" s__law_is_bit f fd) (T : Blt mg) : FnOk P w K mg base CX0 1 f fd ["item"] spIsBit := by
  refine F.ok sc__law_is_bit (fun vs H Q E h => ?_) (fun cdv A outer s H vs Q E hr h => ?_)
  · obtain ⟨z, rfl, _⟩ := h
    rfl
  · obtain ⟨z, rfl, hz, hA, k⟩ := h
    refine ⟨_, (pss_cons (ps_if (PW.pt (pw_or (pt_cmpR op_eq (pv 0) pe_str (nomark _)) (pw_or (pt_cmpR (op_neD hr.units) (pe_lc (own := [("sign", 1)]) (g := (gName 1)) rfl sc__law_is_bit.nd (pi_str (pv 0)) (blkOk_by (N := N__law_is_bit) (own := [("sign", 1)]) (sc := defScope s__law_is_bit) (by decide +kernel)) (fun _ _ _ _ _ => (pg_name (i := 1) sc__law_is_bit.nd rfl (Or.inl rfl))) (fun _ _ _ _ _ => (pts_one (pt_cmpR op_notIn_sign (pv 1) pe_str (by rfl)))) (fun _ _ _ _ _ => (pv 1))) (pe_lst pa_nil) (nomark _)) (pw_or1 (pt_cmpR op_gt (pe_callB call_len_str (by rfl) T.n_len (by decide +kernel) (pa_cons (pv 0) pa_nil)) pe_int (nomark _)))))) (pss_one (ps_ret pe_bl)) pss_nil)
  (pss_one (ps_ret (pe_and (pe_or (pe_cmpR op_eq (pv 0) pe_str (nomark _)) (pe_one (pe_cmpR op_ne (pe_ix ix_str (pv 0) pe_int (fun _ _ => rfl)) pe_str (nomark _)))) (pe_one (pe_cmpR op_le (pe_callTy call_int_str (by rfl) T.n_int (by decide +kernel) (pa_cons (pv 0) pa_nil)) pe_int (nomark _))))))), ?_⟩
    have no : MN.num z = none → ∀ H', Same H H' → Q (.bl false) H' := fun e H' S => by
      have := k H' S
      rw [show MN.inR z 0 20000 = false by unfold MN.inR; rw [e]] at this
      exact this
    have hz1 : z.length ≤ sizeLine := by rw [sizeLine_eq]; omega
    by_cases e0 : z = ""
    · have nn : MN.num z = none := by rw [e0]; decide +kernel
      exact ⟨_, rfl, rfl, _, rfl, iteT' (decide_eq_true (by rw [e0])) (iteT (no nn _ (.refl _)))⟩
    refine ⟨_, rfl, rfl, _, rfl, iteF' (decide_eq_false fun h => e0 (V.str.inj h)) ?_⟩
    have ne : MT.cs z ≠ [] := fun h => e0 (MT.str_ext (by rw [h]; decide +kernel))
    refine ⟨_, rfl, z, rfl, fun D hD => ?_⟩
    have zs : (MT.cs z).length = z.length := MT.len_cs z
    refine lc_it (walk_str (z := z)) (fun i H' => Same H H' ∧ H' D = some (.lst (signs (odds ((MT.cs z).take i))))) ⟨same_new hD, upd_same⟩ (fun _ _ _ _ => trivial) ?_ ?_
    · rintro i x H0 H1 hi ⟨S1, h1⟩ ⟨rfl, c', hc', rfl⟩
      have hci : (MT.cs z)[i]? = some c' := by
        rw [← hc']
        exact Array.getElem?_toList ..
      have tk : (MT.cs z).take (i + 1) = (MT.cs z).take i ++ [c'] := by rw [List.take_add_one, hci]; rfl
      refine ⟨rfl, ?_⟩
      refine ⟨_, rfl, c', _, rfl, rfl, _, rfl, ?_⟩
      rw [sign_in]
      cases e : MT.dig c' with
      | true =>
        refine iteF ⟨S1, ?_⟩
        rw [h1, tk]
        unfold odds
        rw [List.filter_append]
        simp [e]
      | false =>
        refine iteT ⟨_, rfl, _, h1, ?_, fun a o ea => ?_, ?_⟩
        · have := List.length_filter_le (fun c => !MT.dig c) ((MT.cs z).take i)
          unfold signs odds
          rw [List.length_map, sizeLine_eq]
          rw [List.length_take] at this
          omega
        · rw [upd_ne (ne_of_none ea hD)]
          exact S1 a o ea
        · rw [upd_same, tk]
          unfold odds
          rw [List.filter_append]
          simp [e, signs]
    · rintro H1 ⟨S1, h1⟩
      rw [show z.cps.size = (MT.cs z).length by rw [zs]; rfl, List.take_length] at h1
      refine ⟨Nat.zero_le _, fun l hl => ?_⟩
      have S2 := same_new (o := .lst []) hl
      have ob : ∀ c ∈ odds (MT.cs z), c < 256 := fun c hc => hA c (List.mem_filter.mp hc).1
      refine ⟨signD (odds (MT.cs z)), .list [], Dp.lst (SqL.of (S2 _ _ h1)) (dp_signs _), Dp.lst (SqL.of upd_same) .nil, sign_shaped ob, by decide +kernel, _, rfl, ?_⟩
      rw [sign_nil]
      by_cases od : odds (MT.cs z) = []
      · rw [decide_eq_true od]
        refine iteF' rfl ?_
        have dg := odds_nil od ne
        have S3 := S1.trans S2
        refine ⟨_, rfl, _, rfl, hz1, _, _, rfl, rfl, _, rfl, ?_⟩
        refine ite2 (fun c => ?_) (fun c => ?_)
        · rw [decide_eq_true_iff] at c
          have := k _ S3
          rw [show MN.inR z 0 20000 = false by
            unfold MN.inR
            cases e : MN.num z with
            | none => rfl
            | some n =>
              by_cases h2 : n ≤ 20000
              · have := short_num e h2
                omega
              · show (decide ((0 : Int) ≤ (n : Int)) && decide ((n : Int) ≤ 20000)) = false
                rw [decide_eq_false (show ¬ (n : Int) ≤ 20000 by omega), Bool.and_false]] at this
          exact this
        rw [decide_eq_true_iff] at c
        cases ez : MT.cs z with
        | nil => exact absurd ez ne
        | cons a r =>
        have at0 : atI z.cps.toList 0 = some a := by
          show atI (MT.cs z) 0 = some a
          rw [ez]
          exact atI_nat (j := 0) rfl
        have fin : (a = 48 → z = "0") → Q (.bl (MN.inR z 0 20000)) (upd H1 l (.lst [])) ∧ ∃ n : Nat, MN.num z = some n ∧ intText? z = some (n : Int) := fun h3 => by
          have h3' : (MT.cs z).head? = some 48 → z = "0" := fun y => by
            rw [ez] at y
            exact h3 (Option.some.inj y)
          exact ⟨k _ S3, _, if_pos ⟨dg, by omega, h3'⟩, MT.int_pos z dg (by omega)⟩
        have last : ∀ n : Nat, MN.num z = some n → Q (.bl (MN.inR z 0 20000)) (upd H1 l (.lst [])) → Q (.bl (decide ((n : Int) ≤ 20000))) (upd H1 l (.lst [])) := fun n e q => by
          unfold MN.inR at q
          rw [e] at q
          have q : Q (.bl (decide ((0 : Int) ≤ (n : Int)) && decide ((n : Int) ≤ 20000))) (upd H1 l (.lst [])) := q
          rw [decide_eq_true (show (0 : Int) ≤ (n : Int) by omega), Bool.true_and] at q
          exact q
        have z640 : z.length ≤ 640 := by omega
        by_cases e1 : z = "0"
        · obtain ⟨q, n, e2, e3⟩ := fin fun _ => e1
          have q := last n e2 q
          repeat (first | (with_reducible refine st_tC ?_) | (with_reducible refine st_tOp ?_) | ((with_reducible apply st_n); rfl; rfl; (first | trivial | (show _ ≤ _; omega) | (show _ < _; omega) | (show _ ∨ _; omega) | assumption | exact ⟨by assumption, by omega⟩ | exact ⟨W30.one, by omega⟩ | fail); rfl) | (with_reducible refine st_i0 rfl rfl rfl ?_) | ((with_reducible refine st_i rfl rfl ?_ rfl ?_); first | omega | exact ⟨by decide, by decide, by decide⟩ | exact .inl ⟨by decide, by decide⟩ | exact .inl ⟨by omega, by omega⟩ | exact .inr ⟨by omega, by omega⟩ | fail) | ((fail_if_success refine Exists.intro (α := Nat → Nat → L2.St → Hp → Prop) ?_ ?_); (fail_if_success refine Exists.intro (α := L2.St → Hp → Prop) ?_ ?_); (fail_if_success refine Exists.intro (α := Nat → L2.St → Hp → Prop) ?_ ?_); apply Exists.intro) | ((refine And.intro ?_ ?_); first | with_reducible rfl | with_reducible assumption | rfl | ((with_reducible apply SqL.of); assumption) | ((with_reducible apply SqT.of); assumption) | ((with_reducible apply OwnC.cl); assumption) | (with_reducible exact isI_int _) | exact within_args | (with_reducible exact upd_same) | ((with_reducible apply Mid.o); assumption) | ((with_reducible apply Mid.t); assumption) | exact .inl ⟨rfl, _, SqL.of (by assumption)⟩ | (with_reducible exact ⟨_, SqT.of (by assumption)⟩) | (with_reducible exact ⟨_, SqL.of (by assumption)⟩) | omega | exact Nat.le_of_ble_eq_true rfl | exact nat9 (by omega) | exact ⟨_, rfl⟩ | (show _ ≤ sizeLine; decide) | exact ⟨by decide, by decide, by decide⟩ | exact .inl ⟨by decide, by decide⟩ | exact .inl ⟨by omega, by omega⟩ | exact .inr ⟨by omega, by omega⟩ | assumption | fail) | ((with_reducible refine iteF' ?_ ?_); first | rfl | exact decide_eq_false (by omega) | exact in_no (by omega) (by omega) | exact in_no (by omega) (by assumption) | (simp <;> fail) | fail) | ((with_reducible refine iteT' ?_ ?_); first | rfl | exact decide_eq_true (by omega) | (simp <;> fail) | fail))
          refine iteT' (decide_eq_true (by rw [e1])) ?_
          repeat (first | (with_reducible refine st_tC ?_) | (with_reducible refine st_tOp ?_) | ((with_reducible apply st_n); rfl; rfl; (first | trivial | (show _ ≤ _; omega) | (show _ < _; omega) | (show _ ∨ _; omega) | assumption | exact ⟨by assumption, by omega⟩ | exact ⟨W30.one, by omega⟩ | fail); rfl) | (with_reducible refine st_i0 rfl rfl rfl ?_) | ((with_reducible refine st_i rfl rfl ?_ rfl ?_); first | omega | exact ⟨by decide, by decide, by decide⟩ | exact .inl ⟨by decide, by decide⟩ | exact .inl ⟨by omega, by omega⟩ | exact .inr ⟨by omega, by omega⟩ | fail) | ((fail_if_success refine Exists.intro (α := Nat → Nat → L2.St → Hp → Prop) ?_ ?_); (fail_if_success refine Exists.intro (α := L2.St → Hp → Prop) ?_ ?_); (fail_if_success refine Exists.intro (α := Nat → L2.St → Hp → Prop) ?_ ?_); apply Exists.intro) | ((refine And.intro ?_ ?_); first | with_reducible rfl | with_reducible assumption | rfl | ((with_reducible apply SqL.of); assumption) | ((with_reducible apply SqT.of); assumption) | ((with_reducible apply OwnC.cl); assumption) | (with_reducible exact isI_int _) | exact within_args | (with_reducible exact upd_same) | ((with_reducible apply Mid.o); assumption) | ((with_reducible apply Mid.t); assumption) | exact .inl ⟨rfl, _, SqL.of (by assumption)⟩ | (with_reducible exact ⟨_, SqT.of (by assumption)⟩) | (with_reducible exact ⟨_, SqL.of (by assumption)⟩) | omega | exact Nat.le_of_ble_eq_true rfl | exact nat9 (by omega) | exact ⟨_, rfl⟩ | (show _ ≤ sizeLine; decide) | exact ⟨by decide, by decide, by decide⟩ | exact .inl ⟨by decide, by decide⟩ | exact .inl ⟨by omega, by omega⟩ | exact .inr ⟨by omega, by omega⟩ | assumption | fail) | ((with_reducible refine iteF' ?_ ?_); first | rfl | exact decide_eq_false (by omega) | exact in_no (by omega) (by omega) | exact in_no (by omega) (by assumption) | (simp <;> fail) | fail) | ((with_reducible refine iteT' ?_ ?_); first | rfl | exact decide_eq_true (by omega) | (simp <;> fail) | fail))
          exact q
        · have f1 : decide (V.str z = V.str "0") = false := decide_eq_false fun h => e1 (V.str.inj h)
          by_cases ea : a = 48
          · have q := no (if_neg fun e => e1 (e.2.2 (by rw [ez, ea]; rfl))) _ S3
            repeat (first | (with_reducible refine st_tC ?_) | (with_reducible refine st_tOp ?_) | ((with_reducible apply st_n); rfl; rfl; (first | trivial | (show _ ≤ _; omega) | (show _ < _; omega) | (show _ ∨ _; omega) | assumption | exact ⟨by assumption, by omega⟩ | exact ⟨W30.one, by omega⟩ | fail); rfl) | (with_reducible refine st_i0 rfl rfl rfl ?_) | ((with_reducible refine st_i rfl rfl ?_ rfl ?_); first | omega | exact ⟨by decide, by decide, by decide⟩ | exact .inl ⟨by decide, by decide⟩ | exact .inl ⟨by omega, by omega⟩ | exact .inr ⟨by omega, by omega⟩ | fail) | ((fail_if_success refine Exists.intro (α := Nat → Nat → L2.St → Hp → Prop) ?_ ?_); (fail_if_success refine Exists.intro (α := L2.St → Hp → Prop) ?_ ?_); (fail_if_success refine Exists.intro (α := Nat → L2.St → Hp → Prop) ?_ ?_); apply Exists.intro) | ((refine And.intro ?_ ?_); first | with_reducible rfl | with_reducible assumption | rfl | ((with_reducible apply SqL.of); assumption) | ((with_reducible apply SqT.of); assumption) | ((with_reducible apply OwnC.cl); assumption) | (with_reducible exact isI_int _) | exact within_args | (with_reducible exact upd_same) | ((with_reducible apply Mid.o); assumption) | ((with_reducible apply Mid.t); assumption) | exact .inl ⟨rfl, _, SqL.of (by assumption)⟩ | (with_reducible exact ⟨_, SqT.of (by assumption)⟩) | (with_reducible exact ⟨_, SqL.of (by assumption)⟩) | omega | exact Nat.le_of_ble_eq_true rfl | exact nat9 (by omega) | exact ⟨_, rfl⟩ | (show _ ≤ sizeLine; decide) | exact ⟨by decide, by decide, by decide⟩ | exact .inl ⟨by decide, by decide⟩ | exact .inl ⟨by omega, by omega⟩ | exact .inr ⟨by omega, by omega⟩ | assumption | fail) | ((with_reducible refine iteF' ?_ ?_); first | rfl | exact decide_eq_false (by omega) | exact in_no (by omega) (by omega) | exact in_no (by omega) (by assumption) | (simp <;> fail) | fail) | ((with_reducible refine iteT' ?_ ?_); first | rfl | exact decide_eq_true (by omega) | (simp <;> fail) | fail))
            refine iteF' f1 ?_
            repeat (first | (with_reducible refine st_tC ?_) | (with_reducible refine st_tOp ?_) | ((with_reducible apply st_n); rfl; rfl; (first | trivial | (show _ ≤ _; omega) | (show _ < _; omega) | (show _ ∨ _; omega) | assumption | exact ⟨by assumption, by omega⟩ | exact ⟨W30.one, by omega⟩ | fail); rfl) | (with_reducible refine st_i0 rfl rfl rfl ?_) | ((with_reducible refine st_i rfl rfl ?_ rfl ?_); first | omega | exact ⟨by decide, by decide, by decide⟩ | exact .inl ⟨by decide, by decide⟩ | exact .inl ⟨by omega, by omega⟩ | exact .inr ⟨by omega, by omega⟩ | fail) | ((fail_if_success refine Exists.intro (α := Nat → Nat → L2.St → Hp → Prop) ?_ ?_); (fail_if_success refine Exists.intro (α := L2.St → Hp → Prop) ?_ ?_); (fail_if_success refine Exists.intro (α := Nat → L2.St → Hp → Prop) ?_ ?_); apply Exists.intro) | ((refine And.intro ?_ ?_); first | with_reducible rfl | with_reducible assumption | rfl | ((with_reducible apply SqL.of); assumption) | ((with_reducible apply SqT.of); assumption) | ((with_reducible apply OwnC.cl); assumption) | (with_reducible exact isI_int _) | exact within_args | (with_reducible exact upd_same) | ((with_reducible apply Mid.o); assumption) | ((with_reducible apply Mid.t); assumption) | exact .inl ⟨rfl, _, SqL.of (by assumption)⟩ | (with_reducible exact ⟨_, SqT.of (by assumption)⟩) | (with_reducible exact ⟨_, SqL.of (by assumption)⟩) | omega | exact Nat.le_of_ble_eq_true rfl | exact nat9 (by omega) | exact ⟨_, rfl⟩ | (show _ ≤ sizeLine; decide) | exact ⟨by decide, by decide, by decide⟩ | exact .inl ⟨by decide, by decide⟩ | exact .inl ⟨by omega, by omega⟩ | exact .inr ⟨by omega, by omega⟩ | assumption | fail) | ((with_reducible refine iteF' ?_ ?_); first | rfl | exact decide_eq_false (by omega) | exact in_no (by omega) (by omega) | exact in_no (by omega) (by assumption) | (simp <;> fail) | fail) | ((with_reducible refine iteT' ?_ ?_); first | rfl | exact decide_eq_true (by omega) | (simp <;> fail) | fail))
            exact iteF' (by rw [ea]; decide +kernel) q
          · obtain ⟨q, n, e2, e3⟩ := fin fun w => absurd w ea
            have q := last n e2 q
            repeat (first | (with_reducible refine st_tC ?_) | (with_reducible refine st_tOp ?_) | ((with_reducible apply st_n); rfl; rfl; (first | trivial | (show _ ≤ _; omega) | (show _ < _; omega) | (show _ ∨ _; omega) | assumption | exact ⟨by assumption, by omega⟩ | exact ⟨W30.one, by omega⟩ | fail); rfl) | (with_reducible refine st_i0 rfl rfl rfl ?_) | ((with_reducible refine st_i rfl rfl ?_ rfl ?_); first | omega | exact ⟨by decide, by decide, by decide⟩ | exact .inl ⟨by decide, by decide⟩ | exact .inl ⟨by omega, by omega⟩ | exact .inr ⟨by omega, by omega⟩ | fail) | ((fail_if_success refine Exists.intro (α := Nat → Nat → L2.St → Hp → Prop) ?_ ?_); (fail_if_success refine Exists.intro (α := L2.St → Hp → Prop) ?_ ?_); (fail_if_success refine Exists.intro (α := Nat → L2.St → Hp → Prop) ?_ ?_); apply Exists.intro) | ((refine And.intro ?_ ?_); first | with_reducible rfl | with_reducible assumption | rfl | ((with_reducible apply SqL.of); assumption) | ((with_reducible apply SqT.of); assumption) | ((with_reducible apply OwnC.cl); assumption) | (with_reducible exact isI_int _) | exact within_args | (with_reducible exact upd_same) | ((with_reducible apply Mid.o); assumption) | ((with_reducible apply Mid.t); assumption) | exact .inl ⟨rfl, _, SqL.of (by assumption)⟩ | (with_reducible exact ⟨_, SqT.of (by assumption)⟩) | (with_reducible exact ⟨_, SqL.of (by assumption)⟩) | omega | exact Nat.le_of_ble_eq_true rfl | exact nat9 (by omega) | exact ⟨_, rfl⟩ | (show _ ≤ sizeLine; decide) | exact ⟨by decide, by decide, by decide⟩ | exact .inl ⟨by decide, by decide⟩ | exact .inl ⟨by omega, by omega⟩ | exact .inr ⟨by omega, by omega⟩ | assumption | fail) | ((with_reducible refine iteF' ?_ ?_); first | rfl | exact decide_eq_false (by omega) | exact in_no (by omega) (by omega) | exact in_no (by omega) (by assumption) | (simp <;> fail) | fail) | ((with_reducible refine iteT' ?_ ?_); first | rfl | exact decide_eq_true (by omega) | (simp <;> fail) | fail))
            refine iteF' f1 ?_
            repeat (first | (with_reducible refine st_tC ?_) | (with_reducible refine st_tOp ?_) | ((with_reducible apply st_n); rfl; rfl; (first | trivial | (show _ ≤ _; omega) | (show _ < _; omega) | (show _ ∨ _; omega) | assumption | exact ⟨by assumption, by omega⟩ | exact ⟨W30.one, by omega⟩ | fail); rfl) | (with_reducible refine st_i0 rfl rfl rfl ?_) | ((with_reducible refine st_i rfl rfl ?_ rfl ?_); first | omega | exact ⟨by decide, by decide, by decide⟩ | exact .inl ⟨by decide, by decide⟩ | exact .inl ⟨by omega, by omega⟩ | exact .inr ⟨by omega, by omega⟩ | fail) | ((fail_if_success refine Exists.intro (α := Nat → Nat → L2.St → Hp → Prop) ?_ ?_); (fail_if_success refine Exists.intro (α := L2.St → Hp → Prop) ?_ ?_); (fail_if_success refine Exists.intro (α := Nat → L2.St → Hp → Prop) ?_ ?_); apply Exists.intro) | ((refine And.intro ?_ ?_); first | with_reducible rfl | with_reducible assumption | rfl | ((with_reducible apply SqL.of); assumption) | ((with_reducible apply SqT.of); assumption) | ((with_reducible apply OwnC.cl); assumption) | (with_reducible exact isI_int _) | exact within_args | (with_reducible exact upd_same) | ((with_reducible apply Mid.o); assumption) | ((with_reducible apply Mid.t); assumption) | exact .inl ⟨rfl, _, SqL.of (by assumption)⟩ | (with_reducible exact ⟨_, SqT.of (by assumption)⟩) | (with_reducible exact ⟨_, SqL.of (by assumption)⟩) | omega | exact Nat.le_of_ble_eq_true rfl | exact nat9 (by omega) | exact ⟨_, rfl⟩ | (show _ ≤ sizeLine; decide) | exact ⟨by decide, by decide, by decide⟩ | exact .inl ⟨by decide, by decide⟩ | exact .inl ⟨by omega, by omega⟩ | exact .inr ⟨by omega, by omega⟩ | assumption | fail) | ((with_reducible refine iteF' ?_ ?_); first | rfl | exact decide_eq_false (by omega) | exact in_no (by omega) (by omega) | exact in_no (by omega) (by assumption) | (simp <;> fail) | fail) | ((with_reducible refine iteT' ?_ ?_); first | rfl | exact decide_eq_true (by omega) | (simp <;> fail) | fail))
            refine iteT' ?_ ?_
            · rw [decide_eq_false fun h => ea (by
                have h := congrArg (fun s : Str => s.cps.toList) (V.str.inj h)
                have h : [a] = [48] := h.trans (by decide +kernel)
                exact (List.cons.inj h).1)]
              rfl
            repeat (first | (with_reducible refine st_tC ?_) | (with_reducible refine st_tOp ?_) | ((with_reducible apply st_n); rfl; rfl; (first | trivial | (show _ ≤ _; omega) | (show _ < _; omega) | (show _ ∨ _; omega) | assumption | exact ⟨by assumption, by omega⟩ | exact ⟨W30.one, by omega⟩ | fail); rfl) | (with_reducible refine st_i0 rfl rfl rfl ?_) | ((with_reducible refine st_i rfl rfl ?_ rfl ?_); first | omega | exact ⟨by decide, by decide, by decide⟩ | exact .inl ⟨by decide, by decide⟩ | exact .inl ⟨by omega, by omega⟩ | exact .inr ⟨by omega, by omega⟩ | fail) | ((fail_if_success refine Exists.intro (α := Nat → Nat → L2.St → Hp → Prop) ?_ ?_); (fail_if_success refine Exists.intro (α := L2.St → Hp → Prop) ?_ ?_); (fail_if_success refine Exists.intro (α := Nat → L2.St → Hp → Prop) ?_ ?_); apply Exists.intro) | ((refine And.intro ?_ ?_); first | with_reducible rfl | with_reducible assumption | rfl | ((with_reducible apply SqL.of); assumption) | ((with_reducible apply SqT.of); assumption) | ((with_reducible apply OwnC.cl); assumption) | (with_reducible exact isI_int _) | exact within_args | (with_reducible exact upd_same) | ((with_reducible apply Mid.o); assumption) | ((with_reducible apply Mid.t); assumption) | exact .inl ⟨rfl, _, SqL.of (by assumption)⟩ | (with_reducible exact ⟨_, SqT.of (by assumption)⟩) | (with_reducible exact ⟨_, SqL.of (by assumption)⟩) | omega | exact Nat.le_of_ble_eq_true rfl | exact nat9 (by omega) | exact ⟨_, rfl⟩ | (show _ ≤ sizeLine; decide) | exact ⟨by decide, by decide, by decide⟩ | exact .inl ⟨by decide, by decide⟩ | exact .inl ⟨by omega, by omega⟩ | exact .inr ⟨by omega, by omega⟩ | assumption | fail) | ((with_reducible refine iteF' ?_ ?_); first | rfl | exact decide_eq_false (by omega) | exact in_no (by omega) (by omega) | exact in_no (by omega) (by assumption) | (simp <;> fail) | fail) | ((with_reducible refine iteT' ?_ ?_); first | rfl | exact decide_eq_true (by omega) | (simp <;> fail) | fail))
            exact q
      · rw [decide_eq_false od]
        refine iteT (iteT (no (if_neg fun e => by rw [odds_ne od] at e; exact nomatch e.1) _ (S1.trans S2)))
end
end K46
namespace K46
open PySem PySem.Spec PyProof.Rows L2 OB SkE LamX
theorem int_txt {y : Str} {n : Nat} (h : MN.num y = some n) : intText? y = some (n : Int) ∧ y.length ≤ 140 := by
  unfold MN.num at h
  split at h
  · rename_i e
    cases h
    exact ⟨MT.int_pos y e.1 (by omega), e.2.1⟩
  · cases h
def lastV (c : List Nat) : V := match c.getLast? with
  | none => .non
  | some n => .int (n : Int)
theorem lastV_snoc (c : List Nat) (n : Nat) : lastV (c ++ [n]) = .int (n : Int) := by
  unfold lastV
  rw [List.getLast?_concat]
def oS : Nat ⊕ List (List Nat) → V
  | .inl i => .int (i : Int)
  | .inr _ => .non
def spStop : Sp := fun vs H Q _ => ∃ (q : Addr) (ys : List Str), vs = [.ref q] ∧ H q = some (.lst (ys.map V.str)) ∧ ys ≠ [] ∧ (∀ y ∈ ys, y.length ≤ 100000 ∧ MN.asc y) ∧ ∀ H', Same H H' → Q (oS (readP ys)) H'
section
variable {P : Program} {w : World} {K : PySem.W.Frag} {mg : Str → Option Value} {base : Heap}
theorem sc__law_stop : FnScope ["items", "last", "at", "item"] ["items"] (defScope s__law_stop) := ⟨rfl, rfl, rfl, by decide +kernel, rfl, by decide +kernel, by decide +kernel⟩
abbrev N__law_stop : List Str := ["items", "last", "at", "item"]
theorem ok__law_stop {f f1 : Addr} {fd fd1 : FuncData} (F : Fun K "_law_stop" "_law_stop" s__law_stop f fd) (T : Blt mg) (D__law_is_bit : Df K mg "_law_is_bit" s__law_is_bit ["item"] f1 fd1) : FnOk P w K mg base CX0 2 f fd ["items"] spStop := by
  have G__law_is_bit : FnOk P w K mg base CX0 1 f1 fd1 ["item"] spIsBit := ok__law_is_bit D__law_is_bit.F T
  refine F.ok sc__law_stop (fun vs H Q E h => ?_) (fun cdv A outer s H vs Q E hr h => ?_)
  · obtain ⟨q, ys, rfl, _⟩ := h
    rfl
  · obtain ⟨q, ys, rfl, gq, yne, hy, k⟩ := h
    refine ⟨_, (pss_cons (ps_if (pt_cmpR op_eq (pe_ix ix_list (pv 0) pe_int (fun _ _ => rfl)) pe_str (nomark _)) (pss_one (ps_ret (pe_ifExp (pt_cmpR op_eq (pe_callB call_len_seq (by rfl) T.n_len (by decide +kernel) (pa_cons (pv 0) pa_nil)) pe_int (nomark _)) pe_non pe_int))) pss_nil)
  (pss_cons (ps_set (i := 1) sc__law_stop.nd rfl (Or.inl rfl) pe_non)
  (pss_cons (ps_for PassesOwn.never rfl (pi_enum (by rfl) T.n_enumerate (pa_cons (pv 0) pa_nil)) (pg_tup (by rfl) (pgs_cons (pg_name (i := 2) sc__law_stop.nd rfl (Or.inl rfl)) (pgs_cons (pg_name (i := 3) sc__law_stop.nd rfl (Or.inl rfl)) pgs_nil))) (pss_one (ps_if (PW.pt (pw_and (pt_cmpR op_eq (pv 3) pe_str (nomark _)) (pw_and1 (pt_cmpR op_notN (pv 1) pe_non (nomark _))))) (pss_one (ps_set (i := 1) sc__law_stop.nd rfl (Or.inl rfl) pe_non)) (pss_one (ps_if (PW.pt (pw_or (pt_not (pt_val (pe_call G__law_is_bit (hr.mono (by decide)) (by rfl) D__law_is_bit.g D__law_is_bit.F.kp D__law_is_bit.b .nil pass0 (pa_cons (pv 3) pa_nil)))) (pw_or1 (PW.pt (pw_and (pt_cmpR op_notN (pv 1) pe_non (nomark _)) (pw_and1 (pt_cmpR op_le (pe_callTy call_int_str (by rfl) T.n_int (by decide +kernel) (pa_cons (pv 3) pa_nil)) (pv 1) (nomark _)))))))) (pss_one (ps_ret (pv 2))) (pss_one (ps_set (i := 1) sc__law_stop.nd rfl (Or.inl rfl) (pe_callTy call_int_str (by rfl) T.n_int (by decide +kernel) (pa_cons (pv 3) pa_nil)))))))))
  (pss_one (ps_ret (pe_ifExp (pt_cmpR op_isN (pv 1) pe_non (nomark _)) (pe_callB call_len_seq (by rfl) T.n_len (by decide +kernel) (pa_cons (pv 0) pa_nil)) pe_non)))))), ?_⟩
    obtain ⟨y0, yr, e0⟩ : ∃ y0 yr, ys = y0 :: yr := by
      cases ys with
      | nil => exact absurd rfl yne
      | cons a b => exact ⟨a, b, rfl⟩
    have at0 : atI (ys.map V.str) 0 = some (.str y0) := by rw [e0]; exact atI_nat (j := 0) rfl
    have sqq := SqL.of (K := K) gq
    have sqo : SqL K H q (ys.map V.str) ∨ SqT K H q (ys.map V.str) := .inl sqq
    repeat (first | (with_reducible refine st_tC ?_) | (with_reducible refine st_tOp ?_) | ((with_reducible apply st_n); rfl; rfl; (first | trivial | (show _ ≤ _; omega) | (show _ < _; omega) | (show _ ∨ _; omega) | assumption | exact ⟨by assumption, by omega⟩ | exact ⟨W30.one, by omega⟩ | fail); rfl) | (with_reducible refine st_i0 rfl rfl rfl ?_) | ((with_reducible refine st_i rfl rfl ?_ rfl ?_); first | omega | exact ⟨by decide, by decide, by decide⟩ | exact .inl ⟨by decide, by decide⟩ | exact .inl ⟨by omega, by omega⟩ | exact .inr ⟨by omega, by omega⟩ | fail) | ((fail_if_success refine Exists.intro (α := Nat → Nat → L2.St → Hp → Prop) ?_ ?_); (fail_if_success refine Exists.intro (α := L2.St → Hp → Prop) ?_ ?_); (fail_if_success refine Exists.intro (α := Nat → L2.St → Hp → Prop) ?_ ?_); apply Exists.intro) | ((refine And.intro ?_ ?_); first | with_reducible rfl | with_reducible assumption | rfl | ((with_reducible apply SqL.of); assumption) | ((with_reducible apply SqT.of); assumption) | ((with_reducible apply OwnC.cl); assumption) | (with_reducible exact isI_int _) | exact within_args | (with_reducible exact upd_same) | ((with_reducible apply Mid.o); assumption) | ((with_reducible apply Mid.t); assumption) | exact .inl ⟨rfl, _, SqL.of (by assumption)⟩ | (with_reducible exact ⟨_, SqT.of (by assumption)⟩) | (with_reducible exact ⟨_, SqL.of (by assumption)⟩) | omega | exact Nat.le_of_ble_eq_true rfl | exact nat9 (by omega) | exact ⟨_, rfl⟩ | (show _ ≤ sizeLine; decide) | exact ⟨by decide, by decide, by decide⟩ | exact .inl ⟨by decide, by decide⟩ | exact .inl ⟨by omega, by omega⟩ | exact .inr ⟨by omega, by omega⟩ | assumption | fail) | ((with_reducible refine iteF' ?_ ?_); first | rfl | exact decide_eq_false (by omega) | exact in_no (by omega) (by omega) | exact in_no (by omega) (by assumption) | (simp <;> fail) | fail) | ((with_reducible refine iteT' ?_ ?_); first | rfl | exact decide_eq_true (by omega) | (simp <;> fail) | fail))
    refine iteB (fun b1 => ?_) (fun b1 => ?_)
    · have ey : y0 = "-" := V.str.inj (of_decide_eq_true b1)
      have hr1 : readP ys = if ys.length ≤ 1 then .inr [] else .inl 1 := by
        unfold readP
        rw [e0, ey]
        rfl
      have kk := k H (.refl _)
      rw [hr1] at kk
      repeat (first | (with_reducible refine st_tC ?_) | (with_reducible refine st_tOp ?_) | ((with_reducible apply st_n); rfl; rfl; (first | trivial | (show _ ≤ _; omega) | (show _ < _; omega) | (show _ ∨ _; omega) | assumption | exact ⟨by assumption, by omega⟩ | exact ⟨W30.one, by omega⟩ | fail); rfl) | (with_reducible refine st_i0 rfl rfl rfl ?_) | ((with_reducible refine st_i rfl rfl ?_ rfl ?_); first | omega | exact ⟨by decide, by decide, by decide⟩ | exact .inl ⟨by decide, by decide⟩ | exact .inl ⟨by omega, by omega⟩ | exact .inr ⟨by omega, by omega⟩ | fail) | ((fail_if_success refine Exists.intro (α := Nat → Nat → L2.St → Hp → Prop) ?_ ?_); (fail_if_success refine Exists.intro (α := L2.St → Hp → Prop) ?_ ?_); (fail_if_success refine Exists.intro (α := Nat → L2.St → Hp → Prop) ?_ ?_); apply Exists.intro) | ((refine And.intro ?_ ?_); first | with_reducible rfl | with_reducible assumption | rfl | ((with_reducible apply SqL.of); assumption) | ((with_reducible apply SqT.of); assumption) | ((with_reducible apply OwnC.cl); assumption) | (with_reducible exact isI_int _) | exact within_args | (with_reducible exact upd_same) | ((with_reducible apply Mid.o); assumption) | ((with_reducible apply Mid.t); assumption) | exact .inl ⟨rfl, _, SqL.of (by assumption)⟩ | (with_reducible exact ⟨_, SqT.of (by assumption)⟩) | (with_reducible exact ⟨_, SqL.of (by assumption)⟩) | omega | exact Nat.le_of_ble_eq_true rfl | exact nat9 (by omega) | exact ⟨_, rfl⟩ | (show _ ≤ sizeLine; decide) | exact ⟨by decide, by decide, by decide⟩ | exact .inl ⟨by decide, by decide⟩ | exact .inl ⟨by omega, by omega⟩ | exact .inr ⟨by omega, by omega⟩ | assumption | fail) | ((with_reducible refine iteF' ?_ ?_); first | rfl | exact decide_eq_false (by omega) | exact in_no (by omega) (by omega) | exact in_no (by omega) (by assumption) | (simp <;> fail) | fail) | ((with_reducible refine iteT' ?_ ?_); first | rfl | exact decide_eq_true (by omega) | (simp <;> fail) | fail))
      have ln : (ys.map V.str).length = yr.length + 1 := by rw [e0]; simp
      have ln2 : ys.length = yr.length + 1 := by rw [e0]; rfl
      by_cases l1 : ys.length ≤ 1
      · rw [if_pos l1] at kk
        refine iteT' (decide_eq_true (by rw [ln]; congr 1; omega)) ?_
        exact kk
      · rw [if_neg l1] at kk
        refine iteF' (decide_eq_false (by rw [ln]; intro z; injection z with z; omega)) ?_
        exact kk
    have ey : y0 ≠ "-" := fun z => of_decide_eq_false b1 (by rw [z])
    have hread : readP ys = rd ([], []) 0 ys := by
      unfold readP
      rw [if_neg (by rw [e0]; intro z; exact ey (Option.some.inj z))]
    clear b1 ey at0 e0 sqo
    repeat (first | (with_reducible refine st_tC ?_) | (with_reducible refine st_tOp ?_) | ((with_reducible apply st_n); rfl; rfl; (first | trivial | (show _ ≤ _; omega) | (show _ < _; omega) | (show _ ∨ _; omega) | assumption | exact ⟨by assumption, by omega⟩ | exact ⟨W30.one, by omega⟩ | fail); rfl) | (with_reducible refine st_i0 rfl rfl rfl ?_) | ((with_reducible refine st_i rfl rfl ?_ rfl ?_); first | omega | exact ⟨by decide, by decide, by decide⟩ | exact .inl ⟨by decide, by decide⟩ | exact .inl ⟨by omega, by omega⟩ | exact .inr ⟨by omega, by omega⟩ | fail) | ((fail_if_success refine Exists.intro (α := Nat → Nat → L2.St → Hp → Prop) ?_ ?_); (fail_if_success refine Exists.intro (α := L2.St → Hp → Prop) ?_ ?_); (fail_if_success refine Exists.intro (α := Nat → L2.St → Hp → Prop) ?_ ?_); apply Exists.intro) | ((refine And.intro ?_ ?_); first | with_reducible rfl | with_reducible assumption | rfl | ((with_reducible apply SqL.of); assumption) | ((with_reducible apply SqT.of); assumption) | ((with_reducible apply OwnC.cl); assumption) | (with_reducible exact isI_int _) | exact within_args | (with_reducible exact upd_same) | ((with_reducible apply Mid.o); assumption) | ((with_reducible apply Mid.t); assumption) | exact .inl ⟨rfl, _, SqL.of (by assumption)⟩ | (with_reducible exact ⟨_, SqT.of (by assumption)⟩) | (with_reducible exact ⟨_, SqL.of (by assumption)⟩) | omega | exact Nat.le_of_ble_eq_true rfl | exact nat9 (by omega) | exact ⟨_, rfl⟩ | (show _ ≤ sizeLine; decide) | exact ⟨by decide, by decide, by decide⟩ | exact .inl ⟨by decide, by decide⟩ | exact .inl ⟨by omega, by omega⟩ | exact .inr ⟨by omega, by omega⟩ | assumption | fail) | ((with_reducible refine iteF' ?_ ?_); first | rfl | exact decide_eq_false (by omega) | exact in_no (by omega) (by omega) | exact in_no (by omega) (by assumption) | (simp <;> fail) | fail) | ((with_reducible refine iteT' ?_ ?_); first | rfl | exact decide_eq_true (by omega) | (simp <;> fail) | fail))
    refine for_it (walk_enum (K := K) (a := q) (xs := ys.map V.str)) (fun i σ H' => Same H H' ∧ Hid (∃ (D : List (List Nat)) (c : List Nat) (u2 u3 : Option V), rd (D, c) i (ys.drop i) = rd ([], []) 0 ys ∧ σ = [some (.ref q), some (lastV c), u2, u3])) ⟨.refl _, ⟨[], [], _, _, rfl, rfl⟩⟩ (fun i σ H' _ w => SqL.of (w.1 _ _ gq)) ?_ ?_
    · rintro i y σ H' H'' hi ⟨S17, ⟨D, c, u2, u3, hrd, rfl⟩⟩ ⟨Tq, a1, b1, rfl, hT, rfl, ea, eb⟩
      obtain rfl : V.int (i : Int) = a1 := Option.some.inj ea
      obtain ⟨y, ey, rfl⟩ : ∃ y, ys[i]? = some y ∧ b1 = V.str y := by
        replace eb : (ys.map V.str)[i]? = some b1 := eb
        rw [List.getElem?_map] at eb
        cases e : ys[i]? with
        | none => rw [e] at eb; cases eb
        | some y => rw [e] at eb; exact ⟨y, rfl, (Option.some.inj eb).symm⟩
      clear eb ea
      have dr : ys.drop i = y :: ys.drop (i + 1) := by
        obtain ⟨h1, h2⟩ := List.getElem?_eq_some_iff.mp ey
        rw [← h2]
        exact List.drop_eq_getElem_cons h1
      rw [dr, rd] at hrd
      obtain ⟨yl, ya⟩ := hy y (List.mem_of_getElem? ey)
      have S8 := same_new (o := .tup [V.int (i : Int), V.str y]) hT
      have S18 := S17.trans S8
      refine ⟨Tq, _, rfl, SqT.of upd_same, rfl, _, _, rfl, _, _, rfl, rfl, ?_⟩
      generalize upd H' Tq _ = H8 at S8 S18 ⊢
      clear S8 S17 hT dr
      repeat (first | (with_reducible refine st_tC ?_) | (with_reducible refine st_tOp ?_) | ((with_reducible apply st_n); rfl; rfl; (first | trivial | (show _ ≤ _; omega) | (show _ < _; omega) | (show _ ∨ _; omega) | assumption | exact ⟨by assumption, by omega⟩ | exact ⟨W30.one, by omega⟩ | fail); rfl) | (with_reducible refine st_i0 rfl rfl rfl ?_) | ((with_reducible refine st_i rfl rfl ?_ rfl ?_); first | omega | exact ⟨by decide, by decide, by decide⟩ | exact .inl ⟨by decide, by decide⟩ | exact .inl ⟨by omega, by omega⟩ | exact .inr ⟨by omega, by omega⟩ | fail) | ((fail_if_success refine Exists.intro (α := Nat → Nat → L2.St → Hp → Prop) ?_ ?_); (fail_if_success refine Exists.intro (α := L2.St → Hp → Prop) ?_ ?_); (fail_if_success refine Exists.intro (α := Nat → L2.St → Hp → Prop) ?_ ?_); apply Exists.intro) | ((refine And.intro ?_ ?_); first | with_reducible rfl | with_reducible assumption | rfl | ((with_reducible apply SqL.of); assumption) | ((with_reducible apply SqT.of); assumption) | ((with_reducible apply OwnC.cl); assumption) | (with_reducible exact isI_int _) | exact within_args | (with_reducible exact upd_same) | ((with_reducible apply Mid.o); assumption) | ((with_reducible apply Mid.t); assumption) | exact .inl ⟨rfl, _, SqL.of (by assumption)⟩ | (with_reducible exact ⟨_, SqT.of (by assumption)⟩) | (with_reducible exact ⟨_, SqL.of (by assumption)⟩) | omega | exact Nat.le_of_ble_eq_true rfl | exact nat9 (by omega) | exact ⟨_, rfl⟩ | (show _ ≤ sizeLine; decide) | exact ⟨by decide, by decide, by decide⟩ | exact .inl ⟨by decide, by decide⟩ | exact .inl ⟨by omega, by omega⟩ | exact .inr ⟨by omega, by omega⟩ | assumption | fail) | ((with_reducible refine iteF' ?_ ?_); first | rfl | exact decide_eq_false (by omega) | exact in_no (by omega) (by omega) | exact in_no (by omega) (by assumption) | (simp <;> fail) | fail) | ((with_reducible refine iteT' ?_ ?_); first | rfl | exact decide_eq_true (by omega) | (simp <;> fail) | fail))
      by_cases hb : y = "|" ∧ c ≠ []
      · obtain ⟨rfl, cn⟩ := hb
        have hs : stp (D, c) "|" = some (D ++ [c], []) := by
          unfold stp
          exact if_pos ⟨rfl, cn⟩
        rw [hs] at hrd
        rcases List.eq_nil_or_concat c with rfl | ⟨c', m, rfl⟩
        · exact absurd rfl cn
        rw [List.concat_eq_append] at *
        refine iteT' (decide_eq_true rfl) ?_
        rw [lastV_snoc]
        repeat (first | (with_reducible refine st_tC ?_) | (with_reducible refine st_tOp ?_) | ((with_reducible apply st_n); rfl; rfl; (first | trivial | (show _ ≤ _; omega) | (show _ < _; omega) | (show _ ∨ _; omega) | assumption | exact ⟨by assumption, by omega⟩ | exact ⟨W30.one, by omega⟩ | fail); rfl) | (with_reducible refine st_i0 rfl rfl rfl ?_) | ((with_reducible refine st_i rfl rfl ?_ rfl ?_); first | omega | exact ⟨by decide, by decide, by decide⟩ | exact .inl ⟨by decide, by decide⟩ | exact .inl ⟨by omega, by omega⟩ | exact .inr ⟨by omega, by omega⟩ | fail) | ((fail_if_success refine Exists.intro (α := Nat → Nat → L2.St → Hp → Prop) ?_ ?_); (fail_if_success refine Exists.intro (α := L2.St → Hp → Prop) ?_ ?_); (fail_if_success refine Exists.intro (α := Nat → L2.St → Hp → Prop) ?_ ?_); apply Exists.intro) | ((refine And.intro ?_ ?_); first | with_reducible rfl | with_reducible assumption | rfl | ((with_reducible apply SqL.of); assumption) | ((with_reducible apply SqT.of); assumption) | ((with_reducible apply OwnC.cl); assumption) | (with_reducible exact isI_int _) | exact within_args | (with_reducible exact upd_same) | ((with_reducible apply Mid.o); assumption) | ((with_reducible apply Mid.t); assumption) | exact .inl ⟨rfl, _, SqL.of (by assumption)⟩ | (with_reducible exact ⟨_, SqT.of (by assumption)⟩) | (with_reducible exact ⟨_, SqL.of (by assumption)⟩) | omega | exact Nat.le_of_ble_eq_true rfl | exact nat9 (by omega) | exact ⟨_, rfl⟩ | (show _ ≤ sizeLine; decide) | exact ⟨by decide, by decide, by decide⟩ | exact .inl ⟨by decide, by decide⟩ | exact .inl ⟨by omega, by omega⟩ | exact .inr ⟨by omega, by omega⟩ | assumption | fail) | ((with_reducible refine iteF' ?_ ?_); first | rfl | exact decide_eq_false (by omega) | exact in_no (by omega) (by omega) | exact in_no (by omega) (by assumption) | (simp <;> fail) | fail) | ((with_reducible refine iteT' ?_ ?_); first | rfl | exact decide_eq_true (by omega) | (simp <;> fail) | fail))
        exact ⟨⟨D ++ [c' ++ [m]], [], _, _, hrd, rfl⟩⟩
      · show if decide (V.str y = V.str "|") = true then _ else _
        refine iteX (fun b1 kY => ?_) ?_
        · have cn : c = [] := Classical.byContradiction fun z => hb ⟨V.str.inj (of_decide_eq_true b1), z⟩
          subst cn
          exact ⟨_, rfl, rfl, _, rfl, kY⟩
        have yz : y.length ≤ sizeLine := by rw [sizeLine_eq]; omega
        repeat (first | (refine ⟨y, rfl, yl, ya, ?_⟩) | (with_reducible refine st_tC ?_) | (with_reducible refine st_tOp ?_) | ((with_reducible apply st_n); rfl; rfl; (first | trivial | (show _ ≤ _; omega) | (show _ < _; omega) | (show _ ∨ _; omega) | assumption | exact ⟨by assumption, by omega⟩ | exact ⟨W30.one, by omega⟩ | fail); rfl) | (with_reducible refine st_i0 rfl rfl rfl ?_) | ((with_reducible refine st_i rfl rfl ?_ rfl ?_); first | omega | exact ⟨by decide, by decide, by decide⟩ | exact .inl ⟨by decide, by decide⟩ | exact .inl ⟨by omega, by omega⟩ | exact .inr ⟨by omega, by omega⟩ | fail) | ((fail_if_success refine Exists.intro (α := Nat → Nat → L2.St → Hp → Prop) ?_ ?_); (fail_if_success refine Exists.intro (α := L2.St → Hp → Prop) ?_ ?_); (fail_if_success refine Exists.intro (α := Nat → L2.St → Hp → Prop) ?_ ?_); apply Exists.intro) | ((refine And.intro ?_ ?_); first | with_reducible rfl | with_reducible assumption | rfl | ((with_reducible apply SqL.of); assumption) | ((with_reducible apply SqT.of); assumption) | ((with_reducible apply OwnC.cl); assumption) | (with_reducible exact isI_int _) | exact within_args | (with_reducible exact upd_same) | ((with_reducible apply Mid.o); assumption) | ((with_reducible apply Mid.t); assumption) | exact .inl ⟨rfl, _, SqL.of (by assumption)⟩ | (with_reducible exact ⟨_, SqT.of (by assumption)⟩) | (with_reducible exact ⟨_, SqL.of (by assumption)⟩) | omega | exact Nat.le_of_ble_eq_true rfl | exact nat9 (by omega) | exact ⟨_, rfl⟩ | (show _ ≤ sizeLine; decide) | exact ⟨by decide, by decide, by decide⟩ | exact .inl ⟨by decide, by decide⟩ | exact .inl ⟨by omega, by omega⟩ | exact .inr ⟨by omega, by omega⟩ | assumption | fail) | ((with_reducible refine iteF' ?_ ?_); first | rfl | exact decide_eq_false (by omega) | exact in_no (by omega) (by omega) | exact in_no (by omega) (by assumption) | (simp <;> fail) | fail) | ((with_reducible refine iteT' ?_ ?_); first | rfl | exact decide_eq_true (by omega) | (simp <;> fail) | fail))
        intro H9 S9
        have S19 := S18.trans S9
        have sq9 : SqL K H9 q (ys.map V.str) ∨ SqT K H9 q (ys.map V.str) := .inl (SqL.of (S19 _ _ gq))
        cases e : MN.inR y 0 20000 with
        | false =>
          have hs : stp (D, c) y = none := by
            unfold stp
            rw [if_neg hb]
            cases en : MN.num y with
            | none => rfl
            | some n =>
              refine if_neg fun w => ?_
              rw [MN.inR_of (lo := 0) (hi := 20000) en (by omega) (by omega)] at e
              cases e
          rw [hs] at hrd
          have kk := k _ S19
          rw [hread, ← hrd] at kk
          repeat (first | (with_reducible refine st_tC ?_) | (with_reducible refine st_tOp ?_) | ((with_reducible apply st_n); rfl; rfl; (first | trivial | (show _ ≤ _; omega) | (show _ < _; omega) | (show _ ∨ _; omega) | assumption | exact ⟨by assumption, by omega⟩ | exact ⟨W30.one, by omega⟩ | fail); rfl) | (with_reducible refine st_i0 rfl rfl rfl ?_) | ((with_reducible refine st_i rfl rfl ?_ rfl ?_); first | omega | exact ⟨by decide, by decide, by decide⟩ | exact .inl ⟨by decide, by decide⟩ | exact .inl ⟨by omega, by omega⟩ | exact .inr ⟨by omega, by omega⟩ | fail) | ((fail_if_success refine Exists.intro (α := Nat → Nat → L2.St → Hp → Prop) ?_ ?_); (fail_if_success refine Exists.intro (α := L2.St → Hp → Prop) ?_ ?_); (fail_if_success refine Exists.intro (α := Nat → L2.St → Hp → Prop) ?_ ?_); apply Exists.intro) | ((refine And.intro ?_ ?_); first | with_reducible rfl | with_reducible assumption | rfl | ((with_reducible apply SqL.of); assumption) | ((with_reducible apply SqT.of); assumption) | ((with_reducible apply OwnC.cl); assumption) | (with_reducible exact isI_int _) | exact within_args | (with_reducible exact upd_same) | ((with_reducible apply Mid.o); assumption) | ((with_reducible apply Mid.t); assumption) | exact .inl ⟨rfl, _, SqL.of (by assumption)⟩ | (with_reducible exact ⟨_, SqT.of (by assumption)⟩) | (with_reducible exact ⟨_, SqL.of (by assumption)⟩) | omega | exact Nat.le_of_ble_eq_true rfl | exact nat9 (by omega) | exact ⟨_, rfl⟩ | (show _ ≤ sizeLine; decide) | exact ⟨by decide, by decide, by decide⟩ | exact .inl ⟨by decide, by decide⟩ | exact .inl ⟨by omega, by omega⟩ | exact .inr ⟨by omega, by omega⟩ | assumption | fail) | ((with_reducible refine iteF' ?_ ?_); first | rfl | exact decide_eq_false (by omega) | exact in_no (by omega) (by omega) | exact in_no (by omega) (by assumption) | (simp <;> fail) | fail) | ((with_reducible refine iteT' ?_ ?_); first | rfl | exact decide_eq_true (by omega) | (simp <;> fail) | fail))
          exact kk
        | true =>
          obtain ⟨n, _, en, e3, e4⟩ := MN.inR_ex e
          obtain ⟨ti, yl2⟩ := int_txt en
          have y640 : y.length ≤ 640 := by omega
          rcases List.eq_nil_or_concat c with rfl | ⟨c', m, rfl⟩
          · have hs : stp (D, []) y = some (D, [] ++ [n]) := by
              unfold stp
              rw [if_neg hb, en]
              exact if_pos ⟨Nat.zero_le _, by omega⟩
            rw [hs] at hrd
            have l0 : lastV [] = .non := rfl
            rw [l0]
            repeat (first | (with_reducible refine st_tC ?_) | (with_reducible refine st_tOp ?_) | ((with_reducible apply st_n); rfl; rfl; (first | trivial | (show _ ≤ _; omega) | (show _ < _; omega) | (show _ ∨ _; omega) | assumption | exact ⟨by assumption, by omega⟩ | exact ⟨W30.one, by omega⟩ | fail); rfl) | (with_reducible refine st_i0 rfl rfl rfl ?_) | ((with_reducible refine st_i rfl rfl ?_ rfl ?_); first | omega | exact ⟨by decide, by decide, by decide⟩ | exact .inl ⟨by decide, by decide⟩ | exact .inl ⟨by omega, by omega⟩ | exact .inr ⟨by omega, by omega⟩ | fail) | ((fail_if_success refine Exists.intro (α := Nat → Nat → L2.St → Hp → Prop) ?_ ?_); (fail_if_success refine Exists.intro (α := L2.St → Hp → Prop) ?_ ?_); (fail_if_success refine Exists.intro (α := Nat → L2.St → Hp → Prop) ?_ ?_); apply Exists.intro) | ((refine And.intro ?_ ?_); first | with_reducible rfl | with_reducible assumption | rfl | ((with_reducible apply SqL.of); assumption) | ((with_reducible apply SqT.of); assumption) | ((with_reducible apply OwnC.cl); assumption) | (with_reducible exact isI_int _) | exact within_args | (with_reducible exact upd_same) | ((with_reducible apply Mid.o); assumption) | ((with_reducible apply Mid.t); assumption) | exact .inl ⟨rfl, _, SqL.of (by assumption)⟩ | (with_reducible exact ⟨_, SqT.of (by assumption)⟩) | (with_reducible exact ⟨_, SqL.of (by assumption)⟩) | omega | exact Nat.le_of_ble_eq_true rfl | exact nat9 (by omega) | exact ⟨_, rfl⟩ | (show _ ≤ sizeLine; decide) | exact ⟨by decide, by decide, by decide⟩ | exact .inl ⟨by decide, by decide⟩ | exact .inl ⟨by omega, by omega⟩ | exact .inr ⟨by omega, by omega⟩ | assumption | fail) | ((with_reducible refine iteF' ?_ ?_); first | rfl | exact decide_eq_false (by omega) | exact in_no (by omega) (by omega) | exact in_no (by omega) (by assumption) | (simp <;> fail) | fail) | ((with_reducible refine iteT' ?_ ?_); first | rfl | exact decide_eq_true (by omega) | (simp <;> fail) | fail))
            exact ⟨⟨D, [] ++ [n], _, _, hrd, rfl⟩⟩
          · rw [List.concat_eq_append] at *
            rw [lastV_snoc]
            repeat (first | (with_reducible refine st_tC ?_) | (with_reducible refine st_tOp ?_) | ((with_reducible apply st_n); rfl; rfl; (first | trivial | (show _ ≤ _; omega) | (show _ < _; omega) | (show _ ∨ _; omega) | assumption | exact ⟨by assumption, by omega⟩ | exact ⟨W30.one, by omega⟩ | fail); rfl) | (with_reducible refine st_i0 rfl rfl rfl ?_) | ((with_reducible refine st_i rfl rfl ?_ rfl ?_); first | omega | exact ⟨by decide, by decide, by decide⟩ | exact .inl ⟨by decide, by decide⟩ | exact .inl ⟨by omega, by omega⟩ | exact .inr ⟨by omega, by omega⟩ | fail) | ((fail_if_success refine Exists.intro (α := Nat → Nat → L2.St → Hp → Prop) ?_ ?_); (fail_if_success refine Exists.intro (α := L2.St → Hp → Prop) ?_ ?_); (fail_if_success refine Exists.intro (α := Nat → L2.St → Hp → Prop) ?_ ?_); apply Exists.intro) | ((refine And.intro ?_ ?_); first | with_reducible rfl | with_reducible assumption | rfl | ((with_reducible apply SqL.of); assumption) | ((with_reducible apply SqT.of); assumption) | ((with_reducible apply OwnC.cl); assumption) | (with_reducible exact isI_int _) | exact within_args | (with_reducible exact upd_same) | ((with_reducible apply Mid.o); assumption) | ((with_reducible apply Mid.t); assumption) | exact .inl ⟨rfl, _, SqL.of (by assumption)⟩ | (with_reducible exact ⟨_, SqT.of (by assumption)⟩) | (with_reducible exact ⟨_, SqL.of (by assumption)⟩) | omega | exact Nat.le_of_ble_eq_true rfl | exact nat9 (by omega) | exact ⟨_, rfl⟩ | (show _ ≤ sizeLine; decide) | exact ⟨by decide, by decide, by decide⟩ | exact .inl ⟨by decide, by decide⟩ | exact .inl ⟨by omega, by omega⟩ | exact .inr ⟨by omega, by omega⟩ | assumption | fail) | ((with_reducible refine iteF' ?_ ?_); first | rfl | exact decide_eq_false (by omega) | exact in_no (by omega) (by omega) | exact in_no (by omega) (by assumption) | (simp <;> fail) | fail) | ((with_reducible refine iteT' ?_ ?_); first | rfl | exact decide_eq_true (by omega) | (simp <;> fail) | fail))
            refine iteB (fun b1 => ?_) (fun b1 => ?_)
            · have nm : (n : Int) ≤ (m : Int) := of_decide_eq_true b1
              have hs : stp (D, c' ++ [m]) y = none := by
                unfold stp
                rw [if_neg hb, en]
                refine if_neg fun w => ?_
                have w1 : low (c' ++ [m]) ≤ n := w.1
                rw [low_snoc] at w1
                omega
              rw [hs] at hrd
              have kk := k _ S19
              rw [hread, ← hrd] at kk
              repeat (first | (with_reducible refine st_tC ?_) | (with_reducible refine st_tOp ?_) | ((with_reducible apply st_n); rfl; rfl; (first | trivial | (show _ ≤ _; omega) | (show _ < _; omega) | (show _ ∨ _; omega) | assumption | exact ⟨by assumption, by omega⟩ | exact ⟨W30.one, by omega⟩ | fail); rfl) | (with_reducible refine st_i0 rfl rfl rfl ?_) | ((with_reducible refine st_i rfl rfl ?_ rfl ?_); first | omega | exact ⟨by decide, by decide, by decide⟩ | exact .inl ⟨by decide, by decide⟩ | exact .inl ⟨by omega, by omega⟩ | exact .inr ⟨by omega, by omega⟩ | fail) | ((fail_if_success refine Exists.intro (α := Nat → Nat → L2.St → Hp → Prop) ?_ ?_); (fail_if_success refine Exists.intro (α := L2.St → Hp → Prop) ?_ ?_); (fail_if_success refine Exists.intro (α := Nat → L2.St → Hp → Prop) ?_ ?_); apply Exists.intro) | ((refine And.intro ?_ ?_); first | with_reducible rfl | with_reducible assumption | rfl | ((with_reducible apply SqL.of); assumption) | ((with_reducible apply SqT.of); assumption) | ((with_reducible apply OwnC.cl); assumption) | (with_reducible exact isI_int _) | exact within_args | (with_reducible exact upd_same) | ((with_reducible apply Mid.o); assumption) | ((with_reducible apply Mid.t); assumption) | exact .inl ⟨rfl, _, SqL.of (by assumption)⟩ | (with_reducible exact ⟨_, SqT.of (by assumption)⟩) | (with_reducible exact ⟨_, SqL.of (by assumption)⟩) | omega | exact Nat.le_of_ble_eq_true rfl | exact nat9 (by omega) | exact ⟨_, rfl⟩ | (show _ ≤ sizeLine; decide) | exact ⟨by decide, by decide, by decide⟩ | exact .inl ⟨by decide, by decide⟩ | exact .inl ⟨by omega, by omega⟩ | exact .inr ⟨by omega, by omega⟩ | assumption | fail) | ((with_reducible refine iteF' ?_ ?_); first | rfl | exact decide_eq_false (by omega) | exact in_no (by omega) (by omega) | exact in_no (by omega) (by assumption) | (simp <;> fail) | fail) | ((with_reducible refine iteT' ?_ ?_); first | rfl | exact decide_eq_true (by omega) | (simp <;> fail) | fail))
              exact kk
            · have nm : ¬ (n : Int) ≤ (m : Int) := of_decide_eq_false b1
              have hs : stp (D, c' ++ [m]) y = some (D, c' ++ [m] ++ [n]) := by
                unfold stp
                rw [if_neg hb, en]
                exact if_pos ⟨by show low (c' ++ [m]) ≤ n; rw [low_snoc]; omega, by omega⟩
              rw [hs] at hrd
              repeat (first | (with_reducible refine st_tC ?_) | (with_reducible refine st_tOp ?_) | ((with_reducible apply st_n); rfl; rfl; (first | trivial | (show _ ≤ _; omega) | (show _ < _; omega) | (show _ ∨ _; omega) | assumption | exact ⟨by assumption, by omega⟩ | exact ⟨W30.one, by omega⟩ | fail); rfl) | (with_reducible refine st_i0 rfl rfl rfl ?_) | ((with_reducible refine st_i rfl rfl ?_ rfl ?_); first | omega | exact ⟨by decide, by decide, by decide⟩ | exact .inl ⟨by decide, by decide⟩ | exact .inl ⟨by omega, by omega⟩ | exact .inr ⟨by omega, by omega⟩ | fail) | ((fail_if_success refine Exists.intro (α := Nat → Nat → L2.St → Hp → Prop) ?_ ?_); (fail_if_success refine Exists.intro (α := L2.St → Hp → Prop) ?_ ?_); (fail_if_success refine Exists.intro (α := Nat → L2.St → Hp → Prop) ?_ ?_); apply Exists.intro) | ((refine And.intro ?_ ?_); first | with_reducible rfl | with_reducible assumption | rfl | ((with_reducible apply SqL.of); assumption) | ((with_reducible apply SqT.of); assumption) | ((with_reducible apply OwnC.cl); assumption) | (with_reducible exact isI_int _) | exact within_args | (with_reducible exact upd_same) | ((with_reducible apply Mid.o); assumption) | ((with_reducible apply Mid.t); assumption) | exact .inl ⟨rfl, _, SqL.of (by assumption)⟩ | (with_reducible exact ⟨_, SqT.of (by assumption)⟩) | (with_reducible exact ⟨_, SqL.of (by assumption)⟩) | omega | exact Nat.le_of_ble_eq_true rfl | exact nat9 (by omega) | exact ⟨_, rfl⟩ | (show _ ≤ sizeLine; decide) | exact ⟨by decide, by decide, by decide⟩ | exact .inl ⟨by decide, by decide⟩ | exact .inl ⟨by omega, by omega⟩ | exact .inr ⟨by omega, by omega⟩ | assumption | fail) | ((with_reducible refine iteF' ?_ ?_); first | rfl | exact decide_eq_false (by omega) | exact in_no (by omega) (by omega) | exact in_no (by omega) (by assumption) | (simp <;> fail) | fail) | ((with_reducible refine iteT' ?_ ?_); first | rfl | exact decide_eq_true (by omega) | (simp <;> fail) | fail))
              exact ⟨⟨D, c' ++ [m] ++ [n], _, _, hrd, by rw [lastV_snoc]; rfl⟩⟩
    · rintro σ H' ⟨S17, ⟨D, c, u2, u3, hrd, rfl⟩⟩
      rw [List.length_map, List.drop_length, rd] at hrd
      have kk := k _ S17
      rw [hread, ← hrd] at kk
      have sq9 : SqL K H' q (ys.map V.str) ∨ SqT K H' q (ys.map V.str) := .inl (SqL.of (S17 _ _ gq))
      rcases List.eq_nil_or_concat c with rfl | ⟨c', m, rfl⟩
      · have l0 : lastV [] = .non := rfl
        rw [l0]
        repeat (first | (with_reducible refine st_tC ?_) | (with_reducible refine st_tOp ?_) | ((with_reducible apply st_n); rfl; rfl; (first | trivial | (show _ ≤ _; omega) | (show _ < _; omega) | (show _ ∨ _; omega) | assumption | exact ⟨by assumption, by omega⟩ | exact ⟨W30.one, by omega⟩ | fail); rfl) | (with_reducible refine st_i0 rfl rfl rfl ?_) | ((with_reducible refine st_i rfl rfl ?_ rfl ?_); first | omega | exact ⟨by decide, by decide, by decide⟩ | exact .inl ⟨by decide, by decide⟩ | exact .inl ⟨by omega, by omega⟩ | exact .inr ⟨by omega, by omega⟩ | fail) | ((fail_if_success refine Exists.intro (α := Nat → Nat → L2.St → Hp → Prop) ?_ ?_); (fail_if_success refine Exists.intro (α := L2.St → Hp → Prop) ?_ ?_); (fail_if_success refine Exists.intro (α := Nat → L2.St → Hp → Prop) ?_ ?_); apply Exists.intro) | ((refine And.intro ?_ ?_); first | with_reducible rfl | with_reducible assumption | rfl | ((with_reducible apply SqL.of); assumption) | ((with_reducible apply SqT.of); assumption) | ((with_reducible apply OwnC.cl); assumption) | (with_reducible exact isI_int _) | exact within_args | (with_reducible exact upd_same) | ((with_reducible apply Mid.o); assumption) | ((with_reducible apply Mid.t); assumption) | exact .inl ⟨rfl, _, SqL.of (by assumption)⟩ | (with_reducible exact ⟨_, SqT.of (by assumption)⟩) | (with_reducible exact ⟨_, SqL.of (by assumption)⟩) | omega | exact Nat.le_of_ble_eq_true rfl | exact nat9 (by omega) | exact ⟨_, rfl⟩ | (show _ ≤ sizeLine; decide) | exact ⟨by decide, by decide, by decide⟩ | exact .inl ⟨by decide, by decide⟩ | exact .inl ⟨by omega, by omega⟩ | exact .inr ⟨by omega, by omega⟩ | assumption | fail) | ((with_reducible refine iteF' ?_ ?_); first | rfl | exact decide_eq_false (by omega) | exact in_no (by omega) (by omega) | exact in_no (by omega) (by assumption) | (simp <;> fail) | fail) | ((with_reducible refine iteT' ?_ ?_); first | rfl | exact decide_eq_true (by omega) | (simp <;> fail) | fail))
        rw [List.length_map]
        exact kk
      · rw [List.concat_eq_append] at *
        rw [if_neg (by simp)] at kk
        rw [lastV_snoc]
        repeat (first | (with_reducible refine st_tC ?_) | (with_reducible refine st_tOp ?_) | ((with_reducible apply st_n); rfl; rfl; (first | trivial | (show _ ≤ _; omega) | (show _ < _; omega) | (show _ ∨ _; omega) | assumption | exact ⟨by assumption, by omega⟩ | exact ⟨W30.one, by omega⟩ | fail); rfl) | (with_reducible refine st_i0 rfl rfl rfl ?_) | ((with_reducible refine st_i rfl rfl ?_ rfl ?_); first | omega | exact ⟨by decide, by decide, by decide⟩ | exact .inl ⟨by decide, by decide⟩ | exact .inl ⟨by omega, by omega⟩ | exact .inr ⟨by omega, by omega⟩ | fail) | ((fail_if_success refine Exists.intro (α := Nat → Nat → L2.St → Hp → Prop) ?_ ?_); (fail_if_success refine Exists.intro (α := L2.St → Hp → Prop) ?_ ?_); (fail_if_success refine Exists.intro (α := Nat → L2.St → Hp → Prop) ?_ ?_); apply Exists.intro) | ((refine And.intro ?_ ?_); first | with_reducible rfl | with_reducible assumption | rfl | ((with_reducible apply SqL.of); assumption) | ((with_reducible apply SqT.of); assumption) | ((with_reducible apply OwnC.cl); assumption) | (with_reducible exact isI_int _) | exact within_args | (with_reducible exact upd_same) | ((with_reducible apply Mid.o); assumption) | ((with_reducible apply Mid.t); assumption) | exact .inl ⟨rfl, _, SqL.of (by assumption)⟩ | (with_reducible exact ⟨_, SqT.of (by assumption)⟩) | (with_reducible exact ⟨_, SqL.of (by assumption)⟩) | omega | exact Nat.le_of_ble_eq_true rfl | exact nat9 (by omega) | exact ⟨_, rfl⟩ | (show _ ≤ sizeLine; decide) | exact ⟨by decide, by decide, by decide⟩ | exact .inl ⟨by decide, by decide⟩ | exact .inl ⟨by omega, by omega⟩ | exact .inr ⟨by omega, by omega⟩ | assumption | fail) | ((with_reducible refine iteF' ?_ ?_); first | rfl | exact decide_eq_false (by omega) | exact in_no (by omega) (by omega) | exact in_no (by omega) (by assumption) | (simp <;> fail) | fail) | ((with_reducible refine iteT' ?_ ?_); first | rfl | exact decide_eq_true (by omega) | (simp <;> fail) | fail))
        exact kk
end
end K46
namespace K46
open PySem PySem.Spec PyProof.Rows L2 OB SkE LamX
/-! ### texts of phases, on numbers alone -/
theorem app_assoc (a b c : Str) : a ++ b ++ c = a ++ (b ++ c) := MT.str_ext (by
  show TL.tl (a ++ b ++ c) = TL.tl (a ++ (b ++ c))
  rw [TL.tl_append, TL.tl_append, TL.tl_append, TL.tl_append, List.append_assoc])
theorem join1 (s a : Str) : Txt.join s [a] = a := by rw [TL.join_eq]; rfl
theorem join2 (s a : Str) : ∀ {l : List Str}, l ≠ [] → Txt.join s (a :: l) = a ++ s ++ Txt.join s l
  | [], h => absurd rfl h
  | b :: r, _ => by rw [TL.join_eq, TL.join_eq]; rfl
theorem join_app (s : Str) : ∀ {l m : List Str}, l ≠ [] → m ≠ [] → Txt.join s (l ++ m) = Txt.join s l ++ s ++ Txt.join s m
  | [], _, h, _ => absurd rfl h
  | [a], m, _, hm => by
    rw [join1]
    exact join2 s a hm
  | a :: b :: r, m, _, hm => by
    have ih := join_app s (l := b :: r) (m := m) (by simp) hm
    rw [List.cons_append, join2 s a (l := b :: r ++ m) (by simp), ih, join2 s a (l := b :: r) (by simp)]
    simp only [app_assoc]
def bars : List (List Nat) → List Str
  | [] => []
  | l :: r => ("|" : Str) :: (l.map ds ++ bars r)
theorem itm_bars : ∀ (ls : List (List Nat)) (f : List Str), f ≠ [] → itm f ls = f ++ bars ls
  | [], f, _ => by rw [itm, bars, List.append_nil]
  | l :: r, f, h => by
    rw [itm, if_neg h, itm_bars r _ (by simp), bars, List.append_assoc, List.append_assoc]
    rfl
theorem items_cons {l : List Nat} {r : List (List Nat)} (h : l ≠ []) : itemsF (l :: r) = l.map ds ++ bars r := by
  have h2 : l.map ds ≠ [] := fun z => h (List.map_eq_nil_iff.mp z)
  have e : itm [] (l :: r) = l.map ds ++ bars r := by
    rw [itm, if_pos rfl]
    exact itm_bars r _ h2
  unfold itemsF
  rw [e, if_neg (by simp [h2])]
theorem items_nil : itemsF [] = [("-" : Str)] := rfl
theorem bars_txt : ∀ (r : List (List Nat)) (l : List Nat), l ≠ [] → (∀ m ∈ r, m ≠ []) → Txt.join " " (l.map ds ++ bars r) = Txt.join " | " ((l :: r).map pTxt)
  | [], l, _, _ => by
    rw [bars, List.append_nil]
    exact (join1 _ _).symm
  | m :: r, l, h, hr => by
    have hm := hr m List.mem_cons_self
    have ih := bars_txt r m hm fun x hx => hr x (List.mem_cons_of_mem _ hx)
    have n1 : l.map ds ≠ [] := fun z => h (List.map_eq_nil_iff.mp z)
    have n2 : m.map ds ++ bars r ≠ [] := by
      have : m.map ds ≠ [] := fun z => hm (List.map_eq_nil_iff.mp z)
      simp [this]
    have e : (" | " : Str) = " " ++ ("|" ++ " ") := by decide +kernel
    rw [bars, join_app " " n1 (List.cons_ne_nil _ _), join2 " " "|" n2, ih, List.map_cons (a := l), join2 " | " (pTxt l) (by simp), e]
    unfold pTxt
    simp only [app_assoc]
/-- phases that were written -/
def PsOk (k : Nat) (ps : List (List Nat)) : Prop := (ps.map fun l => l.length).sum + ps.length ≤ k ∧ ∀ l ∈ ps, l ≠ [] ∧ l.Pairwise (· < ·) ∧ l.length ≤ k ∧ ∀ n ∈ l, n ≤ 20000
theorem items_txt {ls : List (List Nat)} (h : ∀ l ∈ ls, l ≠ []) : Txt.join " " (itemsF ls) = phTxt ls := by
  cases ls with
  | nil => rw [items_nil]; exact join1 _ _
  | cons l r =>
    rw [items_cons (h l List.mem_cons_self), bars_txt r l (h l List.mem_cons_self) fun m hm => h m (List.mem_cons_of_mem _ hm)]
    unfold phTxt
    rw [if_neg (List.cons_ne_nil _ _)]
theorem num_ds5 {n : Nat} (h : n ≤ 20000) : MN.num (ds n) = some n := MN.num_ds (by have := ds_len5 h; omega)
theorem ds_bar {n : Nat} (h : n ≤ 20000) : ds n ≠ "|" := fun e => by
  have := num_ds5 h
  rw [e] at this
  revert this
  rw [show MN.num "|" = none by decide +kernel]
  intro z
  cases z
theorem ds_dash {n : Nat} (h : n ≤ 20000) : ds n ≠ "-" := fun e => by
  have := num_ds5 h
  rw [e] at this
  revert this
  rw [show MN.num "-" = none by decide +kernel]
  intro z
  cases z
theorem low_le {c : List Nat} {n : Nat} (h : (c ++ [n]).Pairwise (· < ·)) : low c ≤ n := by
  rcases List.eq_nil_or_concat c with rfl | ⟨c', m, rfl⟩
  · exact Nat.zero_le _
  · rw [List.concat_eq_append] at *
    rw [low_snoc]
    exact (List.pairwise_append.mp h).2.2 m (by simp) n (by simp)
theorem pw_of_low {c : List Nat} {n : Nat} (h : c.Pairwise (· < ·)) (h2 : low c ≤ n) : (c ++ [n]).Pairwise (· < ·) := by
  rcases List.eq_nil_or_concat c with rfl | ⟨c', m, rfl⟩
  · simp
  · rw [List.concat_eq_append] at *
    rw [low_snoc] at h2
    refine List.pairwise_append.mpr ⟨h, by simp, fun a ha b hb => ?_⟩
    rw [List.mem_singleton.mp hb]
    rcases List.mem_append.mp ha with z | z
    · have := (List.pairwise_append.mp h).2.2 a z m (by simp)
      omega
    · rw [List.mem_singleton.mp z]
      omega
theorem rd_lot : ∀ (l : List Nat) (D : List (List Nat)) (c : List Nat) (i : Nat) (ys : List Str), (c ++ l).Pairwise (· < ·) → (∀ n ∈ l, n ≤ 20000) → rd (D, c) i (l.map ds ++ ys) = rd (D, c ++ l) (i + l.length) ys
  | [], D, c, i, ys, _, _ => by simp
  | n :: l, D, c, i, ys, h, hn => by
    have n2 := hn n List.mem_cons_self
    have h1 : (c ++ [n] ++ l).Pairwise (· < ·) := by simpa using h
    have s1 : stp (D, c) (ds n) = some (D, c ++ [n]) := by
      unfold stp
      rw [if_neg fun z => ds_bar n2 z.1, num_ds5 n2]
      exact if_pos ⟨low_le (List.pairwise_append.mp h1).1, n2⟩
    rw [List.map_cons, List.cons_append, rd, s1]
    show rd (D, c ++ [n]) (i + 1) (l.map ds ++ ys) = _
    rw [rd_lot l D (c ++ [n]) (i + 1) ys h1 fun m hm => hn m (List.mem_cons_of_mem _ hm), List.append_assoc, List.length_cons]
    show rd (D, c ++ n :: l) _ _ = _
    congr 1
    omega
theorem rd_bars : ∀ (r : List (List Nat)) (D : List (List Nat)) (c : List Nat) (i : Nat), c ≠ [] → (∀ l ∈ r, l ≠ [] ∧ l.Pairwise (· < ·) ∧ ∀ n ∈ l, n ≤ 20000) → rd (D, c) i (bars r) = .inr (D ++ [c] ++ r)
  | [], D, c, i, h, _ => by
    rw [bars, rd, if_neg h, List.append_nil]
  | l :: r, D, c, i, h, hr => by
    obtain ⟨a1, a2, a3⟩ := hr l List.mem_cons_self
    have s1 : stp (D, c) "|" = some (D ++ [c], []) := by
      unfold stp
      exact if_pos ⟨rfl, h⟩
    rw [bars, rd, s1]
    show rd (D ++ [c], []) (i + 1) (l.map ds ++ bars r) = _
    rw [rd_lot l _ [] _ _ a2 a3, List.nil_append, rd_bars r _ l _ a1 fun m hm => hr m (List.mem_cons_of_mem _ hm)]
    simp
theorem read_items {ls : List (List Nat)} (h : LsOk ls) : readP (itemsF ls) = .inr ls := by
  cases ls with
  | nil => rfl
  | cons l r =>
    obtain ⟨a1, a2, a3, a4⟩ := h l List.mem_cons_self
    rw [items_cons a1]
    obtain ⟨n, l', rfl⟩ : ∃ n l', l = n :: l' := by
      cases l with
      | nil => exact absurd rfl a1
      | cons a b => exact ⟨a, b, rfl⟩
    unfold readP
    rw [if_neg (by
      rw [List.map_cons, List.cons_append, List.head?_cons]
      intro z
      exact ds_dash (a4 n List.mem_cons_self) (Option.some.inj z)), rd_lot (n :: l') [] [] 0 _ a2 a4, rd_bars r _ _ _ (by simp) fun m hm => by
        obtain ⟨b1, b2, _, b4⟩ := h m (List.mem_cons_of_mem _ hm)
        exact ⟨b1, b2, b4⟩]
    rfl
theorem rd_back : ∀ (ys : List Str) (D : List (List Nat)) (c : List Nat) (i : Nat) (ps : List (List Nat)), rd (D, c) i ys = .inr ps → c.Pairwise (· < ·) → (∀ n ∈ c, n ≤ 20000) →
    ∃ l r, ps = D ++ [c ++ l] ++ r ∧ ys = l.map ds ++ bars r ∧ c ++ l ≠ [] ∧ (c ++ l).Pairwise (· < ·) ∧ (∀ n ∈ c ++ l, n ≤ 20000) ∧ ∀ m ∈ r, m ≠ [] ∧ m.Pairwise (· < ·) ∧ ∀ n ∈ m, n ≤ 20000
  | [], D, c, i, ps, h, h1, h2 => by
    rw [rd] at h
    by_cases e : c = []
    · rw [if_pos e] at h; cases h
    · rw [if_neg e] at h
      refine ⟨[], [], ?_, rfl, by simpa using e, by simpa using h1, by simpa using h2, fun m hm => by cases hm⟩
      rw [List.append_nil, List.append_nil]
      exact (Sum.inr.inj h).symm
  | y :: ys, D, c, i, ps, h, h1, h2 => by
    rw [rd] at h
    by_cases hb : y = "|" ∧ c ≠ []
    · have hs : stp (D, c) y = some (D ++ [c], []) := by
        unfold stp
        exact if_pos hb
      rw [hs] at h
      obtain ⟨l, r, rfl, rfl, k1, k2, k3, k4⟩ := rd_back ys (D ++ [c]) [] (i + 1) ps h (by simp) (fun n hn => by cases hn)
      rw [List.nil_append] at *
      refine ⟨[], l :: r, by simp, by rw [hb.1]; rfl, by simpa using hb.2, by simpa using h1, by simpa using h2, fun m hm => ?_⟩
      rcases List.mem_cons.mp hm with rfl | hm
      · exact ⟨k1, k2, k3⟩
      · exact k4 m hm
    · cases en : MN.num y with
      | none =>
        have hs : stp (D, c) y = none := by
          unfold stp
          rw [if_neg hb, en]
        rw [hs] at h
        cases h
      | some n =>
        by_cases w : low c ≤ n ∧ n ≤ 20000
        · have hs : stp (D, c) y = some (D, c ++ [n]) := by
            unfold stp
            rw [if_neg hb, en]
            exact if_pos w
          rw [hs] at h
          obtain ⟨l, r, rfl, rfl, k1, k2, k3, k4⟩ := rd_back ys D (c ++ [n]) (i + 1) ps h (pw_of_low h1 w.1) (fun m hm => by
            rcases List.mem_append.mp hm with z | z
            · exact h2 m z
            · rw [List.mem_singleton.mp z]; exact w.2)
          refine ⟨n :: l, r, by simp, by rw [MN.num_text en]; rfl, by simp, by simpa using k2, by simpa using k3, k4⟩
        · have hs : stp (D, c) y = none := by
            unfold stp
            rw [if_neg hb, en]
            exact if_neg w
          rw [hs] at h
          cases h
theorem bars_len : ∀ r : List (List Nat), (r.map fun l => l.length).sum + r.length = (bars r).length ∧ ∀ m ∈ r, m.length ≤ (bars r).length
  | [] => ⟨rfl, fun m hm => by cases hm⟩
  | l :: r => by
    obtain ⟨a, b⟩ := bars_len r
    have e : (bars (l :: r)).length = l.length + (bars r).length + 1 := by
      rw [bars, List.length_cons, List.length_append, List.length_map]
    rw [e, List.length_cons, List.map_cons, List.sum_cons]
    refine ⟨by omega, fun m hm => ?_⟩
    rcases List.mem_cons.mp hm with rfl | hm
    · omega
    · have := b m hm
      omega
/-- what was read is what was written -/
theorem read_back {z : Str} {ps : List (List Nat)} (h : readP (Txt.split z " ") = .inr ps) : phTxt ps = z ∧ PsOk (z.length + 2) ps := by
  have many := split_many z
  have jz := MN.join_split z
  generalize Txt.split z " " = ys at *
  unfold readP at h
  by_cases e : ys.head? = some "-"
  · rw [if_pos e] at h
    by_cases l1 : ys.length ≤ 1
    · rw [if_pos l1] at h
      obtain rfl := Sum.inr.inj h
      refine ⟨?_, Nat.zero_le _, fun l hl => by cases hl⟩
      cases ys with
      | nil => cases e
      | cons a r =>
        cases r with
        | nil =>
          rw [← jz, Option.some.inj e, join1]
          rfl
        | cons _ _ => simp at l1
    · rw [if_neg l1] at h
      cases h
  · rw [if_neg e] at h
    obtain ⟨l, r, rfl, rfl, k1, k2, k3, k4⟩ := rd_back ys [] [] 0 ps h (by simp) (fun n hn => by cases hn)
    rw [List.nil_append] at *
    obtain ⟨b1, b2⟩ := bars_len r
    rw [List.length_append, List.length_map] at many
    refine ⟨?_, ?_, fun m hm => ?_⟩
    · rw [← jz, bars_txt r l k1 fun m hm => (k4 m hm).1]
      unfold phTxt
      rw [if_neg (by simp)]
      rfl
    · show ((l :: r).map fun l => l.length).sum + (l :: r).length ≤ _
      rw [List.map_cons, List.sum_cons, List.length_cons]
      omega
    · rcases List.mem_cons.mp hm with rfl | hm
      · exact ⟨k1, k2, by omega, k3⟩
      · obtain ⟨a1, a2, a3⟩ := k4 m hm
        have := b2 m hm
        exact ⟨a1, a2, by omega, a3⟩
theorem ds_nosp (n : Nat) : 32 ∉ (ds n).cps.toList := fun z => by
  have := MT.digs_all (MN.toD_dig n) 32 (by rw [← MN.cs_ds]; exact z)
  omega
theorem bars_nosp : ∀ (r : List (List Nat)) (y : Str), y ∈ bars r → 32 ∉ y.cps.toList
  | [], _, h => by cases h
  | l :: r, y, h => by
    rw [bars] at h
    rcases List.mem_cons.mp h with rfl | h
    · decide +kernel
    · rcases List.mem_append.mp h with h | h
      · obtain ⟨n, _, rfl⟩ := List.mem_map.mp h
        exact ds_nosp n
      · exact bars_nosp r y h
theorem items_split {ls : List (List Nat)} (h : ∀ l ∈ ls, l ≠ []) : Txt.split (Txt.join " " (itemsF ls)) " " = itemsF ls := by
  cases ls with
  | nil =>
    rw [items_nil]
    refine TL.split_join (s := 32) (S := []) (by decide +kernel) (by decide +kernel) (List.cons_ne_nil _ _) fun p hp => ?_
    rw [List.mem_singleton.mp hp]
    decide +kernel
  | cons l r =>
    have hl := h l List.mem_cons_self
    rw [items_cons hl]
    have n1 : l.map ds ≠ [] := fun z => hl (List.map_eq_nil_iff.mp z)
    refine TL.split_join (s := 32) (S := []) (by decide +kernel) (by decide +kernel) (by simp [n1]) fun p hp => ?_
    rcases List.mem_append.mp hp with h | h
    · obtain ⟨n, _, rfl⟩ := List.mem_map.mp h
      exact ds_nosp n
    · exact bars_nosp r p h
/-- how long the items are together -/
def wgt (ys : List Str) : Nat := (ys.map fun y => y.length).sum + ys.length
theorem wgt_cons (y : Str) (r : List Str) : wgt (y :: r) = y.length + 1 + wgt r := by
  unfold wgt
  rw [List.map_cons, List.sum_cons, List.length_cons]
  omega
theorem wgt_app : ∀ l m : List Str, wgt (l ++ m) = wgt l + wgt m
  | [], m => by rw [List.nil_append]; show _ = 0 + _; omega
  | a :: l, m => by rw [List.cons_append, wgt_cons, wgt_cons, wgt_app l m]; omega
theorem wgt_join : ∀ l : List Str, (Txt.join " " l).length ≤ wgt l
  | [] => Nat.le_of_eq (show (Txt.join " " []).length = 0 by decide +kernel)
  | [a] => by
    rw [join1, wgt_cons]
    omega
  | a :: b :: r => by
    have ih := wgt_join (b :: r)
    have e3 : (" " : Str).length = 1 := by decide +kernel
    rw [join2 _ _ (List.cons_ne_nil _ _), wgt_cons, Str.length_append, Str.length_append, e3]
    omega
theorem wgt_ds : ∀ l : List Nat, (∀ n ∈ l, n ≤ 20000) → wgt (l.map ds) ≤ 6 * l.length
  | [], _ => Nat.zero_le _
  | n :: r, h => by
    have ih := wgt_ds r fun m hm => h m (List.mem_cons_of_mem _ hm)
    have := ds_len5 (h n List.mem_cons_self)
    rw [List.map_cons, wgt_cons, List.length_cons]
    omega
theorem wgt_bars : ∀ r : List (List Nat), (∀ l ∈ r, l.length ≤ 6 ∧ ∀ n ∈ l, n ≤ 20000) → wgt (bars r) ≤ 38 * r.length
  | [], _ => Nat.zero_le _
  | l :: r, h => by
    have ih := wgt_bars r fun m hm => h m (List.mem_cons_of_mem _ hm)
    obtain ⟨a, b⟩ := h l List.mem_cons_self
    have := wgt_ds l b
    have e : ("|" : Str).length = 1 := by decide +kernel
    rw [bars, wgt_cons, wgt_app, e, List.length_cons]
    omega
/-- an item that may stand in a bent text -/
def ItOk (y : Str) : Prop := MN.asc y ∧ y.length ≤ 60
theorem ds_ok {n : Nat} (h : n ≤ 20000) : ItOk (ds n) := ⟨MN.asc_ds n, by have := ds_len5 h; omega⟩
theorem bars_ok : ∀ (r : List (List Nat)), (∀ l ∈ r, ∀ n ∈ l, n ≤ 20000) → ∀ y ∈ bars r, ItOk y
  | [], _, _, h => by cases h
  | l :: r, hr, y, h => by
    rw [bars] at h
    rcases List.mem_cons.mp h with rfl | h
    · exact ⟨bar_asc, by decide +kernel⟩
    · rcases List.mem_append.mp h with h | h
      · obtain ⟨n, hn, rfl⟩ := List.mem_map.mp h
        exact ds_ok (hr l List.mem_cons_self n hn)
      · exact bars_ok r (fun m hm => hr m (List.mem_cons_of_mem _ hm)) y h
theorem dash_ok : ItOk "-" := ⟨fun c hc => (show ∀ c ∈ MT.cs ("-" : Str), c < 256 by decide +kernel) c hc, by decide +kernel⟩
theorem items_ok {ls : List (List Nat)} (h : LsOk ls) (h5 : ls.length ≤ 5) : (∀ y ∈ itemsF ls, ItOk y) ∧ wgt (itemsF ls) ≤ 200 ∧ itemsF ls ≠ [] := by
  cases ls with
  | nil =>
    rw [items_nil]
    refine ⟨fun y hy => ?_, by decide +kernel, List.cons_ne_nil _ _⟩
    rw [List.mem_singleton.mp hy]
    exact dash_ok
  | cons l r =>
    obtain ⟨a1, a2, a3, a4⟩ := h l List.mem_cons_self
    rw [items_cons a1]
    have b1 := wgt_ds l a4
    have b2 := wgt_bars r fun m hm => ⟨(h m (List.mem_cons_of_mem _ hm)).2.2.1, (h m (List.mem_cons_of_mem _ hm)).2.2.2⟩
    have n1 : l.map ds ≠ [] := fun z => a1 (List.map_eq_nil_iff.mp z)
    rw [List.length_cons] at h5
    refine ⟨fun y hy => ?_, by rw [wgt_app]; omega, by simp [n1]⟩
    rcases List.mem_append.mp hy with z | z
    · obtain ⟨n, hn, rfl⟩ := List.mem_map.mp z
      exact ds_ok (a4 n hn)
    · exact bars_ok r (fun m hm => (h m (List.mem_cons_of_mem _ hm)).2.2.2) y z
end K46
namespace K46
open PySem PySem.Spec PyProof.Rows L2 OB SkE LamX
/-- what stands but for the draws' own list -/
structure Bt (p : Addr) (H0 H : Hp) : Prop where
  b : But p H0 H
theorem Bt.same {p : Addr} {H0 H H' : Hp} (t : Bt p H0 H) (s : Same H H') : Bt p H0 H' := ⟨t.b.trans (But.of s)⟩
theorem Bt.but {p : Addr} {H0 H H' : Hp} {xs : List V} (t : Bt p H0 H) (s : But p H H') (_ : H p = some (.lst xs)) : Bt p H0 H' := ⟨t.b.trans s⟩
theorem Mid.none {p b n : Addr} {H : Hp} (O : Orch H p b n) : Mid [] p b n H := ⟨O, fun x hx => absurd hx List.not_mem_nil⟩
theorem cut_to (xs : List V) (i : Nat) : cutV xs none (some (i : Int)) = xs.take i := by
  unfold cutV
  have a : HT.sIx xs.length 0 none = 0 := rfl
  have e : HT.sIx xs.length xs.length (some (i : Int)) = min i xs.length := HT.sIx_nat _ _ i
  rw [a, e, List.drop_zero, Nat.sub_zero]
  by_cases h : i ≤ xs.length
  · rw [Nat.min_eq_left h]
  · rw [Nat.min_eq_right (by omega), List.take_length, List.take_of_length_le (by omega)]
theorem cut_from (xs : List V) (i : Nat) : cutV xs (some (i : Int)) none = xs.drop i := by
  unfold cutV
  have a : HT.sIx xs.length xs.length none = xs.length := rfl
  have e : HT.sIx xs.length 0 (some (i : Int)) = min i xs.length := HT.sIx_nat _ _ i
  rw [a, e]
  by_cases h : i ≤ xs.length
  · rw [Nat.min_eq_left h, List.take_of_length_le (by rw [List.length_drop]; exact Nat.le_refl _)]
  · rw [Nat.min_eq_right (by omega), List.drop_length, List.take_nil, List.drop_of_length_le (by omega)]
theorem cut_from1 (xs : List V) (i : Nat) : cutV xs (some ((i : Int) + 1)) none = xs.drop (i + 1) := cut_from xs (i + 1)
theorem cut_from2 (xs : List V) (i : Nat) : cutV xs (some ((i : Int) + 2)) none = xs.drop (i + 2) := cut_from xs (i + 2)
theorem cut_mid2 {xs : List V} {i : Nat} (h : i ≤ xs.length) : cutV xs (some (i : Int)) (some ((i : Int) + 2)) = (xs.drop i).take 2 := by
  unfold cutV
  have a : HT.sIx xs.length 0 (some (i : Int)) = min i xs.length := HT.sIx_nat _ _ i
  have e : HT.sIx xs.length xs.length (some ((i : Int) + 2)) = min (i + 2) xs.length := HT.sIx_nat _ _ (i + 2)
  rw [a, e, Nat.min_eq_left h]
  by_cases h2 : i + 2 ≤ xs.length
  · rw [Nat.min_eq_left h2, show i + 2 - i = 2 by omega]
  · rw [Nat.min_eq_right (by omega), List.take_of_length_le (by rw [List.length_drop]; exact Nat.le_refl _), List.take_of_length_le (by rw [List.length_drop]; omega)]
theorem wgt_two (ys : List Str) (k : Nat) : wgt (ys.take k) + wgt (ys.drop k) = wgt ys := by
  rw [← wgt_app, List.take_append_drop]
theorem wgt_drop (ys : List Str) (k : Nat) : wgt (ys.drop (k + 1)) ≤ wgt (ys.drop k) := by
  have := wgt_two (ys.drop k) 1
  rw [List.drop_drop] at this
  omega
theorem wgt_mid (ys : List Str) (k : Nat) : wgt (ys.take k) + wgt (((ys.drop k).take 2).reverse) + wgt (ys.drop (k + 2)) = wgt ys := by
  have e := wgt_two (ys.drop k) 2
  rw [List.drop_drop] at e
  have e2 := wgt_two ys k
  have e3 : wgt (((ys.drop k).take 2).reverse) = wgt ((ys.drop k).take 2) := by
    unfold wgt
    rw [List.map_reverse, List.sum_reverse, List.length_reverse]
  omega
theorem lit60 {s : Str} (h : (MT.cs s).all (fun c => decide (c < 256)) = true) (h2 : s.length ≤ 60) : ItOk s := ⟨fun c hc => of_decide_eq_true (List.all_eq_true.mp h c hc), h2⟩
def spBent : Sp := fun vs H Q _ => ∃ (p b n q : Nat) (ys : List Str), vs = [.ref p, .ref q] ∧ Orch H p b n ∧ n + 6 < 1000000 ∧ q ≠ p ∧ H q = some (.lst (ys.map V.str)) ∧ wgt ys ≤ 300 ∧ (∀ y ∈ ys, ItOk y) ∧
  ∀ (l : Addr) (zs : List Str) (H' : Hp), l ≠ p → H' l = some (.lst (zs.map V.str)) → Orch H' p b (n + 6) → But p H H' → (∀ y ∈ zs, ItOk y) → wgt zs ≤ wgt ys + 61 → Q (.ref l) H'
section
variable {P : Program} {w : World} {K : PySem.W.Frag} {mg : Str → Option Value} {base : Heap}
theorem sc__law_bent : FnScope ["quarry", "items", "at", "way", "some", "new"] ["quarry", "items"] (defScope s__law_bent) := ⟨rfl, rfl, rfl, by decide +kernel, rfl, by decide +kernel, by decide +kernel⟩
abbrev N__law_bent : List Str := ["quarry", "items", "at", "way", "some", "new"]
theorem ok__law_bent {f f1 f2 : Addr} {fd fd1 fd2 : FuncData} (F : Fun K "_law_bent" "_law_bent" s__law_bent f fd) (T : Blt mg) (D__law_chip : Df K mg "_law_chip" s__law_chip ["quarry", "many"] f1 fd1) (D__law_pick : Df K mg "_law_pick" s__law_pick ["quarry", "some"] f2 fd2) : FnOk P w K mg base CX0 3 f fd ["quarry", "items"] spBent := by
  have G__law_chip : FnOk P w K mg base CX0 1 f1 fd1 ["quarry", "many"] spDraw := ok__law_chip D__law_chip.F T
  have G__law_pick : FnOk P w K mg base CX0 2 f2 fd2 ["quarry", "some"] spOne := ok__law_pick D__law_pick.F T D__law_chip
  refine F.ok sc__law_bent (fun vs H Q E h => ?_) (fun cdv A outer s H vs Q E hr h => ?_)
  · obtain ⟨p, b, n, q, ys, rfl, _⟩ := h
    rfl
  · obtain ⟨p, b, n, it, ys, rfl, O, hn, np_it, g_it, wy, oy, k⟩ := h
    refine ⟨_, (pss_cons (ps_par (i := 2) (j := 3) (by rfl) sc__law_bent.nd rfl rfl (by decide) rfl rfl (pa_cons (pe_call G__law_chip (hr.mono (by decide)) (by rfl) D__law_chip.g D__law_chip.F.kp D__law_chip.b .nil pass0 (pa_cons (pv 0) (pa_cons (pe_op op_add (pe_callB call_len_seq (by rfl) T.n_len (by decide +kernel) (pa_cons (pv 1) pa_nil)) pe_int) pa_nil))) (pa_cons (pe_call G__law_chip (hr.mono (by decide)) (by rfl) D__law_chip.g D__law_chip.F.kp D__law_chip.b .nil pass0 (pa_cons (pv 0) (pa_cons pe_int pa_nil))) pa_nil)) (by rfl))
  (pss_cons (ps_set (i := 4) sc__law_bent.nd rfl (Or.inl rfl) (pe_lst (pa_cons pe_str (pa_cons pe_str (pa_cons pe_str (pa_cons pe_str (pa_cons pe_str (pa_cons pe_str (pa_cons pe_str (pa_cons pe_str (pa_cons pe_str (pa_cons pe_str (pa_cons pe_str (pa_cons pe_str (pa_cons pe_str (pa_cons pe_str (pa_cons pe_str (pa_cons (pe_op op_mulS pe_str pe_int) pa_nil))))))))))))))))))
  (pss_cons (ps_set (i := 5) sc__law_bent.nd rfl (Or.inl rfl) (pe_call G__law_pick (hr.mono (by decide)) (by rfl) D__law_pick.g D__law_pick.F.kp D__law_pick.b .nil pass0 (pa_cons (pv 0) (pa_cons (pe_op op_cat (pv 4) (pe_lst (pa_cons (pe_ix ix_list (pe_op op_cat (pv 1) (pe_lst (pa_cons pe_str pa_nil))) (pe_call G__law_chip (hr.mono (by decide)) (by rfl) D__law_chip.g D__law_chip.F.kp D__law_chip.b .nil pass0 (pa_cons (pv 0) (pa_cons (pe_op op_add (pe_callB call_len_seq (by rfl) T.n_len (by decide +kernel) (pa_cons (pv 1) pa_nil)) pe_int) pa_nil))) (fun _ _ => rfl)) (pa_cons (pe_callTy call_str_int (by rfl) T.n_str (by decide +kernel) (pa_cons (pe_call G__law_chip (hr.mono (by decide)) (by rfl) D__law_chip.g D__law_chip.F.kp D__law_chip.b .nil pass0 (pa_cons (pv 0) (pa_cons pe_int pa_nil))) pa_nil)) pa_nil)))) pa_nil))))
  (pss_cons (ps_if (pt_cmpR op_lt (pv 3) pe_int (nomark _)) (pss_one (ps_ret (pe_op op_cat (pe_op op_cat (pe_slice sl_list (pv 1) po_none (po_some (pv 2))) (pe_lst (pa_cons (pv 5) pa_nil))) (pe_slice sl_list (pv 1) (po_some (pe_op op_add (pv 2) pe_int)) po_none)))) pss_nil)
  (pss_cons (ps_if (pt_cmpR op_eq (pv 3) pe_int (nomark _)) (pss_one (ps_ret (pe_op op_cat (pe_op op_cat (pe_slice sl_list (pv 1) po_none (po_some (pv 2))) (pe_lst (pa_cons (pv 5) pa_nil))) (pe_slice sl_list (pv 1) (po_some (pv 2)) po_none)))) pss_nil)
  (pss_cons (ps_if (pt_cmpR op_eq (pv 3) pe_int (nomark _)) (pss_one (ps_ret (pe_op op_cat (pe_slice sl_list (pv 1) po_none (po_some (pv 2))) (pe_slice sl_list (pv 1) (po_some (pe_op op_add (pv 2) pe_int)) po_none)))) pss_nil)
  (pss_one (ps_ret (pe_ifExp (pt_cmpR op_eq (pv 3) pe_int (nomark _)) (pe_op op_cat (pe_op op_cat (pe_slice sl_list (pv 1) po_none (po_some (pv 2))) (pe_revL (pe_slice sl_list (pv 1) (po_some (pv 2)) (po_some (pe_op op_add (pv 2) pe_int))))) (pe_slice sl_list (pv 1) (po_some (pe_op op_add (pv 2) pe_int)) po_none)) (pe_op op_cat (pv 1) (pe_lst (pa_cons (pv 5) pa_nil)))))))))))), ?_⟩
    have M := Mid.none O
    have bt : Bt p H H := ⟨But.of (.refl _)⟩
    have ly : ys.length ≤ 300 := by unfold wgt at wy; omega
    have ln : (ys.map V.str).length = ys.length := List.length_map _
    have sq0 : SqL K H it (ys.map V.str) ∨ SqT K H it (ys.map V.str) := .inl (SqL.of g_it)

    repeat (first | (with_reducible refine st_tC ?_) | (with_reducible refine st_tOp ?_) | ((with_reducible apply st_n); rfl; rfl; (first | trivial | (show _ ≤ _; omega) | (show _ < _; omega) | (show _ ∨ _; omega) | assumption | exact ⟨by assumption, by omega⟩ | exact ⟨W30.one, by omega⟩ | fail); rfl) | (with_reducible refine st_i0 rfl rfl rfl ?_) | ((with_reducible refine st_i rfl rfl ?_ rfl ?_); first | omega | exact ⟨by decide, by decide, by decide⟩ | exact .inl ⟨by decide, by decide⟩ | exact .inl ⟨by omega, by omega⟩ | exact .inr ⟨by omega, by omega⟩ | fail) | ((fail_if_success refine Exists.intro (α := Nat → Nat → L2.St → Hp → Prop) ?_ ?_); (fail_if_success refine Exists.intro (α := L2.St → Hp → Prop) ?_ ?_); (fail_if_success refine Exists.intro (α := Nat → L2.St → Hp → Prop) ?_ ?_); apply Exists.intro) | ((refine And.intro ?_ ?_); first | with_reducible rfl | with_reducible assumption | rfl | ((with_reducible apply SqL.of); assumption) | ((with_reducible apply SqT.of); assumption) | ((with_reducible apply OwnC.cl); assumption) | (with_reducible exact isI_int _) | exact within_args | (with_reducible exact upd_same) | ((with_reducible apply Mid.o); assumption) | ((with_reducible apply Mid.t); assumption) | exact .inl ⟨rfl, _, SqL.of (by assumption)⟩ | (with_reducible exact ⟨_, SqT.of (by assumption)⟩) | (with_reducible exact ⟨_, SqL.of (by assumption)⟩) | omega | exact Nat.le_of_ble_eq_true rfl | exact nat9 (by omega) | exact ⟨_, rfl⟩ | (show _ ≤ sizeLine; decide) | exact ⟨by decide, by decide, by decide⟩ | exact .inl ⟨by decide, by decide⟩ | exact .inl ⟨by omega, by omega⟩ | exact .inr ⟨by omega, by omega⟩ | assumption | fail) | ((with_reducible refine iteF' ?_ ?_); first | rfl | exact decide_eq_false (by omega) | exact in_no (by omega) (by omega) | exact in_no (by omega) (by assumption) | (simp <;> fail) | fail) | ((with_reducible refine iteT' ?_ ?_); first | rfl | exact decide_eq_true (by omega) | (simp <;> fail) | fail))
    intro at' H1 at'0 at'1 O_at' B_at'; obtain ⟨_, _, _, hpX, _⟩ := id M.o; replace bt := bt.but B_at' hpX; replace g_it := B_at' _ _ g_it np_it; replace M := M.draw O_at' B_at'; obtain ⟨at', rfl⟩ := Int.eq_ofNat_of_zero_le at'0; clear O_at' B_at'
    repeat (first | (with_reducible refine st_tC ?_) | (with_reducible refine st_tOp ?_) | ((with_reducible apply st_n); rfl; rfl; (first | trivial | (show _ ≤ _; omega) | (show _ < _; omega) | (show _ ∨ _; omega) | assumption | exact ⟨by assumption, by omega⟩ | exact ⟨W30.one, by omega⟩ | fail); rfl) | (with_reducible refine st_i0 rfl rfl rfl ?_) | ((with_reducible refine st_i rfl rfl ?_ rfl ?_); first | omega | exact ⟨by decide, by decide, by decide⟩ | exact .inl ⟨by decide, by decide⟩ | exact .inl ⟨by omega, by omega⟩ | exact .inr ⟨by omega, by omega⟩ | fail) | ((fail_if_success refine Exists.intro (α := Nat → Nat → L2.St → Hp → Prop) ?_ ?_); (fail_if_success refine Exists.intro (α := L2.St → Hp → Prop) ?_ ?_); (fail_if_success refine Exists.intro (α := Nat → L2.St → Hp → Prop) ?_ ?_); apply Exists.intro) | ((refine And.intro ?_ ?_); first | with_reducible rfl | with_reducible assumption | rfl | ((with_reducible apply SqL.of); assumption) | ((with_reducible apply SqT.of); assumption) | ((with_reducible apply OwnC.cl); assumption) | (with_reducible exact isI_int _) | exact within_args | (with_reducible exact upd_same) | ((with_reducible apply Mid.o); assumption) | ((with_reducible apply Mid.t); assumption) | exact .inl ⟨rfl, _, SqL.of (by assumption)⟩ | (with_reducible exact ⟨_, SqT.of (by assumption)⟩) | (with_reducible exact ⟨_, SqL.of (by assumption)⟩) | omega | exact Nat.le_of_ble_eq_true rfl | exact nat9 (by omega) | exact ⟨_, rfl⟩ | (show _ ≤ sizeLine; decide) | exact ⟨by decide, by decide, by decide⟩ | exact .inl ⟨by decide, by decide⟩ | exact .inl ⟨by omega, by omega⟩ | exact .inr ⟨by omega, by omega⟩ | assumption | fail) | ((with_reducible refine iteF' ?_ ?_); first | rfl | exact decide_eq_false (by omega) | exact in_no (by omega) (by omega) | exact in_no (by omega) (by assumption) | (simp <;> fail) | fail) | ((with_reducible refine iteT' ?_ ?_); first | rfl | exact decide_eq_true (by omega) | (simp <;> fail) | fail))
    intro way H2 way0 way1 O_way B_way; obtain ⟨_, _, _, hpX, _⟩ := id M.o; replace bt := bt.but B_way hpX; replace g_it := B_way _ _ g_it np_it; replace M := M.draw O_way B_way; obtain ⟨way, rfl⟩ := Int.eq_ofNat_of_zero_le way0; clear O_way B_way
    repeat (first | (refine ⟨"9", 60, rfl, rfl, by decide +kernel, by decide, fun N0 hN0 => ?_⟩) | (with_reducible refine st_tC ?_) | (with_reducible refine st_tOp ?_) | ((with_reducible apply st_n); rfl; rfl; (first | trivial | (show _ ≤ _; omega) | (show _ < _; omega) | (show _ ∨ _; omega) | assumption | exact ⟨by assumption, by omega⟩ | exact ⟨W30.one, by omega⟩ | fail); rfl) | (with_reducible refine st_i0 rfl rfl rfl ?_) | ((with_reducible refine st_i rfl rfl ?_ rfl ?_); first | omega | exact ⟨by decide, by decide, by decide⟩ | exact .inl ⟨by decide, by decide⟩ | exact .inl ⟨by omega, by omega⟩ | exact .inr ⟨by omega, by omega⟩ | fail) | ((fail_if_success refine Exists.intro (α := Nat → Nat → L2.St → Hp → Prop) ?_ ?_); (fail_if_success refine Exists.intro (α := L2.St → Hp → Prop) ?_ ?_); (fail_if_success refine Exists.intro (α := Nat → L2.St → Hp → Prop) ?_ ?_); apply Exists.intro) | ((refine And.intro ?_ ?_); first | with_reducible rfl | with_reducible assumption | rfl | ((with_reducible apply SqL.of); assumption) | ((with_reducible apply SqT.of); assumption) | ((with_reducible apply OwnC.cl); assumption) | (with_reducible exact isI_int _) | exact within_args | (with_reducible exact upd_same) | ((with_reducible apply Mid.o); assumption) | ((with_reducible apply Mid.t); assumption) | exact .inl ⟨rfl, _, SqL.of (by assumption)⟩ | (with_reducible exact ⟨_, SqT.of (by assumption)⟩) | (with_reducible exact ⟨_, SqL.of (by assumption)⟩) | omega | exact Nat.le_of_ble_eq_true rfl | exact nat9 (by omega) | exact ⟨_, rfl⟩ | (show _ ≤ sizeLine; decide) | exact ⟨by decide, by decide, by decide⟩ | exact .inl ⟨by decide, by decide⟩ | exact .inl ⟨by omega, by omega⟩ | exact .inr ⟨by omega, by omega⟩ | assumption | fail) | ((with_reducible refine iteF' ?_ ?_); first | rfl | exact decide_eq_false (by omega) | exact in_no (by omega) (by omega) | exact in_no (by omega) (by assumption) | (simp <;> fail) | fail) | ((with_reducible refine iteT' ?_ ?_); first | rfl | exact decide_eq_true (by omega) | (simp <;> fail) | fail))
    intro so h_so; have np_so := M.pD h_so; have nb_so := M.bD h_so; generalize hE : upd _ so _ = H3; obtain ⟨S_so, g_so⟩ := new_facts h_so hE; clear hE; replace M := M.same S_so; replace bt := bt.same S_so; replace g_it := S_so _ _ g_it
    repeat (first | (with_reducible refine st_tC ?_) | (with_reducible refine st_tOp ?_) | ((with_reducible apply st_n); rfl; rfl; (first | trivial | (show _ ≤ _; omega) | (show _ < _; omega) | (show _ ∨ _; omega) | assumption | exact ⟨by assumption, by omega⟩ | exact ⟨W30.one, by omega⟩ | fail); rfl) | (with_reducible refine st_i0 rfl rfl rfl ?_) | ((with_reducible refine st_i rfl rfl ?_ rfl ?_); first | omega | exact ⟨by decide, by decide, by decide⟩ | exact .inl ⟨by decide, by decide⟩ | exact .inl ⟨by omega, by omega⟩ | exact .inr ⟨by omega, by omega⟩ | fail) | ((fail_if_success refine Exists.intro (α := Nat → Nat → L2.St → Hp → Prop) ?_ ?_); (fail_if_success refine Exists.intro (α := L2.St → Hp → Prop) ?_ ?_); (fail_if_success refine Exists.intro (α := Nat → L2.St → Hp → Prop) ?_ ?_); apply Exists.intro) | ((refine And.intro ?_ ?_); first | with_reducible rfl | with_reducible assumption | rfl | ((with_reducible apply SqL.of); assumption) | ((with_reducible apply SqT.of); assumption) | ((with_reducible apply OwnC.cl); assumption) | (with_reducible exact isI_int _) | exact within_args | (with_reducible exact upd_same) | ((with_reducible apply Mid.o); assumption) | ((with_reducible apply Mid.t); assumption) | exact .inl ⟨rfl, _, SqL.of (by assumption)⟩ | (with_reducible exact ⟨_, SqT.of (by assumption)⟩) | (with_reducible exact ⟨_, SqL.of (by assumption)⟩) | omega | exact Nat.le_of_ble_eq_true rfl | exact nat9 (by omega) | exact ⟨_, rfl⟩ | (show _ ≤ sizeLine; decide) | exact ⟨by decide, by decide, by decide⟩ | exact .inl ⟨by decide, by decide⟩ | exact .inl ⟨by omega, by omega⟩ | exact .inr ⟨by omega, by omega⟩ | assumption | fail) | ((with_reducible refine iteF' ?_ ?_); first | rfl | exact decide_eq_false (by omega) | exact in_no (by omega) (by omega) | exact in_no (by omega) (by assumption) | (simp <;> fail) | fail) | ((with_reducible refine iteT' ?_ ?_); first | rfl | exact decide_eq_true (by omega) | (simp <;> fail) | fail))
    intro l2 h_l2; have np_l2 := M.pD h_l2; have nb_l2 := M.bD h_l2; generalize hE : upd _ l2 _ = H4; obtain ⟨S_l2, g_l2⟩ := new_facts h_l2 hE; clear hE; replace M := M.same S_l2; replace bt := bt.same S_l2; replace g_it := S_l2 _ _ g_it; replace g_so := S_l2 _ _ g_so
    repeat (first | (with_reducible refine st_tC ?_) | (with_reducible refine st_tOp ?_) | ((with_reducible apply st_n); rfl; rfl; (first | trivial | (show _ ≤ _; omega) | (show _ < _; omega) | (show _ ∨ _; omega) | assumption | exact ⟨by assumption, by omega⟩ | exact ⟨W30.one, by omega⟩ | fail); rfl) | (with_reducible refine st_i0 rfl rfl rfl ?_) | ((with_reducible refine st_i rfl rfl ?_ rfl ?_); first | omega | exact ⟨by decide, by decide, by decide⟩ | exact .inl ⟨by decide, by decide⟩ | exact .inl ⟨by omega, by omega⟩ | exact .inr ⟨by omega, by omega⟩ | fail) | ((fail_if_success refine Exists.intro (α := Nat → Nat → L2.St → Hp → Prop) ?_ ?_); (fail_if_success refine Exists.intro (α := L2.St → Hp → Prop) ?_ ?_); (fail_if_success refine Exists.intro (α := Nat → L2.St → Hp → Prop) ?_ ?_); apply Exists.intro) | ((refine And.intro ?_ ?_); first | with_reducible rfl | with_reducible assumption | rfl | ((with_reducible apply SqL.of); assumption) | ((with_reducible apply SqT.of); assumption) | ((with_reducible apply OwnC.cl); assumption) | (with_reducible exact isI_int _) | exact within_args | (with_reducible exact upd_same) | ((with_reducible apply Mid.o); assumption) | ((with_reducible apply Mid.t); assumption) | exact .inl ⟨rfl, _, SqL.of (by assumption)⟩ | (with_reducible exact ⟨_, SqT.of (by assumption)⟩) | (with_reducible exact ⟨_, SqL.of (by assumption)⟩) | omega | exact Nat.le_of_ble_eq_true rfl | exact nat9 (by omega) | exact ⟨_, rfl⟩ | (show _ ≤ sizeLine; decide) | exact ⟨by decide, by decide, by decide⟩ | exact .inl ⟨by decide, by decide⟩ | exact .inl ⟨by omega, by omega⟩ | exact .inr ⟨by omega, by omega⟩ | assumption | fail) | ((with_reducible refine iteF' ?_ ?_); first | rfl | exact decide_eq_false (by omega) | exact in_no (by omega) (by omega) | exact in_no (by omega) (by assumption) | (simp <;> fail) | fail) | ((with_reducible refine iteT' ?_ ?_); first | rfl | exact decide_eq_true (by omega) | (simp <;> fail) | fail))
    refine ⟨by simp only [List.length_map, List.length_append, List.length_take, List.length_drop, List.length_cons, List.length_nil, List.length_reverse]; rw [sizeLine_eq]; omega, ?_⟩
    intro l3 h_l3; have np_l3 := M.pD h_l3; have nb_l3 := M.bD h_l3; generalize hE : upd _ l3 _ = H5; obtain ⟨S_l3, g_l3⟩ := new_facts h_l3 hE; clear hE; replace M := M.same S_l3; replace bt := bt.same S_l3; replace g_it := S_l3 _ _ g_it; replace g_so := S_l3 _ _ g_so
    have sq5 : SqL K H5 it (ys.map V.str) ∨ SqT K H5 it (ys.map V.str) := .inl (SqL.of g_it)
    repeat (first | (with_reducible refine st_tC ?_) | (with_reducible refine st_tOp ?_) | ((with_reducible apply st_n); rfl; rfl; (first | trivial | (show _ ≤ _; omega) | (show _ < _; omega) | (show _ ∨ _; omega) | assumption | exact ⟨by assumption, by omega⟩ | exact ⟨W30.one, by omega⟩ | fail); rfl) | (with_reducible refine st_i0 rfl rfl rfl ?_) | ((with_reducible refine st_i rfl rfl ?_ rfl ?_); first | omega | exact ⟨by decide, by decide, by decide⟩ | exact .inl ⟨by decide, by decide⟩ | exact .inl ⟨by omega, by omega⟩ | exact .inr ⟨by omega, by omega⟩ | fail) | ((fail_if_success refine Exists.intro (α := Nat → Nat → L2.St → Hp → Prop) ?_ ?_); (fail_if_success refine Exists.intro (α := L2.St → Hp → Prop) ?_ ?_); (fail_if_success refine Exists.intro (α := Nat → L2.St → Hp → Prop) ?_ ?_); apply Exists.intro) | ((refine And.intro ?_ ?_); first | with_reducible rfl | with_reducible assumption | rfl | ((with_reducible apply SqL.of); assumption) | ((with_reducible apply SqT.of); assumption) | ((with_reducible apply OwnC.cl); assumption) | (with_reducible exact isI_int _) | exact within_args | (with_reducible exact upd_same) | ((with_reducible apply Mid.o); assumption) | ((with_reducible apply Mid.t); assumption) | exact .inl ⟨rfl, _, SqL.of (by assumption)⟩ | (with_reducible exact ⟨_, SqT.of (by assumption)⟩) | (with_reducible exact ⟨_, SqL.of (by assumption)⟩) | omega | exact Nat.le_of_ble_eq_true rfl | exact nat9 (by omega) | exact ⟨_, rfl⟩ | (show _ ≤ sizeLine; decide) | exact ⟨by decide, by decide, by decide⟩ | exact .inl ⟨by decide, by decide⟩ | exact .inl ⟨by omega, by omega⟩ | exact .inr ⟨by omega, by omega⟩ | assumption | fail) | ((with_reducible refine iteF' ?_ ?_); first | rfl | exact decide_eq_false (by omega) | exact in_no (by omega) (by omega) | exact in_no (by omega) (by assumption) | (simp <;> fail) | fail) | ((with_reducible refine iteT' ?_ ?_); first | rfl | exact decide_eq_true (by omega) | (simp <;> fail) | fail))
    intro r3 H6 r30 r31 O_r3 B_r3; obtain ⟨_, _, _, hpX, _⟩ := id M.o; replace bt := bt.but B_r3 hpX; replace g_it := B_r3 _ _ g_it np_it; replace g_so := B_r3 _ _ g_so np_so; replace g_l3 := B_r3 _ _ g_l3 np_l3; replace M := M.draw O_r3 B_r3; obtain ⟨r3, rfl⟩ := Int.eq_ofNat_of_zero_le r30; clear O_r3 B_r3
    obtain ⟨y3, e3, o3⟩ : ∃ y3, atI (ys.map V.str ++ [V.str "2"]) (r3 : Int) = some (.str y3) ∧ ItOk y3 := by
      have e : ys.map V.str ++ [V.str "2"] = (ys ++ [("2" : Str)]).map V.str := by rw [List.map_append]; rfl
      have hl : r3 < (ys ++ [("2" : Str)]).length := by rw [List.length_append]; show _ < _ + 1; omega
      rw [e]
      refine ⟨(ys ++ [("2" : Str)])[r3], atI_nat (by rw [List.getElem?_map, List.getElem?_eq_getElem hl]; rfl), ?_⟩
      rcases List.mem_append.mp (List.getElem_mem hl) with z | z
      · exact oy _ z
      · rw [List.mem_singleton.mp z]
        exact lit60 (by decide +kernel) (by decide +kernel)
    repeat (first | (refine ⟨l3, _, _, _, rfl, rfl, SqL.of g_l3, e3, ?_⟩) | (with_reducible refine st_tC ?_) | (with_reducible refine st_tOp ?_) | ((with_reducible apply st_n); rfl; rfl; (first | trivial | (show _ ≤ _; omega) | (show _ < _; omega) | (show _ ∨ _; omega) | assumption | exact ⟨by assumption, by omega⟩ | exact ⟨W30.one, by omega⟩ | fail); rfl) | (with_reducible refine st_i0 rfl rfl rfl ?_) | ((with_reducible refine st_i rfl rfl ?_ rfl ?_); first | omega | exact ⟨by decide, by decide, by decide⟩ | exact .inl ⟨by decide, by decide⟩ | exact .inl ⟨by omega, by omega⟩ | exact .inr ⟨by omega, by omega⟩ | fail) | ((fail_if_success refine Exists.intro (α := Nat → Nat → L2.St → Hp → Prop) ?_ ?_); (fail_if_success refine Exists.intro (α := L2.St → Hp → Prop) ?_ ?_); (fail_if_success refine Exists.intro (α := Nat → L2.St → Hp → Prop) ?_ ?_); apply Exists.intro) | ((refine And.intro ?_ ?_); first | with_reducible rfl | with_reducible assumption | rfl | ((with_reducible apply SqL.of); assumption) | ((with_reducible apply SqT.of); assumption) | ((with_reducible apply OwnC.cl); assumption) | (with_reducible exact isI_int _) | exact within_args | (with_reducible exact upd_same) | ((with_reducible apply Mid.o); assumption) | ((with_reducible apply Mid.t); assumption) | exact .inl ⟨rfl, _, SqL.of (by assumption)⟩ | (with_reducible exact ⟨_, SqT.of (by assumption)⟩) | (with_reducible exact ⟨_, SqL.of (by assumption)⟩) | omega | exact Nat.le_of_ble_eq_true rfl | exact nat9 (by omega) | exact ⟨_, rfl⟩ | (show _ ≤ sizeLine; decide) | exact ⟨by decide, by decide, by decide⟩ | exact .inl ⟨by decide, by decide⟩ | exact .inl ⟨by omega, by omega⟩ | exact .inr ⟨by omega, by omega⟩ | assumption | fail) | ((with_reducible refine iteF' ?_ ?_); first | rfl | exact decide_eq_false (by omega) | exact in_no (by omega) (by omega) | exact in_no (by omega) (by assumption) | (simp <;> fail) | fail) | ((with_reducible refine iteT' ?_ ?_); first | rfl | exact decide_eq_true (by omega) | (simp <;> fail) | fail))
    intro r4 H7 r40 r41 O_r4 B_r4; obtain ⟨_, _, _, hpX, _⟩ := id M.o; replace bt := bt.but B_r4 hpX; replace g_it := B_r4 _ _ g_it np_it; replace g_so := B_r4 _ _ g_so np_so; replace M := M.draw O_r4 B_r4; obtain ⟨r4, rfl⟩ := Int.eq_ofNat_of_zero_le r40; clear O_r4 B_r4
    have lg : ∀ n : Nat, n < 1000 → ((n : Nat) : Int).natAbs.log2 < 1920 := fun n hn => by
      rw [Int.natAbs_natCast]
      exact Nat.lt_of_le_of_lt (Nat.log2_le_self n) (by omega)
    repeat (first | (with_reducible refine st_tC ?_) | (with_reducible refine st_tOp ?_) | ((with_reducible apply st_n); rfl; rfl; (first | trivial | (show _ ≤ _; omega) | (show _ < _; omega) | (show _ ∨ _; omega) | assumption | exact ⟨by assumption, by omega⟩ | exact ⟨W30.one, by omega⟩ | fail); rfl) | (with_reducible refine st_i0 rfl rfl rfl ?_) | ((with_reducible refine st_i rfl rfl ?_ rfl ?_); first | omega | exact ⟨by decide, by decide, by decide⟩ | exact .inl ⟨by decide, by decide⟩ | exact .inl ⟨by omega, by omega⟩ | exact .inr ⟨by omega, by omega⟩ | fail) | ((fail_if_success refine Exists.intro (α := Nat → Nat → L2.St → Hp → Prop) ?_ ?_); (fail_if_success refine Exists.intro (α := L2.St → Hp → Prop) ?_ ?_); (fail_if_success refine Exists.intro (α := Nat → L2.St → Hp → Prop) ?_ ?_); apply Exists.intro) | ((refine And.intro ?_ ?_); first | with_reducible rfl | with_reducible assumption | rfl | ((with_reducible apply SqL.of); assumption) | ((with_reducible apply SqT.of); assumption) | ((with_reducible apply OwnC.cl); assumption) | (with_reducible exact isI_int _) | exact within_args | (with_reducible exact upd_same) | ((with_reducible apply Mid.o); assumption) | ((with_reducible apply Mid.t); assumption) | exact .inl ⟨rfl, _, SqL.of (by assumption)⟩ | (with_reducible exact ⟨_, SqT.of (by assumption)⟩) | (with_reducible exact ⟨_, SqL.of (by assumption)⟩) | omega | exact Nat.le_of_ble_eq_true rfl | exact nat9 (by omega) | exact ⟨_, rfl⟩ | (show _ ≤ sizeLine; decide) | exact ⟨by decide, by decide, by decide⟩ | exact .inl ⟨by decide, by decide⟩ | exact .inl ⟨by omega, by omega⟩ | exact .inr ⟨by omega, by omega⟩ | assumption | fail) | ((with_reducible refine iteF' ?_ ?_); first | rfl | exact decide_eq_false (by omega) | exact in_no (by omega) (by omega) | exact in_no (by omega) (by assumption) | (simp <;> fail) | fail) | ((with_reducible refine iteT' ?_ ?_); first | rfl | exact decide_eq_true (by omega) | (simp <;> fail) | fail))
    refine ⟨lg _ (by omega), ?_⟩
    repeat (first | (with_reducible refine st_tC ?_) | (with_reducible refine st_tOp ?_) | ((with_reducible apply st_n); rfl; rfl; (first | trivial | (show _ ≤ _; omega) | (show _ < _; omega) | (show _ ∨ _; omega) | assumption | exact ⟨by assumption, by omega⟩ | exact ⟨W30.one, by omega⟩ | fail); rfl) | (with_reducible refine st_i0 rfl rfl rfl ?_) | ((with_reducible refine st_i rfl rfl ?_ rfl ?_); first | omega | exact ⟨by decide, by decide, by decide⟩ | exact .inl ⟨by decide, by decide⟩ | exact .inl ⟨by omega, by omega⟩ | exact .inr ⟨by omega, by omega⟩ | fail) | ((fail_if_success refine Exists.intro (α := Nat → Nat → L2.St → Hp → Prop) ?_ ?_); (fail_if_success refine Exists.intro (α := L2.St → Hp → Prop) ?_ ?_); (fail_if_success refine Exists.intro (α := Nat → L2.St → Hp → Prop) ?_ ?_); apply Exists.intro) | ((refine And.intro ?_ ?_); first | with_reducible rfl | with_reducible assumption | rfl | ((with_reducible apply SqL.of); assumption) | ((with_reducible apply SqT.of); assumption) | ((with_reducible apply OwnC.cl); assumption) | (with_reducible exact isI_int _) | exact within_args | (with_reducible exact upd_same) | ((with_reducible apply Mid.o); assumption) | ((with_reducible apply Mid.t); assumption) | exact .inl ⟨rfl, _, SqL.of (by assumption)⟩ | (with_reducible exact ⟨_, SqT.of (by assumption)⟩) | (with_reducible exact ⟨_, SqL.of (by assumption)⟩) | omega | exact Nat.le_of_ble_eq_true rfl | exact nat9 (by omega) | exact ⟨_, rfl⟩ | (show _ ≤ sizeLine; decide) | exact ⟨by decide, by decide, by decide⟩ | exact .inl ⟨by decide, by decide⟩ | exact .inl ⟨by omega, by omega⟩ | exact .inr ⟨by omega, by omega⟩ | assumption | fail) | ((with_reducible refine iteF' ?_ ?_); first | rfl | exact decide_eq_false (by omega) | exact in_no (by omega) (by omega) | exact in_no (by omega) (by assumption) | (simp <;> fail) | fail) | ((with_reducible refine iteT' ?_ ?_); first | rfl | exact decide_eq_true (by omega) | (simp <;> fail) | fail))
    intro l4 h_l4; have np_l4 := M.pD h_l4; have nb_l4 := M.bD h_l4; generalize hE : upd _ l4 _ = H8; obtain ⟨S_l4, g_l4⟩ := new_facts h_l4 hE; clear hE; replace M := M.same S_l4; replace bt := bt.same S_l4; replace g_it := S_l4 _ _ g_it; replace g_so := S_l4 _ _ g_so
    replace g_l4 : H8 l4 = some (.lst [.str y3, .str (ds r4)]) := g_l4
    have o4 : ItOk (ds r4) := ds_ok (by omega)
    generalize ds r4 = y4 at *
    repeat (first | (with_reducible refine st_tC ?_) | (with_reducible refine st_tOp ?_) | ((with_reducible apply st_n); rfl; rfl; (first | trivial | (show _ ≤ _; omega) | (show _ < _; omega) | (show _ ∨ _; omega) | assumption | exact ⟨by assumption, by omega⟩ | exact ⟨W30.one, by omega⟩ | fail); rfl) | (with_reducible refine st_i0 rfl rfl rfl ?_) | ((with_reducible refine st_i rfl rfl ?_ rfl ?_); first | omega | exact ⟨by decide, by decide, by decide⟩ | exact .inl ⟨by decide, by decide⟩ | exact .inl ⟨by omega, by omega⟩ | exact .inr ⟨by omega, by omega⟩ | fail) | ((fail_if_success refine Exists.intro (α := Nat → Nat → L2.St → Hp → Prop) ?_ ?_); (fail_if_success refine Exists.intro (α := L2.St → Hp → Prop) ?_ ?_); (fail_if_success refine Exists.intro (α := Nat → L2.St → Hp → Prop) ?_ ?_); apply Exists.intro) | ((refine And.intro ?_ ?_); first | with_reducible rfl | with_reducible assumption | rfl | ((with_reducible apply SqL.of); assumption) | ((with_reducible apply SqT.of); assumption) | ((with_reducible apply OwnC.cl); assumption) | (with_reducible exact isI_int _) | exact within_args | (with_reducible exact upd_same) | ((with_reducible apply Mid.o); assumption) | ((with_reducible apply Mid.t); assumption) | exact .inl ⟨rfl, _, SqL.of (by assumption)⟩ | (with_reducible exact ⟨_, SqT.of (by assumption)⟩) | (with_reducible exact ⟨_, SqL.of (by assumption)⟩) | omega | exact Nat.le_of_ble_eq_true rfl | exact nat9 (by omega) | exact ⟨_, rfl⟩ | (show _ ≤ sizeLine; decide) | exact ⟨by decide, by decide, by decide⟩ | exact .inl ⟨by decide, by decide⟩ | exact .inl ⟨by omega, by omega⟩ | exact .inr ⟨by omega, by omega⟩ | assumption | fail) | ((with_reducible refine iteF' ?_ ?_); first | rfl | exact decide_eq_false (by omega) | exact in_no (by omega) (by omega) | exact in_no (by omega) (by assumption) | (simp <;> fail) | fail) | ((with_reducible refine iteT' ?_ ?_); first | rfl | exact decide_eq_true (by omega) | (simp <;> fail) | fail))
    intro l5 h_l5; have np_l5 := M.pD h_l5; have nb_l5 := M.bD h_l5; generalize hE : upd _ l5 _ = H9; obtain ⟨S_l5, g_l5⟩ := new_facts h_l5 hE; clear hE; replace M := M.same S_l5; replace bt := bt.same S_l5; replace g_it := S_l5 _ _ g_it
    repeat (first | (with_reducible refine st_tC ?_) | (with_reducible refine st_tOp ?_) | ((with_reducible apply st_n); rfl; rfl; (first | trivial | (show _ ≤ _; omega) | (show _ < _; omega) | (show _ ∨ _; omega) | assumption | exact ⟨by assumption, by omega⟩ | exact ⟨W30.one, by omega⟩ | fail); rfl) | (with_reducible refine st_i0 rfl rfl rfl ?_) | ((with_reducible refine st_i rfl rfl ?_ rfl ?_); first | omega | exact ⟨by decide, by decide, by decide⟩ | exact .inl ⟨by decide, by decide⟩ | exact .inl ⟨by omega, by omega⟩ | exact .inr ⟨by omega, by omega⟩ | fail) | ((fail_if_success refine Exists.intro (α := Nat → Nat → L2.St → Hp → Prop) ?_ ?_); (fail_if_success refine Exists.intro (α := L2.St → Hp → Prop) ?_ ?_); (fail_if_success refine Exists.intro (α := Nat → L2.St → Hp → Prop) ?_ ?_); apply Exists.intro) | ((refine And.intro ?_ ?_); first | with_reducible rfl | with_reducible assumption | rfl | ((with_reducible apply SqL.of); assumption) | ((with_reducible apply SqT.of); assumption) | ((with_reducible apply OwnC.cl); assumption) | (with_reducible exact isI_int _) | exact within_args | (with_reducible exact upd_same) | ((with_reducible apply Mid.o); assumption) | ((with_reducible apply Mid.t); assumption) | exact .inl ⟨rfl, _, SqL.of (by assumption)⟩ | (with_reducible exact ⟨_, SqT.of (by assumption)⟩) | (with_reducible exact ⟨_, SqL.of (by assumption)⟩) | omega | exact Nat.le_of_ble_eq_true rfl | exact nat9 (by omega) | exact ⟨_, rfl⟩ | (show _ ≤ sizeLine; decide) | exact ⟨by decide, by decide, by decide⟩ | exact .inl ⟨by decide, by decide⟩ | exact .inl ⟨by omega, by omega⟩ | exact .inr ⟨by omega, by omega⟩ | assumption | fail) | ((with_reducible refine iteF' ?_ ?_); first | rfl | exact decide_eq_false (by omega) | exact in_no (by omega) (by omega) | exact in_no (by omega) (by assumption) | (simp <;> fail) | fail) | ((with_reducible refine iteT' ?_ ?_); first | rfl | exact decide_eq_true (by omega) | (simp <;> fail) | fail))
    intro j_new new H10 e_new O_new B_new; obtain ⟨_, _, _, hpX, _⟩ := id M.o; replace bt := bt.but B_new hpX; replace g_it := B_new _ _ g_it np_it; replace M := M.draw O_new B_new; clear O_new B_new
    have o0 : ItOk N0 := by
      rw [hN0]
      exact ⟨MN.mul_asc (lit60 (by decide +kernel) (by decide +kernel)).1, Nat.le_trans (mul_len _ _) (by decide +kernel)⟩
    obtain ⟨o, rfl, oO⟩ : ∃ o, new = V.str o ∧ ItOk o := by
      have m := List.mem_of_getElem? e_new
      simp only [List.cons_append, List.nil_append, List.mem_cons, List.not_mem_nil, or_false] at m
      rcases m with rfl | rfl | rfl | rfl | rfl | rfl | rfl | rfl | rfl | rfl | rfl | rfl | rfl | rfl | rfl | rfl | rfl | rfl
      all_goals first | exact ⟨_, rfl, o0⟩ | exact ⟨_, rfl, o3⟩ | exact ⟨_, rfl, o4⟩ | exact ⟨_, rfl, lit60 (by decide +kernel) (by decide +kernel)⟩
    clear e_new j_new g_l5 S_l5 h_l5 o3 o4 o0 hN0 e3 g_l4 S_l4 h_l4 g_l3 S_l3 h_l3 g_l2 S_l2 h_l2 g_so S_so h_so
    have fin : ∀ (zs : List Str) (l : Addr) (Hn : Hp), l ≠ p → Hn l = some (.lst (zs.map V.str)) → Mid [] p b (n + 5) Hn → Bt p H Hn → (∀ y ∈ zs, y ∈ ys ∨ y = o) → wgt zs ≤ wgt ys + 61 → Q (.ref l) Hn := fun zs l Hn np g M' bt' hz hw =>
      k l zs Hn np g (M'.o.mono (by omega)) bt'.b (fun y hy => by
        rcases hz y hy with z | rfl
        · exact oy y z
        · exact oO) hw
    have mt : ∀ {y : Str} {j : Nat}, y ∈ ys.take j → y ∈ ys := fun {y j} h => List.mem_of_mem_take h
    have md : ∀ {y : Str} {j : Nat}, y ∈ ys.drop j → y ∈ ys := fun {y j} h => List.mem_of_mem_drop h
    have wo : wgt [o] ≤ 61 := by
      have := oO.2
      rw [wgt_cons]
      show o.length + 1 + 0 ≤ 61
      omega
    have w1 := wgt_two ys at'
    have w2 := wgt_drop ys at'
    have w3 := wgt_mid ys at'
    have at8 : at' ≤ (ys.map V.str).length := by omega
    clear k
    have way5 : way < 2 ∨ way = 2 ∨ way = 3 ∨ way = 4 ∨ (way ≠ 2 ∧ way ≠ 3 ∧ way ≠ 4 ∧ 2 ≤ way) := by omega
    rcases way5 with h1 | rfl | rfl | rfl | ⟨n2, n3, n4, n5⟩
    · repeat (first | (with_reducible refine st_tC ?_) | (with_reducible refine st_tOp ?_) | ((with_reducible apply st_n); rfl; rfl; (first | trivial | (show _ ≤ _; omega) | (show _ < _; omega) | (show _ ∨ _; omega) | assumption | exact ⟨by assumption, by omega⟩ | exact ⟨W30.one, by omega⟩ | fail); rfl) | (with_reducible refine st_i0 rfl rfl rfl ?_) | ((with_reducible refine st_i rfl rfl ?_ rfl ?_); first | omega | exact ⟨by decide, by decide, by decide⟩ | exact .inl ⟨by decide, by decide⟩ | exact .inl ⟨by omega, by omega⟩ | exact .inr ⟨by omega, by omega⟩ | fail) | ((fail_if_success refine Exists.intro (α := Nat → Nat → L2.St → Hp → Prop) ?_ ?_); (fail_if_success refine Exists.intro (α := L2.St → Hp → Prop) ?_ ?_); (fail_if_success refine Exists.intro (α := Nat → L2.St → Hp → Prop) ?_ ?_); apply Exists.intro) | ((refine And.intro ?_ ?_); first | with_reducible rfl | with_reducible assumption | rfl | ((with_reducible apply SqL.of); assumption) | ((with_reducible apply SqT.of); assumption) | ((with_reducible apply OwnC.cl); assumption) | (with_reducible exact isI_int _) | exact within_args | (with_reducible exact upd_same) | ((with_reducible apply Mid.o); assumption) | ((with_reducible apply Mid.t); assumption) | exact .inl ⟨rfl, _, SqL.of (by assumption)⟩ | (with_reducible exact ⟨_, SqT.of (by assumption)⟩) | (with_reducible exact ⟨_, SqL.of (by assumption)⟩) | omega | exact Nat.le_of_ble_eq_true rfl | exact nat9 (by omega) | exact ⟨_, rfl⟩ | (show _ ≤ sizeLine; decide) | exact ⟨by decide, by decide, by decide⟩ | exact .inl ⟨by decide, by decide⟩ | exact .inl ⟨by omega, by omega⟩ | exact .inr ⟨by omega, by omega⟩ | assumption | fail) | ((with_reducible refine iteF' ?_ ?_); first | rfl | exact decide_eq_false (by omega) | exact in_no (by omega) (by omega) | exact in_no (by omega) (by assumption) | (simp <;> fail) | fail) | ((with_reducible refine iteT' ?_ ?_); first | rfl | exact decide_eq_true (by omega) | (simp <;> fail) | fail))
      intro x1 h_x1; have np_x1 := M.pD h_x1; have nb_x1 := M.bD h_x1; generalize hE : upd _ x1 _ = Hx0; obtain ⟨S_x1, g_x1⟩ := new_facts h_x1 hE; clear hE; replace M := M.same S_x1; replace bt := bt.same S_x1; replace g_it := S_x1 _ _ g_it
      rw [cut_to, ← List.map_take] at g_x1
      repeat (first | (with_reducible refine st_tC ?_) | (with_reducible refine st_tOp ?_) | ((with_reducible apply st_n); rfl; rfl; (first | trivial | (show _ ≤ _; omega) | (show _ < _; omega) | (show _ ∨ _; omega) | assumption | exact ⟨by assumption, by omega⟩ | exact ⟨W30.one, by omega⟩ | fail); rfl) | (with_reducible refine st_i0 rfl rfl rfl ?_) | ((with_reducible refine st_i rfl rfl ?_ rfl ?_); first | omega | exact ⟨by decide, by decide, by decide⟩ | exact .inl ⟨by decide, by decide⟩ | exact .inl ⟨by omega, by omega⟩ | exact .inr ⟨by omega, by omega⟩ | fail) | ((fail_if_success refine Exists.intro (α := Nat → Nat → L2.St → Hp → Prop) ?_ ?_); (fail_if_success refine Exists.intro (α := L2.St → Hp → Prop) ?_ ?_); (fail_if_success refine Exists.intro (α := Nat → L2.St → Hp → Prop) ?_ ?_); apply Exists.intro) | ((refine And.intro ?_ ?_); first | with_reducible rfl | with_reducible assumption | rfl | ((with_reducible apply SqL.of); assumption) | ((with_reducible apply SqT.of); assumption) | ((with_reducible apply OwnC.cl); assumption) | (with_reducible exact isI_int _) | exact within_args | (with_reducible exact upd_same) | ((with_reducible apply Mid.o); assumption) | ((with_reducible apply Mid.t); assumption) | exact .inl ⟨rfl, _, SqL.of (by assumption)⟩ | (with_reducible exact ⟨_, SqT.of (by assumption)⟩) | (with_reducible exact ⟨_, SqL.of (by assumption)⟩) | omega | exact Nat.le_of_ble_eq_true rfl | exact nat9 (by omega) | exact ⟨_, rfl⟩ | (show _ ≤ sizeLine; decide) | exact ⟨by decide, by decide, by decide⟩ | exact .inl ⟨by decide, by decide⟩ | exact .inl ⟨by omega, by omega⟩ | exact .inr ⟨by omega, by omega⟩ | assumption | fail) | ((with_reducible refine iteF' ?_ ?_); first | rfl | exact decide_eq_false (by omega) | exact in_no (by omega) (by omega) | exact in_no (by omega) (by assumption) | (simp <;> fail) | fail) | ((with_reducible refine iteT' ?_ ?_); first | rfl | exact decide_eq_true (by omega) | (simp <;> fail) | fail))
      intro x2 h_x2; have np_x2 := M.pD h_x2; have nb_x2 := M.bD h_x2; generalize hE : upd _ x2 _ = Hx1; obtain ⟨S_x2, g_x2⟩ := new_facts h_x2 hE; clear hE; replace M := M.same S_x2; replace bt := bt.same S_x2; replace g_it := S_x2 _ _ g_it; replace g_x1 := S_x2 _ _ g_x1
      replace g_x2 : Hx1 x2 = some (.lst (([o] : List Str).map V.str)) := g_x2
      repeat (first | (with_reducible refine st_tC ?_) | (with_reducible refine st_tOp ?_) | ((with_reducible apply st_n); rfl; rfl; (first | trivial | (show _ ≤ _; omega) | (show _ < _; omega) | (show _ ∨ _; omega) | assumption | exact ⟨by assumption, by omega⟩ | exact ⟨W30.one, by omega⟩ | fail); rfl) | (with_reducible refine st_i0 rfl rfl rfl ?_) | ((with_reducible refine st_i rfl rfl ?_ rfl ?_); first | omega | exact ⟨by decide, by decide, by decide⟩ | exact .inl ⟨by decide, by decide⟩ | exact .inl ⟨by omega, by omega⟩ | exact .inr ⟨by omega, by omega⟩ | fail) | ((fail_if_success refine Exists.intro (α := Nat → Nat → L2.St → Hp → Prop) ?_ ?_); (fail_if_success refine Exists.intro (α := L2.St → Hp → Prop) ?_ ?_); (fail_if_success refine Exists.intro (α := Nat → L2.St → Hp → Prop) ?_ ?_); apply Exists.intro) | ((refine And.intro ?_ ?_); first | with_reducible rfl | with_reducible assumption | rfl | ((with_reducible apply SqL.of); assumption) | ((with_reducible apply SqT.of); assumption) | ((with_reducible apply OwnC.cl); assumption) | (with_reducible exact isI_int _) | exact within_args | (with_reducible exact upd_same) | ((with_reducible apply Mid.o); assumption) | ((with_reducible apply Mid.t); assumption) | exact .inl ⟨rfl, _, SqL.of (by assumption)⟩ | (with_reducible exact ⟨_, SqT.of (by assumption)⟩) | (with_reducible exact ⟨_, SqL.of (by assumption)⟩) | omega | exact Nat.le_of_ble_eq_true rfl | exact nat9 (by omega) | exact ⟨_, rfl⟩ | (show _ ≤ sizeLine; decide) | exact ⟨by decide, by decide, by decide⟩ | exact .inl ⟨by decide, by decide⟩ | exact .inl ⟨by omega, by omega⟩ | exact .inr ⟨by omega, by omega⟩ | assumption | fail) | ((with_reducible refine iteF' ?_ ?_); first | rfl | exact decide_eq_false (by omega) | exact in_no (by omega) (by omega) | exact in_no (by omega) (by assumption) | (simp <;> fail) | fail) | ((with_reducible refine iteT' ?_ ?_); first | rfl | exact decide_eq_true (by omega) | (simp <;> fail) | fail))
      refine ⟨by simp only [List.length_map, List.length_append, List.length_take, List.length_drop, List.length_cons, List.length_nil, List.length_reverse]; rw [sizeLine_eq]; omega, ?_⟩
      intro x3 h_x3; have np_x3 := M.pD h_x3; have nb_x3 := M.bD h_x3; generalize hE : upd _ x3 _ = Hx2; obtain ⟨S_x3, g_x3⟩ := new_facts h_x3 hE; clear hE; replace M := M.same S_x3; replace bt := bt.same S_x3; replace g_it := S_x3 _ _ g_it; replace g_x1 := S_x3 _ _ g_x1; replace g_x2 := S_x3 _ _ g_x2
      rw [← List.map_append] at g_x3
      repeat (first | (with_reducible refine st_tC ?_) | (with_reducible refine st_tOp ?_) | ((with_reducible apply st_n); rfl; rfl; (first | trivial | (show _ ≤ _; omega) | (show _ < _; omega) | (show _ ∨ _; omega) | assumption | exact ⟨by assumption, by omega⟩ | exact ⟨W30.one, by omega⟩ | fail); rfl) | (with_reducible refine st_i0 rfl rfl rfl ?_) | ((with_reducible refine st_i rfl rfl ?_ rfl ?_); first | omega | exact ⟨by decide, by decide, by decide⟩ | exact .inl ⟨by decide, by decide⟩ | exact .inl ⟨by omega, by omega⟩ | exact .inr ⟨by omega, by omega⟩ | fail) | ((fail_if_success refine Exists.intro (α := Nat → Nat → L2.St → Hp → Prop) ?_ ?_); (fail_if_success refine Exists.intro (α := L2.St → Hp → Prop) ?_ ?_); (fail_if_success refine Exists.intro (α := Nat → L2.St → Hp → Prop) ?_ ?_); apply Exists.intro) | ((refine And.intro ?_ ?_); first | with_reducible rfl | with_reducible assumption | rfl | ((with_reducible apply SqL.of); assumption) | ((with_reducible apply SqT.of); assumption) | ((with_reducible apply OwnC.cl); assumption) | (with_reducible exact isI_int _) | exact within_args | (with_reducible exact upd_same) | ((with_reducible apply Mid.o); assumption) | ((with_reducible apply Mid.t); assumption) | exact .inl ⟨rfl, _, SqL.of (by assumption)⟩ | (with_reducible exact ⟨_, SqT.of (by assumption)⟩) | (with_reducible exact ⟨_, SqL.of (by assumption)⟩) | omega | exact Nat.le_of_ble_eq_true rfl | exact nat9 (by omega) | exact ⟨_, rfl⟩ | (show _ ≤ sizeLine; decide) | exact ⟨by decide, by decide, by decide⟩ | exact .inl ⟨by decide, by decide⟩ | exact .inl ⟨by omega, by omega⟩ | exact .inr ⟨by omega, by omega⟩ | assumption | fail) | ((with_reducible refine iteF' ?_ ?_); first | rfl | exact decide_eq_false (by omega) | exact in_no (by omega) (by omega) | exact in_no (by omega) (by assumption) | (simp <;> fail) | fail) | ((with_reducible refine iteT' ?_ ?_); first | rfl | exact decide_eq_true (by omega) | (simp <;> fail) | fail))
      intro x4 h_x4; have np_x4 := M.pD h_x4; have nb_x4 := M.bD h_x4; generalize hE : upd _ x4 _ = Hx3; obtain ⟨S_x4, g_x4⟩ := new_facts h_x4 hE; clear hE; replace M := M.same S_x4; replace bt := bt.same S_x4; replace g_it := S_x4 _ _ g_it; replace g_x1 := S_x4 _ _ g_x1; replace g_x2 := S_x4 _ _ g_x2; replace g_x3 := S_x4 _ _ g_x3
      rw [cut_from1, ← List.map_drop] at g_x4
      repeat (first | (with_reducible refine st_tC ?_) | (with_reducible refine st_tOp ?_) | ((with_reducible apply st_n); rfl; rfl; (first | trivial | (show _ ≤ _; omega) | (show _ < _; omega) | (show _ ∨ _; omega) | assumption | exact ⟨by assumption, by omega⟩ | exact ⟨W30.one, by omega⟩ | fail); rfl) | (with_reducible refine st_i0 rfl rfl rfl ?_) | ((with_reducible refine st_i rfl rfl ?_ rfl ?_); first | omega | exact ⟨by decide, by decide, by decide⟩ | exact .inl ⟨by decide, by decide⟩ | exact .inl ⟨by omega, by omega⟩ | exact .inr ⟨by omega, by omega⟩ | fail) | ((fail_if_success refine Exists.intro (α := Nat → Nat → L2.St → Hp → Prop) ?_ ?_); (fail_if_success refine Exists.intro (α := L2.St → Hp → Prop) ?_ ?_); (fail_if_success refine Exists.intro (α := Nat → L2.St → Hp → Prop) ?_ ?_); apply Exists.intro) | ((refine And.intro ?_ ?_); first | with_reducible rfl | with_reducible assumption | rfl | ((with_reducible apply SqL.of); assumption) | ((with_reducible apply SqT.of); assumption) | ((with_reducible apply OwnC.cl); assumption) | (with_reducible exact isI_int _) | exact within_args | (with_reducible exact upd_same) | ((with_reducible apply Mid.o); assumption) | ((with_reducible apply Mid.t); assumption) | exact .inl ⟨rfl, _, SqL.of (by assumption)⟩ | (with_reducible exact ⟨_, SqT.of (by assumption)⟩) | (with_reducible exact ⟨_, SqL.of (by assumption)⟩) | omega | exact Nat.le_of_ble_eq_true rfl | exact nat9 (by omega) | exact ⟨_, rfl⟩ | (show _ ≤ sizeLine; decide) | exact ⟨by decide, by decide, by decide⟩ | exact .inl ⟨by decide, by decide⟩ | exact .inl ⟨by omega, by omega⟩ | exact .inr ⟨by omega, by omega⟩ | assumption | fail) | ((with_reducible refine iteF' ?_ ?_); first | rfl | exact decide_eq_false (by omega) | exact in_no (by omega) (by omega) | exact in_no (by omega) (by assumption) | (simp <;> fail) | fail) | ((with_reducible refine iteT' ?_ ?_); first | rfl | exact decide_eq_true (by omega) | (simp <;> fail) | fail))
      refine ⟨by simp only [List.length_map, List.length_append, List.length_take, List.length_drop, List.length_cons, List.length_nil, List.length_reverse]; rw [sizeLine_eq]; omega, ?_⟩
      intro x5 h_x5; have np_x5 := M.pD h_x5; have nb_x5 := M.bD h_x5; generalize hE : upd _ x5 _ = Hx4; obtain ⟨S_x5, g_x5⟩ := new_facts h_x5 hE; clear hE; replace M := M.same S_x5; replace bt := bt.same S_x5; replace g_it := S_x5 _ _ g_it; replace g_x1 := S_x5 _ _ g_x1; replace g_x2 := S_x5 _ _ g_x2; replace g_x3 := S_x5 _ _ g_x3; replace g_x4 := S_x5 _ _ g_x4
      rw [← List.map_append] at g_x5
      refine fin (ys.take at' ++ [o] ++ ys.drop (at' + 1)) x5 Hx4 np_x5 g_x5 M bt (fun y hy => ?_) (by simp only [wgt_app]; omega)
      rcases List.mem_append.mp hy with z | z
      · rcases List.mem_append.mp z with z | z
        · exact .inl (mt z)
        · exact .inr (List.mem_singleton.mp z)
      · exact .inl (md z)
    · repeat (first | (with_reducible refine st_tC ?_) | (with_reducible refine st_tOp ?_) | ((with_reducible apply st_n); rfl; rfl; (first | trivial | (show _ ≤ _; omega) | (show _ < _; omega) | (show _ ∨ _; omega) | assumption | exact ⟨by assumption, by omega⟩ | exact ⟨W30.one, by omega⟩ | fail); rfl) | (with_reducible refine st_i0 rfl rfl rfl ?_) | ((with_reducible refine st_i rfl rfl ?_ rfl ?_); first | omega | exact ⟨by decide, by decide, by decide⟩ | exact .inl ⟨by decide, by decide⟩ | exact .inl ⟨by omega, by omega⟩ | exact .inr ⟨by omega, by omega⟩ | fail) | ((fail_if_success refine Exists.intro (α := Nat → Nat → L2.St → Hp → Prop) ?_ ?_); (fail_if_success refine Exists.intro (α := L2.St → Hp → Prop) ?_ ?_); (fail_if_success refine Exists.intro (α := Nat → L2.St → Hp → Prop) ?_ ?_); apply Exists.intro) | ((refine And.intro ?_ ?_); first | with_reducible rfl | with_reducible assumption | rfl | ((with_reducible apply SqL.of); assumption) | ((with_reducible apply SqT.of); assumption) | ((with_reducible apply OwnC.cl); assumption) | (with_reducible exact isI_int _) | exact within_args | (with_reducible exact upd_same) | ((with_reducible apply Mid.o); assumption) | ((with_reducible apply Mid.t); assumption) | exact .inl ⟨rfl, _, SqL.of (by assumption)⟩ | (with_reducible exact ⟨_, SqT.of (by assumption)⟩) | (with_reducible exact ⟨_, SqL.of (by assumption)⟩) | omega | exact Nat.le_of_ble_eq_true rfl | exact nat9 (by omega) | exact ⟨_, rfl⟩ | (show _ ≤ sizeLine; decide) | exact ⟨by decide, by decide, by decide⟩ | exact .inl ⟨by decide, by decide⟩ | exact .inl ⟨by omega, by omega⟩ | exact .inr ⟨by omega, by omega⟩ | assumption | fail) | ((with_reducible refine iteF' ?_ ?_); first | rfl | exact decide_eq_false (by omega) | exact in_no (by omega) (by omega) | exact in_no (by omega) (by assumption) | (simp <;> fail) | fail) | ((with_reducible refine iteT' ?_ ?_); first | rfl | exact decide_eq_true (by omega) | (simp <;> fail) | fail))
      intro x1 h_x1; have np_x1 := M.pD h_x1; have nb_x1 := M.bD h_x1; generalize hE : upd _ x1 _ = Hx0; obtain ⟨S_x1, g_x1⟩ := new_facts h_x1 hE; clear hE; replace M := M.same S_x1; replace bt := bt.same S_x1; replace g_it := S_x1 _ _ g_it
      rw [cut_to, ← List.map_take] at g_x1
      repeat (first | (with_reducible refine st_tC ?_) | (with_reducible refine st_tOp ?_) | ((with_reducible apply st_n); rfl; rfl; (first | trivial | (show _ ≤ _; omega) | (show _ < _; omega) | (show _ ∨ _; omega) | assumption | exact ⟨by assumption, by omega⟩ | exact ⟨W30.one, by omega⟩ | fail); rfl) | (with_reducible refine st_i0 rfl rfl rfl ?_) | ((with_reducible refine st_i rfl rfl ?_ rfl ?_); first | omega | exact ⟨by decide, by decide, by decide⟩ | exact .inl ⟨by decide, by decide⟩ | exact .inl ⟨by omega, by omega⟩ | exact .inr ⟨by omega, by omega⟩ | fail) | ((fail_if_success refine Exists.intro (α := Nat → Nat → L2.St → Hp → Prop) ?_ ?_); (fail_if_success refine Exists.intro (α := L2.St → Hp → Prop) ?_ ?_); (fail_if_success refine Exists.intro (α := Nat → L2.St → Hp → Prop) ?_ ?_); apply Exists.intro) | ((refine And.intro ?_ ?_); first | with_reducible rfl | with_reducible assumption | rfl | ((with_reducible apply SqL.of); assumption) | ((with_reducible apply SqT.of); assumption) | ((with_reducible apply OwnC.cl); assumption) | (with_reducible exact isI_int _) | exact within_args | (with_reducible exact upd_same) | ((with_reducible apply Mid.o); assumption) | ((with_reducible apply Mid.t); assumption) | exact .inl ⟨rfl, _, SqL.of (by assumption)⟩ | (with_reducible exact ⟨_, SqT.of (by assumption)⟩) | (with_reducible exact ⟨_, SqL.of (by assumption)⟩) | omega | exact Nat.le_of_ble_eq_true rfl | exact nat9 (by omega) | exact ⟨_, rfl⟩ | (show _ ≤ sizeLine; decide) | exact ⟨by decide, by decide, by decide⟩ | exact .inl ⟨by decide, by decide⟩ | exact .inl ⟨by omega, by omega⟩ | exact .inr ⟨by omega, by omega⟩ | assumption | fail) | ((with_reducible refine iteF' ?_ ?_); first | rfl | exact decide_eq_false (by omega) | exact in_no (by omega) (by omega) | exact in_no (by omega) (by assumption) | (simp <;> fail) | fail) | ((with_reducible refine iteT' ?_ ?_); first | rfl | exact decide_eq_true (by omega) | (simp <;> fail) | fail))
      intro x2 h_x2; have np_x2 := M.pD h_x2; have nb_x2 := M.bD h_x2; generalize hE : upd _ x2 _ = Hx1; obtain ⟨S_x2, g_x2⟩ := new_facts h_x2 hE; clear hE; replace M := M.same S_x2; replace bt := bt.same S_x2; replace g_it := S_x2 _ _ g_it; replace g_x1 := S_x2 _ _ g_x1
      replace g_x2 : Hx1 x2 = some (.lst (([o] : List Str).map V.str)) := g_x2
      repeat (first | (with_reducible refine st_tC ?_) | (with_reducible refine st_tOp ?_) | ((with_reducible apply st_n); rfl; rfl; (first | trivial | (show _ ≤ _; omega) | (show _ < _; omega) | (show _ ∨ _; omega) | assumption | exact ⟨by assumption, by omega⟩ | exact ⟨W30.one, by omega⟩ | fail); rfl) | (with_reducible refine st_i0 rfl rfl rfl ?_) | ((with_reducible refine st_i rfl rfl ?_ rfl ?_); first | omega | exact ⟨by decide, by decide, by decide⟩ | exact .inl ⟨by decide, by decide⟩ | exact .inl ⟨by omega, by omega⟩ | exact .inr ⟨by omega, by omega⟩ | fail) | ((fail_if_success refine Exists.intro (α := Nat → Nat → L2.St → Hp → Prop) ?_ ?_); (fail_if_success refine Exists.intro (α := L2.St → Hp → Prop) ?_ ?_); (fail_if_success refine Exists.intro (α := Nat → L2.St → Hp → Prop) ?_ ?_); apply Exists.intro) | ((refine And.intro ?_ ?_); first | with_reducible rfl | with_reducible assumption | rfl | ((with_reducible apply SqL.of); assumption) | ((with_reducible apply SqT.of); assumption) | ((with_reducible apply OwnC.cl); assumption) | (with_reducible exact isI_int _) | exact within_args | (with_reducible exact upd_same) | ((with_reducible apply Mid.o); assumption) | ((with_reducible apply Mid.t); assumption) | exact .inl ⟨rfl, _, SqL.of (by assumption)⟩ | (with_reducible exact ⟨_, SqT.of (by assumption)⟩) | (with_reducible exact ⟨_, SqL.of (by assumption)⟩) | omega | exact Nat.le_of_ble_eq_true rfl | exact nat9 (by omega) | exact ⟨_, rfl⟩ | (show _ ≤ sizeLine; decide) | exact ⟨by decide, by decide, by decide⟩ | exact .inl ⟨by decide, by decide⟩ | exact .inl ⟨by omega, by omega⟩ | exact .inr ⟨by omega, by omega⟩ | assumption | fail) | ((with_reducible refine iteF' ?_ ?_); first | rfl | exact decide_eq_false (by omega) | exact in_no (by omega) (by omega) | exact in_no (by omega) (by assumption) | (simp <;> fail) | fail) | ((with_reducible refine iteT' ?_ ?_); first | rfl | exact decide_eq_true (by omega) | (simp <;> fail) | fail))
      refine ⟨by simp only [List.length_map, List.length_append, List.length_take, List.length_drop, List.length_cons, List.length_nil, List.length_reverse]; rw [sizeLine_eq]; omega, ?_⟩
      intro x3 h_x3; have np_x3 := M.pD h_x3; have nb_x3 := M.bD h_x3; generalize hE : upd _ x3 _ = Hx2; obtain ⟨S_x3, g_x3⟩ := new_facts h_x3 hE; clear hE; replace M := M.same S_x3; replace bt := bt.same S_x3; replace g_it := S_x3 _ _ g_it; replace g_x1 := S_x3 _ _ g_x1; replace g_x2 := S_x3 _ _ g_x2
      rw [← List.map_append] at g_x3
      repeat (first | (with_reducible refine st_tC ?_) | (with_reducible refine st_tOp ?_) | ((with_reducible apply st_n); rfl; rfl; (first | trivial | (show _ ≤ _; omega) | (show _ < _; omega) | (show _ ∨ _; omega) | assumption | exact ⟨by assumption, by omega⟩ | exact ⟨W30.one, by omega⟩ | fail); rfl) | (with_reducible refine st_i0 rfl rfl rfl ?_) | ((with_reducible refine st_i rfl rfl ?_ rfl ?_); first | omega | exact ⟨by decide, by decide, by decide⟩ | exact .inl ⟨by decide, by decide⟩ | exact .inl ⟨by omega, by omega⟩ | exact .inr ⟨by omega, by omega⟩ | fail) | ((fail_if_success refine Exists.intro (α := Nat → Nat → L2.St → Hp → Prop) ?_ ?_); (fail_if_success refine Exists.intro (α := L2.St → Hp → Prop) ?_ ?_); (fail_if_success refine Exists.intro (α := Nat → L2.St → Hp → Prop) ?_ ?_); apply Exists.intro) | ((refine And.intro ?_ ?_); first | with_reducible rfl | with_reducible assumption | rfl | ((with_reducible apply SqL.of); assumption) | ((with_reducible apply SqT.of); assumption) | ((with_reducible apply OwnC.cl); assumption) | (with_reducible exact isI_int _) | exact within_args | (with_reducible exact upd_same) | ((with_reducible apply Mid.o); assumption) | ((with_reducible apply Mid.t); assumption) | exact .inl ⟨rfl, _, SqL.of (by assumption)⟩ | (with_reducible exact ⟨_, SqT.of (by assumption)⟩) | (with_reducible exact ⟨_, SqL.of (by assumption)⟩) | omega | exact Nat.le_of_ble_eq_true rfl | exact nat9 (by omega) | exact ⟨_, rfl⟩ | (show _ ≤ sizeLine; decide) | exact ⟨by decide, by decide, by decide⟩ | exact .inl ⟨by decide, by decide⟩ | exact .inl ⟨by omega, by omega⟩ | exact .inr ⟨by omega, by omega⟩ | assumption | fail) | ((with_reducible refine iteF' ?_ ?_); first | rfl | exact decide_eq_false (by omega) | exact in_no (by omega) (by omega) | exact in_no (by omega) (by assumption) | (simp <;> fail) | fail) | ((with_reducible refine iteT' ?_ ?_); first | rfl | exact decide_eq_true (by omega) | (simp <;> fail) | fail))
      intro x4 h_x4; have np_x4 := M.pD h_x4; have nb_x4 := M.bD h_x4; generalize hE : upd _ x4 _ = Hx3; obtain ⟨S_x4, g_x4⟩ := new_facts h_x4 hE; clear hE; replace M := M.same S_x4; replace bt := bt.same S_x4; replace g_it := S_x4 _ _ g_it; replace g_x1 := S_x4 _ _ g_x1; replace g_x2 := S_x4 _ _ g_x2; replace g_x3 := S_x4 _ _ g_x3
      rw [cut_from, ← List.map_drop] at g_x4
      repeat (first | (with_reducible refine st_tC ?_) | (with_reducible refine st_tOp ?_) | ((with_reducible apply st_n); rfl; rfl; (first | trivial | (show _ ≤ _; omega) | (show _ < _; omega) | (show _ ∨ _; omega) | assumption | exact ⟨by assumption, by omega⟩ | exact ⟨W30.one, by omega⟩ | fail); rfl) | (with_reducible refine st_i0 rfl rfl rfl ?_) | ((with_reducible refine st_i rfl rfl ?_ rfl ?_); first | omega | exact ⟨by decide, by decide, by decide⟩ | exact .inl ⟨by decide, by decide⟩ | exact .inl ⟨by omega, by omega⟩ | exact .inr ⟨by omega, by omega⟩ | fail) | ((fail_if_success refine Exists.intro (α := Nat → Nat → L2.St → Hp → Prop) ?_ ?_); (fail_if_success refine Exists.intro (α := L2.St → Hp → Prop) ?_ ?_); (fail_if_success refine Exists.intro (α := Nat → L2.St → Hp → Prop) ?_ ?_); apply Exists.intro) | ((refine And.intro ?_ ?_); first | with_reducible rfl | with_reducible assumption | rfl | ((with_reducible apply SqL.of); assumption) | ((with_reducible apply SqT.of); assumption) | ((with_reducible apply OwnC.cl); assumption) | (with_reducible exact isI_int _) | exact within_args | (with_reducible exact upd_same) | ((with_reducible apply Mid.o); assumption) | ((with_reducible apply Mid.t); assumption) | exact .inl ⟨rfl, _, SqL.of (by assumption)⟩ | (with_reducible exact ⟨_, SqT.of (by assumption)⟩) | (with_reducible exact ⟨_, SqL.of (by assumption)⟩) | omega | exact Nat.le_of_ble_eq_true rfl | exact nat9 (by omega) | exact ⟨_, rfl⟩ | (show _ ≤ sizeLine; decide) | exact ⟨by decide, by decide, by decide⟩ | exact .inl ⟨by decide, by decide⟩ | exact .inl ⟨by omega, by omega⟩ | exact .inr ⟨by omega, by omega⟩ | assumption | fail) | ((with_reducible refine iteF' ?_ ?_); first | rfl | exact decide_eq_false (by omega) | exact in_no (by omega) (by omega) | exact in_no (by omega) (by assumption) | (simp <;> fail) | fail) | ((with_reducible refine iteT' ?_ ?_); first | rfl | exact decide_eq_true (by omega) | (simp <;> fail) | fail))
      refine ⟨by simp only [List.length_map, List.length_append, List.length_take, List.length_drop, List.length_cons, List.length_nil, List.length_reverse]; rw [sizeLine_eq]; omega, ?_⟩
      intro x5 h_x5; have np_x5 := M.pD h_x5; have nb_x5 := M.bD h_x5; generalize hE : upd _ x5 _ = Hx4; obtain ⟨S_x5, g_x5⟩ := new_facts h_x5 hE; clear hE; replace M := M.same S_x5; replace bt := bt.same S_x5; replace g_it := S_x5 _ _ g_it; replace g_x1 := S_x5 _ _ g_x1; replace g_x2 := S_x5 _ _ g_x2; replace g_x3 := S_x5 _ _ g_x3; replace g_x4 := S_x5 _ _ g_x4
      rw [← List.map_append] at g_x5
      refine fin (ys.take at' ++ [o] ++ ys.drop at') x5 Hx4 np_x5 g_x5 M bt (fun y hy => ?_) (by simp only [wgt_app]; omega)
      rcases List.mem_append.mp hy with z | z
      · rcases List.mem_append.mp z with z | z
        · exact .inl (mt z)
        · exact .inr (List.mem_singleton.mp z)
      · exact .inl (md z)
    · repeat (first | (with_reducible refine st_tC ?_) | (with_reducible refine st_tOp ?_) | ((with_reducible apply st_n); rfl; rfl; (first | trivial | (show _ ≤ _; omega) | (show _ < _; omega) | (show _ ∨ _; omega) | assumption | exact ⟨by assumption, by omega⟩ | exact ⟨W30.one, by omega⟩ | fail); rfl) | (with_reducible refine st_i0 rfl rfl rfl ?_) | ((with_reducible refine st_i rfl rfl ?_ rfl ?_); first | omega | exact ⟨by decide, by decide, by decide⟩ | exact .inl ⟨by decide, by decide⟩ | exact .inl ⟨by omega, by omega⟩ | exact .inr ⟨by omega, by omega⟩ | fail) | ((fail_if_success refine Exists.intro (α := Nat → Nat → L2.St → Hp → Prop) ?_ ?_); (fail_if_success refine Exists.intro (α := L2.St → Hp → Prop) ?_ ?_); (fail_if_success refine Exists.intro (α := Nat → L2.St → Hp → Prop) ?_ ?_); apply Exists.intro) | ((refine And.intro ?_ ?_); first | with_reducible rfl | with_reducible assumption | rfl | ((with_reducible apply SqL.of); assumption) | ((with_reducible apply SqT.of); assumption) | ((with_reducible apply OwnC.cl); assumption) | (with_reducible exact isI_int _) | exact within_args | (with_reducible exact upd_same) | ((with_reducible apply Mid.o); assumption) | ((with_reducible apply Mid.t); assumption) | exact .inl ⟨rfl, _, SqL.of (by assumption)⟩ | (with_reducible exact ⟨_, SqT.of (by assumption)⟩) | (with_reducible exact ⟨_, SqL.of (by assumption)⟩) | omega | exact Nat.le_of_ble_eq_true rfl | exact nat9 (by omega) | exact ⟨_, rfl⟩ | (show _ ≤ sizeLine; decide) | exact ⟨by decide, by decide, by decide⟩ | exact .inl ⟨by decide, by decide⟩ | exact .inl ⟨by omega, by omega⟩ | exact .inr ⟨by omega, by omega⟩ | assumption | fail) | ((with_reducible refine iteF' ?_ ?_); first | rfl | exact decide_eq_false (by omega) | exact in_no (by omega) (by omega) | exact in_no (by omega) (by assumption) | (simp <;> fail) | fail) | ((with_reducible refine iteT' ?_ ?_); first | rfl | exact decide_eq_true (by omega) | (simp <;> fail) | fail))
      intro x1 h_x1; have np_x1 := M.pD h_x1; have nb_x1 := M.bD h_x1; generalize hE : upd _ x1 _ = Hx0; obtain ⟨S_x1, g_x1⟩ := new_facts h_x1 hE; clear hE; replace M := M.same S_x1; replace bt := bt.same S_x1; replace g_it := S_x1 _ _ g_it
      rw [cut_to, ← List.map_take] at g_x1
      repeat (first | (with_reducible refine st_tC ?_) | (with_reducible refine st_tOp ?_) | ((with_reducible apply st_n); rfl; rfl; (first | trivial | (show _ ≤ _; omega) | (show _ < _; omega) | (show _ ∨ _; omega) | assumption | exact ⟨by assumption, by omega⟩ | exact ⟨W30.one, by omega⟩ | fail); rfl) | (with_reducible refine st_i0 rfl rfl rfl ?_) | ((with_reducible refine st_i rfl rfl ?_ rfl ?_); first | omega | exact ⟨by decide, by decide, by decide⟩ | exact .inl ⟨by decide, by decide⟩ | exact .inl ⟨by omega, by omega⟩ | exact .inr ⟨by omega, by omega⟩ | fail) | ((fail_if_success refine Exists.intro (α := Nat → Nat → L2.St → Hp → Prop) ?_ ?_); (fail_if_success refine Exists.intro (α := L2.St → Hp → Prop) ?_ ?_); (fail_if_success refine Exists.intro (α := Nat → L2.St → Hp → Prop) ?_ ?_); apply Exists.intro) | ((refine And.intro ?_ ?_); first | with_reducible rfl | with_reducible assumption | rfl | ((with_reducible apply SqL.of); assumption) | ((with_reducible apply SqT.of); assumption) | ((with_reducible apply OwnC.cl); assumption) | (with_reducible exact isI_int _) | exact within_args | (with_reducible exact upd_same) | ((with_reducible apply Mid.o); assumption) | ((with_reducible apply Mid.t); assumption) | exact .inl ⟨rfl, _, SqL.of (by assumption)⟩ | (with_reducible exact ⟨_, SqT.of (by assumption)⟩) | (with_reducible exact ⟨_, SqL.of (by assumption)⟩) | omega | exact Nat.le_of_ble_eq_true rfl | exact nat9 (by omega) | exact ⟨_, rfl⟩ | (show _ ≤ sizeLine; decide) | exact ⟨by decide, by decide, by decide⟩ | exact .inl ⟨by decide, by decide⟩ | exact .inl ⟨by omega, by omega⟩ | exact .inr ⟨by omega, by omega⟩ | assumption | fail) | ((with_reducible refine iteF' ?_ ?_); first | rfl | exact decide_eq_false (by omega) | exact in_no (by omega) (by omega) | exact in_no (by omega) (by assumption) | (simp <;> fail) | fail) | ((with_reducible refine iteT' ?_ ?_); first | rfl | exact decide_eq_true (by omega) | (simp <;> fail) | fail))
      intro x2 h_x2; have np_x2 := M.pD h_x2; have nb_x2 := M.bD h_x2; generalize hE : upd _ x2 _ = Hx1; obtain ⟨S_x2, g_x2⟩ := new_facts h_x2 hE; clear hE; replace M := M.same S_x2; replace bt := bt.same S_x2; replace g_it := S_x2 _ _ g_it; replace g_x1 := S_x2 _ _ g_x1
      rw [cut_from1, ← List.map_drop] at g_x2
      repeat (first | (with_reducible refine st_tC ?_) | (with_reducible refine st_tOp ?_) | ((with_reducible apply st_n); rfl; rfl; (first | trivial | (show _ ≤ _; omega) | (show _ < _; omega) | (show _ ∨ _; omega) | assumption | exact ⟨by assumption, by omega⟩ | exact ⟨W30.one, by omega⟩ | fail); rfl) | (with_reducible refine st_i0 rfl rfl rfl ?_) | ((with_reducible refine st_i rfl rfl ?_ rfl ?_); first | omega | exact ⟨by decide, by decide, by decide⟩ | exact .inl ⟨by decide, by decide⟩ | exact .inl ⟨by omega, by omega⟩ | exact .inr ⟨by omega, by omega⟩ | fail) | ((fail_if_success refine Exists.intro (α := Nat → Nat → L2.St → Hp → Prop) ?_ ?_); (fail_if_success refine Exists.intro (α := L2.St → Hp → Prop) ?_ ?_); (fail_if_success refine Exists.intro (α := Nat → L2.St → Hp → Prop) ?_ ?_); apply Exists.intro) | ((refine And.intro ?_ ?_); first | with_reducible rfl | with_reducible assumption | rfl | ((with_reducible apply SqL.of); assumption) | ((with_reducible apply SqT.of); assumption) | ((with_reducible apply OwnC.cl); assumption) | (with_reducible exact isI_int _) | exact within_args | (with_reducible exact upd_same) | ((with_reducible apply Mid.o); assumption) | ((with_reducible apply Mid.t); assumption) | exact .inl ⟨rfl, _, SqL.of (by assumption)⟩ | (with_reducible exact ⟨_, SqT.of (by assumption)⟩) | (with_reducible exact ⟨_, SqL.of (by assumption)⟩) | omega | exact Nat.le_of_ble_eq_true rfl | exact nat9 (by omega) | exact ⟨_, rfl⟩ | (show _ ≤ sizeLine; decide) | exact ⟨by decide, by decide, by decide⟩ | exact .inl ⟨by decide, by decide⟩ | exact .inl ⟨by omega, by omega⟩ | exact .inr ⟨by omega, by omega⟩ | assumption | fail) | ((with_reducible refine iteF' ?_ ?_); first | rfl | exact decide_eq_false (by omega) | exact in_no (by omega) (by omega) | exact in_no (by omega) (by assumption) | (simp <;> fail) | fail) | ((with_reducible refine iteT' ?_ ?_); first | rfl | exact decide_eq_true (by omega) | (simp <;> fail) | fail))
      refine ⟨by simp only [List.length_map, List.length_append, List.length_take, List.length_drop, List.length_cons, List.length_nil, List.length_reverse]; rw [sizeLine_eq]; omega, ?_⟩
      intro x3 h_x3; have np_x3 := M.pD h_x3; have nb_x3 := M.bD h_x3; generalize hE : upd _ x3 _ = Hx2; obtain ⟨S_x3, g_x3⟩ := new_facts h_x3 hE; clear hE; replace M := M.same S_x3; replace bt := bt.same S_x3; replace g_it := S_x3 _ _ g_it; replace g_x1 := S_x3 _ _ g_x1; replace g_x2 := S_x3 _ _ g_x2
      rw [← List.map_append] at g_x3
      refine fin (ys.take at' ++ ys.drop (at' + 1)) x3 Hx2 np_x3 g_x3 M bt (fun y hy => ?_) (by simp only [wgt_app]; omega)
      rcases List.mem_append.mp hy with z | z
      · exact .inl (mt z)
      · exact .inl (md z)
    · repeat (first | (with_reducible refine st_tC ?_) | (with_reducible refine st_tOp ?_) | ((with_reducible apply st_n); rfl; rfl; (first | trivial | (show _ ≤ _; omega) | (show _ < _; omega) | (show _ ∨ _; omega) | assumption | exact ⟨by assumption, by omega⟩ | exact ⟨W30.one, by omega⟩ | fail); rfl) | (with_reducible refine st_i0 rfl rfl rfl ?_) | ((with_reducible refine st_i rfl rfl ?_ rfl ?_); first | omega | exact ⟨by decide, by decide, by decide⟩ | exact .inl ⟨by decide, by decide⟩ | exact .inl ⟨by omega, by omega⟩ | exact .inr ⟨by omega, by omega⟩ | fail) | ((fail_if_success refine Exists.intro (α := Nat → Nat → L2.St → Hp → Prop) ?_ ?_); (fail_if_success refine Exists.intro (α := L2.St → Hp → Prop) ?_ ?_); (fail_if_success refine Exists.intro (α := Nat → L2.St → Hp → Prop) ?_ ?_); apply Exists.intro) | ((refine And.intro ?_ ?_); first | with_reducible rfl | with_reducible assumption | rfl | ((with_reducible apply SqL.of); assumption) | ((with_reducible apply SqT.of); assumption) | ((with_reducible apply OwnC.cl); assumption) | (with_reducible exact isI_int _) | exact within_args | (with_reducible exact upd_same) | ((with_reducible apply Mid.o); assumption) | ((with_reducible apply Mid.t); assumption) | exact .inl ⟨rfl, _, SqL.of (by assumption)⟩ | (with_reducible exact ⟨_, SqT.of (by assumption)⟩) | (with_reducible exact ⟨_, SqL.of (by assumption)⟩) | omega | exact Nat.le_of_ble_eq_true rfl | exact nat9 (by omega) | exact ⟨_, rfl⟩ | (show _ ≤ sizeLine; decide) | exact ⟨by decide, by decide, by decide⟩ | exact .inl ⟨by decide, by decide⟩ | exact .inl ⟨by omega, by omega⟩ | exact .inr ⟨by omega, by omega⟩ | assumption | fail) | ((with_reducible refine iteF' ?_ ?_); first | rfl | exact decide_eq_false (by omega) | exact in_no (by omega) (by omega) | exact in_no (by omega) (by assumption) | (simp <;> fail) | fail) | ((with_reducible refine iteT' ?_ ?_); first | rfl | exact decide_eq_true (by omega) | (simp <;> fail) | fail))
      intro x1 h_x1; have np_x1 := M.pD h_x1; have nb_x1 := M.bD h_x1; generalize hE : upd _ x1 _ = Hx0; obtain ⟨S_x1, g_x1⟩ := new_facts h_x1 hE; clear hE; replace M := M.same S_x1; replace bt := bt.same S_x1; replace g_it := S_x1 _ _ g_it
      rw [cut_to, ← List.map_take] at g_x1
      repeat (first | (with_reducible refine st_tC ?_) | (with_reducible refine st_tOp ?_) | ((with_reducible apply st_n); rfl; rfl; (first | trivial | (show _ ≤ _; omega) | (show _ < _; omega) | (show _ ∨ _; omega) | assumption | exact ⟨by assumption, by omega⟩ | exact ⟨W30.one, by omega⟩ | fail); rfl) | (with_reducible refine st_i0 rfl rfl rfl ?_) | ((with_reducible refine st_i rfl rfl ?_ rfl ?_); first | omega | exact ⟨by decide, by decide, by decide⟩ | exact .inl ⟨by decide, by decide⟩ | exact .inl ⟨by omega, by omega⟩ | exact .inr ⟨by omega, by omega⟩ | fail) | ((fail_if_success refine Exists.intro (α := Nat → Nat → L2.St → Hp → Prop) ?_ ?_); (fail_if_success refine Exists.intro (α := L2.St → Hp → Prop) ?_ ?_); (fail_if_success refine Exists.intro (α := Nat → L2.St → Hp → Prop) ?_ ?_); apply Exists.intro) | ((refine And.intro ?_ ?_); first | with_reducible rfl | with_reducible assumption | rfl | ((with_reducible apply SqL.of); assumption) | ((with_reducible apply SqT.of); assumption) | ((with_reducible apply OwnC.cl); assumption) | (with_reducible exact isI_int _) | exact within_args | (with_reducible exact upd_same) | ((with_reducible apply Mid.o); assumption) | ((with_reducible apply Mid.t); assumption) | exact .inl ⟨rfl, _, SqL.of (by assumption)⟩ | (with_reducible exact ⟨_, SqT.of (by assumption)⟩) | (with_reducible exact ⟨_, SqL.of (by assumption)⟩) | omega | exact Nat.le_of_ble_eq_true rfl | exact nat9 (by omega) | exact ⟨_, rfl⟩ | (show _ ≤ sizeLine; decide) | exact ⟨by decide, by decide, by decide⟩ | exact .inl ⟨by decide, by decide⟩ | exact .inl ⟨by omega, by omega⟩ | exact .inr ⟨by omega, by omega⟩ | assumption | fail) | ((with_reducible refine iteF' ?_ ?_); first | rfl | exact decide_eq_false (by omega) | exact in_no (by omega) (by omega) | exact in_no (by omega) (by assumption) | (simp <;> fail) | fail) | ((with_reducible refine iteT' ?_ ?_); first | rfl | exact decide_eq_true (by omega) | (simp <;> fail) | fail))
      intro x2 h_x2; have np_x2 := M.pD h_x2; have nb_x2 := M.bD h_x2; generalize hE : upd _ x2 _ = Hx1; obtain ⟨S_x2, g_x2⟩ := new_facts h_x2 hE; clear hE; replace M := M.same S_x2; replace bt := bt.same S_x2; replace g_it := S_x2 _ _ g_it; replace g_x1 := S_x2 _ _ g_x1
      rw [cut_mid2 at8, ← List.map_drop, ← List.map_take] at g_x2
      repeat (first | (with_reducible refine st_tC ?_) | (with_reducible refine st_tOp ?_) | ((with_reducible apply st_n); rfl; rfl; (first | trivial | (show _ ≤ _; omega) | (show _ < _; omega) | (show _ ∨ _; omega) | assumption | exact ⟨by assumption, by omega⟩ | exact ⟨W30.one, by omega⟩ | fail); rfl) | (with_reducible refine st_i0 rfl rfl rfl ?_) | ((with_reducible refine st_i rfl rfl ?_ rfl ?_); first | omega | exact ⟨by decide, by decide, by decide⟩ | exact .inl ⟨by decide, by decide⟩ | exact .inl ⟨by omega, by omega⟩ | exact .inr ⟨by omega, by omega⟩ | fail) | ((fail_if_success refine Exists.intro (α := Nat → Nat → L2.St → Hp → Prop) ?_ ?_); (fail_if_success refine Exists.intro (α := L2.St → Hp → Prop) ?_ ?_); (fail_if_success refine Exists.intro (α := Nat → L2.St → Hp → Prop) ?_ ?_); apply Exists.intro) | ((refine And.intro ?_ ?_); first | with_reducible rfl | with_reducible assumption | rfl | ((with_reducible apply SqL.of); assumption) | ((with_reducible apply SqT.of); assumption) | ((with_reducible apply OwnC.cl); assumption) | (with_reducible exact isI_int _) | exact within_args | (with_reducible exact upd_same) | ((with_reducible apply Mid.o); assumption) | ((with_reducible apply Mid.t); assumption) | exact .inl ⟨rfl, _, SqL.of (by assumption)⟩ | (with_reducible exact ⟨_, SqT.of (by assumption)⟩) | (with_reducible exact ⟨_, SqL.of (by assumption)⟩) | omega | exact Nat.le_of_ble_eq_true rfl | exact nat9 (by omega) | exact ⟨_, rfl⟩ | (show _ ≤ sizeLine; decide) | exact ⟨by decide, by decide, by decide⟩ | exact .inl ⟨by decide, by decide⟩ | exact .inl ⟨by omega, by omega⟩ | exact .inr ⟨by omega, by omega⟩ | assumption | fail) | ((with_reducible refine iteF' ?_ ?_); first | rfl | exact decide_eq_false (by omega) | exact in_no (by omega) (by omega) | exact in_no (by omega) (by assumption) | (simp <;> fail) | fail) | ((with_reducible refine iteT' ?_ ?_); first | rfl | exact decide_eq_true (by omega) | (simp <;> fail) | fail))
      intro x3 h_x3; have np_x3 := M.pD h_x3; have nb_x3 := M.bD h_x3; generalize hE : upd _ x3 _ = Hx2; obtain ⟨S_x3, g_x3⟩ := new_facts h_x3 hE; clear hE; replace M := M.same S_x3; replace bt := bt.same S_x3; replace g_it := S_x3 _ _ g_it; replace g_x1 := S_x3 _ _ g_x1; replace g_x2 := S_x3 _ _ g_x2
      rw [← List.map_reverse] at g_x3
      repeat (first | (with_reducible refine st_tC ?_) | (with_reducible refine st_tOp ?_) | ((with_reducible apply st_n); rfl; rfl; (first | trivial | (show _ ≤ _; omega) | (show _ < _; omega) | (show _ ∨ _; omega) | assumption | exact ⟨by assumption, by omega⟩ | exact ⟨W30.one, by omega⟩ | fail); rfl) | (with_reducible refine st_i0 rfl rfl rfl ?_) | ((with_reducible refine st_i rfl rfl ?_ rfl ?_); first | omega | exact ⟨by decide, by decide, by decide⟩ | exact .inl ⟨by decide, by decide⟩ | exact .inl ⟨by omega, by omega⟩ | exact .inr ⟨by omega, by omega⟩ | fail) | ((fail_if_success refine Exists.intro (α := Nat → Nat → L2.St → Hp → Prop) ?_ ?_); (fail_if_success refine Exists.intro (α := L2.St → Hp → Prop) ?_ ?_); (fail_if_success refine Exists.intro (α := Nat → L2.St → Hp → Prop) ?_ ?_); apply Exists.intro) | ((refine And.intro ?_ ?_); first | with_reducible rfl | with_reducible assumption | rfl | ((with_reducible apply SqL.of); assumption) | ((with_reducible apply SqT.of); assumption) | ((with_reducible apply OwnC.cl); assumption) | (with_reducible exact isI_int _) | exact within_args | (with_reducible exact upd_same) | ((with_reducible apply Mid.o); assumption) | ((with_reducible apply Mid.t); assumption) | exact .inl ⟨rfl, _, SqL.of (by assumption)⟩ | (with_reducible exact ⟨_, SqT.of (by assumption)⟩) | (with_reducible exact ⟨_, SqL.of (by assumption)⟩) | omega | exact Nat.le_of_ble_eq_true rfl | exact nat9 (by omega) | exact ⟨_, rfl⟩ | (show _ ≤ sizeLine; decide) | exact ⟨by decide, by decide, by decide⟩ | exact .inl ⟨by decide, by decide⟩ | exact .inl ⟨by omega, by omega⟩ | exact .inr ⟨by omega, by omega⟩ | assumption | fail) | ((with_reducible refine iteF' ?_ ?_); first | rfl | exact decide_eq_false (by omega) | exact in_no (by omega) (by omega) | exact in_no (by omega) (by assumption) | (simp <;> fail) | fail) | ((with_reducible refine iteT' ?_ ?_); first | rfl | exact decide_eq_true (by omega) | (simp <;> fail) | fail))
      refine ⟨by simp only [List.length_map, List.length_append, List.length_take, List.length_drop, List.length_cons, List.length_nil, List.length_reverse]; rw [sizeLine_eq]; omega, ?_⟩
      intro x4 h_x4; have np_x4 := M.pD h_x4; have nb_x4 := M.bD h_x4; generalize hE : upd _ x4 _ = Hx3; obtain ⟨S_x4, g_x4⟩ := new_facts h_x4 hE; clear hE; replace M := M.same S_x4; replace bt := bt.same S_x4; replace g_it := S_x4 _ _ g_it; replace g_x1 := S_x4 _ _ g_x1; replace g_x2 := S_x4 _ _ g_x2; replace g_x3 := S_x4 _ _ g_x3
      rw [← List.map_append] at g_x4
      repeat (first | (with_reducible refine st_tC ?_) | (with_reducible refine st_tOp ?_) | ((with_reducible apply st_n); rfl; rfl; (first | trivial | (show _ ≤ _; omega) | (show _ < _; omega) | (show _ ∨ _; omega) | assumption | exact ⟨by assumption, by omega⟩ | exact ⟨W30.one, by omega⟩ | fail); rfl) | (with_reducible refine st_i0 rfl rfl rfl ?_) | ((with_reducible refine st_i rfl rfl ?_ rfl ?_); first | omega | exact ⟨by decide, by decide, by decide⟩ | exact .inl ⟨by decide, by decide⟩ | exact .inl ⟨by omega, by omega⟩ | exact .inr ⟨by omega, by omega⟩ | fail) | ((fail_if_success refine Exists.intro (α := Nat → Nat → L2.St → Hp → Prop) ?_ ?_); (fail_if_success refine Exists.intro (α := L2.St → Hp → Prop) ?_ ?_); (fail_if_success refine Exists.intro (α := Nat → L2.St → Hp → Prop) ?_ ?_); apply Exists.intro) | ((refine And.intro ?_ ?_); first | with_reducible rfl | with_reducible assumption | rfl | ((with_reducible apply SqL.of); assumption) | ((with_reducible apply SqT.of); assumption) | ((with_reducible apply OwnC.cl); assumption) | (with_reducible exact isI_int _) | exact within_args | (with_reducible exact upd_same) | ((with_reducible apply Mid.o); assumption) | ((with_reducible apply Mid.t); assumption) | exact .inl ⟨rfl, _, SqL.of (by assumption)⟩ | (with_reducible exact ⟨_, SqT.of (by assumption)⟩) | (with_reducible exact ⟨_, SqL.of (by assumption)⟩) | omega | exact Nat.le_of_ble_eq_true rfl | exact nat9 (by omega) | exact ⟨_, rfl⟩ | (show _ ≤ sizeLine; decide) | exact ⟨by decide, by decide, by decide⟩ | exact .inl ⟨by decide, by decide⟩ | exact .inl ⟨by omega, by omega⟩ | exact .inr ⟨by omega, by omega⟩ | assumption | fail) | ((with_reducible refine iteF' ?_ ?_); first | rfl | exact decide_eq_false (by omega) | exact in_no (by omega) (by omega) | exact in_no (by omega) (by assumption) | (simp <;> fail) | fail) | ((with_reducible refine iteT' ?_ ?_); first | rfl | exact decide_eq_true (by omega) | (simp <;> fail) | fail))
      intro x5 h_x5; have np_x5 := M.pD h_x5; have nb_x5 := M.bD h_x5; generalize hE : upd _ x5 _ = Hx4; obtain ⟨S_x5, g_x5⟩ := new_facts h_x5 hE; clear hE; replace M := M.same S_x5; replace bt := bt.same S_x5; replace g_it := S_x5 _ _ g_it; replace g_x1 := S_x5 _ _ g_x1; replace g_x2 := S_x5 _ _ g_x2; replace g_x3 := S_x5 _ _ g_x3; replace g_x4 := S_x5 _ _ g_x4
      rw [cut_from2, ← List.map_drop] at g_x5
      repeat (first | (with_reducible refine st_tC ?_) | (with_reducible refine st_tOp ?_) | ((with_reducible apply st_n); rfl; rfl; (first | trivial | (show _ ≤ _; omega) | (show _ < _; omega) | (show _ ∨ _; omega) | assumption | exact ⟨by assumption, by omega⟩ | exact ⟨W30.one, by omega⟩ | fail); rfl) | (with_reducible refine st_i0 rfl rfl rfl ?_) | ((with_reducible refine st_i rfl rfl ?_ rfl ?_); first | omega | exact ⟨by decide, by decide, by decide⟩ | exact .inl ⟨by decide, by decide⟩ | exact .inl ⟨by omega, by omega⟩ | exact .inr ⟨by omega, by omega⟩ | fail) | ((fail_if_success refine Exists.intro (α := Nat → Nat → L2.St → Hp → Prop) ?_ ?_); (fail_if_success refine Exists.intro (α := L2.St → Hp → Prop) ?_ ?_); (fail_if_success refine Exists.intro (α := Nat → L2.St → Hp → Prop) ?_ ?_); apply Exists.intro) | ((refine And.intro ?_ ?_); first | with_reducible rfl | with_reducible assumption | rfl | ((with_reducible apply SqL.of); assumption) | ((with_reducible apply SqT.of); assumption) | ((with_reducible apply OwnC.cl); assumption) | (with_reducible exact isI_int _) | exact within_args | (with_reducible exact upd_same) | ((with_reducible apply Mid.o); assumption) | ((with_reducible apply Mid.t); assumption) | exact .inl ⟨rfl, _, SqL.of (by assumption)⟩ | (with_reducible exact ⟨_, SqT.of (by assumption)⟩) | (with_reducible exact ⟨_, SqL.of (by assumption)⟩) | omega | exact Nat.le_of_ble_eq_true rfl | exact nat9 (by omega) | exact ⟨_, rfl⟩ | (show _ ≤ sizeLine; decide) | exact ⟨by decide, by decide, by decide⟩ | exact .inl ⟨by decide, by decide⟩ | exact .inl ⟨by omega, by omega⟩ | exact .inr ⟨by omega, by omega⟩ | assumption | fail) | ((with_reducible refine iteF' ?_ ?_); first | rfl | exact decide_eq_false (by omega) | exact in_no (by omega) (by omega) | exact in_no (by omega) (by assumption) | (simp <;> fail) | fail) | ((with_reducible refine iteT' ?_ ?_); first | rfl | exact decide_eq_true (by omega) | (simp <;> fail) | fail))
      refine ⟨by simp only [List.length_map, List.length_append, List.length_take, List.length_drop, List.length_cons, List.length_nil, List.length_reverse]; rw [sizeLine_eq]; omega, ?_⟩
      intro x6 h_x6; have np_x6 := M.pD h_x6; have nb_x6 := M.bD h_x6; generalize hE : upd _ x6 _ = Hx5; obtain ⟨S_x6, g_x6⟩ := new_facts h_x6 hE; clear hE; replace M := M.same S_x6; replace bt := bt.same S_x6; replace g_it := S_x6 _ _ g_it; replace g_x1 := S_x6 _ _ g_x1; replace g_x2 := S_x6 _ _ g_x2; replace g_x3 := S_x6 _ _ g_x3; replace g_x4 := S_x6 _ _ g_x4; replace g_x5 := S_x6 _ _ g_x5
      rw [← List.map_append] at g_x6
      refine fin (ys.take at' ++ ((ys.drop at').take 2).reverse ++ ys.drop (at' + 2)) x6 Hx5 np_x6 g_x6 M bt (fun y hy => ?_) (by simp only [wgt_app]; omega)
      rcases List.mem_append.mp hy with z | z
      · rcases List.mem_append.mp z with z | z
        · exact .inl (mt z)
        · exact .inl (md (List.mem_of_mem_take (List.mem_reverse.mp z)))
      · exact .inl (md z)
    · repeat (first | (with_reducible refine st_tC ?_) | (with_reducible refine st_tOp ?_) | ((with_reducible apply st_n); rfl; rfl; (first | trivial | (show _ ≤ _; omega) | (show _ < _; omega) | (show _ ∨ _; omega) | assumption | exact ⟨by assumption, by omega⟩ | exact ⟨W30.one, by omega⟩ | fail); rfl) | (with_reducible refine st_i0 rfl rfl rfl ?_) | ((with_reducible refine st_i rfl rfl ?_ rfl ?_); first | omega | exact ⟨by decide, by decide, by decide⟩ | exact .inl ⟨by decide, by decide⟩ | exact .inl ⟨by omega, by omega⟩ | exact .inr ⟨by omega, by omega⟩ | fail) | ((fail_if_success refine Exists.intro (α := Nat → Nat → L2.St → Hp → Prop) ?_ ?_); (fail_if_success refine Exists.intro (α := L2.St → Hp → Prop) ?_ ?_); (fail_if_success refine Exists.intro (α := Nat → L2.St → Hp → Prop) ?_ ?_); apply Exists.intro) | ((refine And.intro ?_ ?_); first | with_reducible rfl | with_reducible assumption | rfl | ((with_reducible apply SqL.of); assumption) | ((with_reducible apply SqT.of); assumption) | ((with_reducible apply OwnC.cl); assumption) | (with_reducible exact isI_int _) | exact within_args | (with_reducible exact upd_same) | ((with_reducible apply Mid.o); assumption) | ((with_reducible apply Mid.t); assumption) | exact .inl ⟨rfl, _, SqL.of (by assumption)⟩ | (with_reducible exact ⟨_, SqT.of (by assumption)⟩) | (with_reducible exact ⟨_, SqL.of (by assumption)⟩) | omega | exact Nat.le_of_ble_eq_true rfl | exact nat9 (by omega) | exact ⟨_, rfl⟩ | (show _ ≤ sizeLine; decide) | exact ⟨by decide, by decide, by decide⟩ | exact .inl ⟨by decide, by decide⟩ | exact .inl ⟨by omega, by omega⟩ | exact .inr ⟨by omega, by omega⟩ | assumption | fail) | ((with_reducible refine iteF' ?_ ?_); first | rfl | exact decide_eq_false (by omega) | exact in_no (by omega) (by omega) | exact in_no (by omega) (by assumption) | (simp <;> fail) | fail) | ((with_reducible refine iteT' ?_ ?_); first | rfl | exact decide_eq_true (by omega) | (simp <;> fail) | fail))
      refine iteF' (decide_eq_false fun z => n2 (by have := V.int.inj z; omega)) ?_
      repeat (first | (with_reducible refine st_tC ?_) | (with_reducible refine st_tOp ?_) | ((with_reducible apply st_n); rfl; rfl; (first | trivial | (show _ ≤ _; omega) | (show _ < _; omega) | (show _ ∨ _; omega) | assumption | exact ⟨by assumption, by omega⟩ | exact ⟨W30.one, by omega⟩ | fail); rfl) | (with_reducible refine st_i0 rfl rfl rfl ?_) | ((with_reducible refine st_i rfl rfl ?_ rfl ?_); first | omega | exact ⟨by decide, by decide, by decide⟩ | exact .inl ⟨by decide, by decide⟩ | exact .inl ⟨by omega, by omega⟩ | exact .inr ⟨by omega, by omega⟩ | fail) | ((fail_if_success refine Exists.intro (α := Nat → Nat → L2.St → Hp → Prop) ?_ ?_); (fail_if_success refine Exists.intro (α := L2.St → Hp → Prop) ?_ ?_); (fail_if_success refine Exists.intro (α := Nat → L2.St → Hp → Prop) ?_ ?_); apply Exists.intro) | ((refine And.intro ?_ ?_); first | with_reducible rfl | with_reducible assumption | rfl | ((with_reducible apply SqL.of); assumption) | ((with_reducible apply SqT.of); assumption) | ((with_reducible apply OwnC.cl); assumption) | (with_reducible exact isI_int _) | exact within_args | (with_reducible exact upd_same) | ((with_reducible apply Mid.o); assumption) | ((with_reducible apply Mid.t); assumption) | exact .inl ⟨rfl, _, SqL.of (by assumption)⟩ | (with_reducible exact ⟨_, SqT.of (by assumption)⟩) | (with_reducible exact ⟨_, SqL.of (by assumption)⟩) | omega | exact Nat.le_of_ble_eq_true rfl | exact nat9 (by omega) | exact ⟨_, rfl⟩ | (show _ ≤ sizeLine; decide) | exact ⟨by decide, by decide, by decide⟩ | exact .inl ⟨by decide, by decide⟩ | exact .inl ⟨by omega, by omega⟩ | exact .inr ⟨by omega, by omega⟩ | assumption | fail) | ((with_reducible refine iteF' ?_ ?_); first | rfl | exact decide_eq_false (by omega) | exact in_no (by omega) (by omega) | exact in_no (by omega) (by assumption) | (simp <;> fail) | fail) | ((with_reducible refine iteT' ?_ ?_); first | rfl | exact decide_eq_true (by omega) | (simp <;> fail) | fail))
      refine iteF' (decide_eq_false fun z => n3 (by have := V.int.inj z; omega)) ?_
      repeat (first | (with_reducible refine st_tC ?_) | (with_reducible refine st_tOp ?_) | ((with_reducible apply st_n); rfl; rfl; (first | trivial | (show _ ≤ _; omega) | (show _ < _; omega) | (show _ ∨ _; omega) | assumption | exact ⟨by assumption, by omega⟩ | exact ⟨W30.one, by omega⟩ | fail); rfl) | (with_reducible refine st_i0 rfl rfl rfl ?_) | ((with_reducible refine st_i rfl rfl ?_ rfl ?_); first | omega | exact ⟨by decide, by decide, by decide⟩ | exact .inl ⟨by decide, by decide⟩ | exact .inl ⟨by omega, by omega⟩ | exact .inr ⟨by omega, by omega⟩ | fail) | ((fail_if_success refine Exists.intro (α := Nat → Nat → L2.St → Hp → Prop) ?_ ?_); (fail_if_success refine Exists.intro (α := L2.St → Hp → Prop) ?_ ?_); (fail_if_success refine Exists.intro (α := Nat → L2.St → Hp → Prop) ?_ ?_); apply Exists.intro) | ((refine And.intro ?_ ?_); first | with_reducible rfl | with_reducible assumption | rfl | ((with_reducible apply SqL.of); assumption) | ((with_reducible apply SqT.of); assumption) | ((with_reducible apply OwnC.cl); assumption) | (with_reducible exact isI_int _) | exact within_args | (with_reducible exact upd_same) | ((with_reducible apply Mid.o); assumption) | ((with_reducible apply Mid.t); assumption) | exact .inl ⟨rfl, _, SqL.of (by assumption)⟩ | (with_reducible exact ⟨_, SqT.of (by assumption)⟩) | (with_reducible exact ⟨_, SqL.of (by assumption)⟩) | omega | exact Nat.le_of_ble_eq_true rfl | exact nat9 (by omega) | exact ⟨_, rfl⟩ | (show _ ≤ sizeLine; decide) | exact ⟨by decide, by decide, by decide⟩ | exact .inl ⟨by decide, by decide⟩ | exact .inl ⟨by omega, by omega⟩ | exact .inr ⟨by omega, by omega⟩ | assumption | fail) | ((with_reducible refine iteF' ?_ ?_); first | rfl | exact decide_eq_false (by omega) | exact in_no (by omega) (by omega) | exact in_no (by omega) (by assumption) | (simp <;> fail) | fail) | ((with_reducible refine iteT' ?_ ?_); first | rfl | exact decide_eq_true (by omega) | (simp <;> fail) | fail))
      refine iteF' (decide_eq_false fun z => n4 (by have := V.int.inj z; omega)) ?_
      repeat (first | (with_reducible refine st_tC ?_) | (with_reducible refine st_tOp ?_) | ((with_reducible apply st_n); rfl; rfl; (first | trivial | (show _ ≤ _; omega) | (show _ < _; omega) | (show _ ∨ _; omega) | assumption | exact ⟨by assumption, by omega⟩ | exact ⟨W30.one, by omega⟩ | fail); rfl) | (with_reducible refine st_i0 rfl rfl rfl ?_) | ((with_reducible refine st_i rfl rfl ?_ rfl ?_); first | omega | exact ⟨by decide, by decide, by decide⟩ | exact .inl ⟨by decide, by decide⟩ | exact .inl ⟨by omega, by omega⟩ | exact .inr ⟨by omega, by omega⟩ | fail) | ((fail_if_success refine Exists.intro (α := Nat → Nat → L2.St → Hp → Prop) ?_ ?_); (fail_if_success refine Exists.intro (α := L2.St → Hp → Prop) ?_ ?_); (fail_if_success refine Exists.intro (α := Nat → L2.St → Hp → Prop) ?_ ?_); apply Exists.intro) | ((refine And.intro ?_ ?_); first | with_reducible rfl | with_reducible assumption | rfl | ((with_reducible apply SqL.of); assumption) | ((with_reducible apply SqT.of); assumption) | ((with_reducible apply OwnC.cl); assumption) | (with_reducible exact isI_int _) | exact within_args | (with_reducible exact upd_same) | ((with_reducible apply Mid.o); assumption) | ((with_reducible apply Mid.t); assumption) | exact .inl ⟨rfl, _, SqL.of (by assumption)⟩ | (with_reducible exact ⟨_, SqT.of (by assumption)⟩) | (with_reducible exact ⟨_, SqL.of (by assumption)⟩) | omega | exact Nat.le_of_ble_eq_true rfl | exact nat9 (by omega) | exact ⟨_, rfl⟩ | (show _ ≤ sizeLine; decide) | exact ⟨by decide, by decide, by decide⟩ | exact .inl ⟨by decide, by decide⟩ | exact .inl ⟨by omega, by omega⟩ | exact .inr ⟨by omega, by omega⟩ | assumption | fail) | ((with_reducible refine iteF' ?_ ?_); first | rfl | exact decide_eq_false (by omega) | exact in_no (by omega) (by omega) | exact in_no (by omega) (by assumption) | (simp <;> fail) | fail) | ((with_reducible refine iteT' ?_ ?_); first | rfl | exact decide_eq_true (by omega) | (simp <;> fail) | fail))
      intro x1 h_x1; have np_x1 := M.pD h_x1; have nb_x1 := M.bD h_x1; generalize hE : upd _ x1 _ = Hx0; obtain ⟨S_x1, g_x1⟩ := new_facts h_x1 hE; clear hE; replace M := M.same S_x1; replace bt := bt.same S_x1; replace g_it := S_x1 _ _ g_it
      replace g_x1 : Hx0 x1 = some (.lst (([o] : List Str).map V.str)) := g_x1
      repeat (first | (with_reducible refine st_tC ?_) | (with_reducible refine st_tOp ?_) | ((with_reducible apply st_n); rfl; rfl; (first | trivial | (show _ ≤ _; omega) | (show _ < _; omega) | (show _ ∨ _; omega) | assumption | exact ⟨by assumption, by omega⟩ | exact ⟨W30.one, by omega⟩ | fail); rfl) | (with_reducible refine st_i0 rfl rfl rfl ?_) | ((with_reducible refine st_i rfl rfl ?_ rfl ?_); first | omega | exact ⟨by decide, by decide, by decide⟩ | exact .inl ⟨by decide, by decide⟩ | exact .inl ⟨by omega, by omega⟩ | exact .inr ⟨by omega, by omega⟩ | fail) | ((fail_if_success refine Exists.intro (α := Nat → Nat → L2.St → Hp → Prop) ?_ ?_); (fail_if_success refine Exists.intro (α := L2.St → Hp → Prop) ?_ ?_); (fail_if_success refine Exists.intro (α := Nat → L2.St → Hp → Prop) ?_ ?_); apply Exists.intro) | ((refine And.intro ?_ ?_); first | with_reducible rfl | with_reducible assumption | rfl | ((with_reducible apply SqL.of); assumption) | ((with_reducible apply SqT.of); assumption) | ((with_reducible apply OwnC.cl); assumption) | (with_reducible exact isI_int _) | exact within_args | (with_reducible exact upd_same) | ((with_reducible apply Mid.o); assumption) | ((with_reducible apply Mid.t); assumption) | exact .inl ⟨rfl, _, SqL.of (by assumption)⟩ | (with_reducible exact ⟨_, SqT.of (by assumption)⟩) | (with_reducible exact ⟨_, SqL.of (by assumption)⟩) | omega | exact Nat.le_of_ble_eq_true rfl | exact nat9 (by omega) | exact ⟨_, rfl⟩ | (show _ ≤ sizeLine; decide) | exact ⟨by decide, by decide, by decide⟩ | exact .inl ⟨by decide, by decide⟩ | exact .inl ⟨by omega, by omega⟩ | exact .inr ⟨by omega, by omega⟩ | assumption | fail) | ((with_reducible refine iteF' ?_ ?_); first | rfl | exact decide_eq_false (by omega) | exact in_no (by omega) (by omega) | exact in_no (by omega) (by assumption) | (simp <;> fail) | fail) | ((with_reducible refine iteT' ?_ ?_); first | rfl | exact decide_eq_true (by omega) | (simp <;> fail) | fail))
      refine ⟨by simp only [List.length_map, List.length_append, List.length_take, List.length_drop, List.length_cons, List.length_nil, List.length_reverse]; rw [sizeLine_eq]; omega, ?_⟩
      intro x2 h_x2; have np_x2 := M.pD h_x2; have nb_x2 := M.bD h_x2; generalize hE : upd _ x2 _ = Hx1; obtain ⟨S_x2, g_x2⟩ := new_facts h_x2 hE; clear hE; replace M := M.same S_x2; replace bt := bt.same S_x2; replace g_it := S_x2 _ _ g_it; replace g_x1 := S_x2 _ _ g_x1
      rw [← List.map_append] at g_x2
      refine fin (ys ++ [o]) x2 Hx1 np_x2 g_x2 M bt (fun y hy => ?_) (by simp only [wgt_app]; omega)
      rcases List.mem_append.mp hy with z | z
      · exact .inl z
      · exact .inr (List.mem_singleton.mp z)
end
end K46
namespace K46
open PySem PySem.Spec PyProof.Rows L2 OB SkE LamX
structure ErrR (K : PySem.W.Frag) (CF C : Addr) : Prop where
  xf : XfC K C
  ec : ExcC K C
  ex : PySem.W.exmOne K (.ref C) (.ref CF) = some true
structure Kinds (K : PySem.W.Frag) (mg : Str → Option Value) (CF CP CT : Addr) : Prop where
  gF : mg "FlipError" = some (.ref CF)
  gP : mg "BadPhases" = some (.ref CP)
  gT : mg "BadText" = some (.ref CT)
  rP : ErrR K CF CP
  rT : ErrR K CF CT
  nP : PySem.W.findIn K (.ref CP) "part" = some none
  n1 : PySem.W.findIn K (.ref CT) "line" = some none
  n2 : PySem.W.findIn K (.ref CT) "item" = some none
  kPP : PySem.W.kitOne K (.ref CP) (.ref CP) = some true
  kPT : PySem.W.kitOne K (.ref CP) (.ref CT) = some false
  kTT : PySem.W.kitOne K (.ref CT) (.ref CT) = some true
def TTheard (CP CT : Addr) : List V → (XK → Hp → VK → Prop) → Hp → VK → Prop := fun vs tl H Q => vs = [] ∧
  tl (fun cls d H' => ∃ dd : Addr, d = some dd ∧ ((cls = .ref CP ∧ ∃ part : Str, H' dd = some (.xd [(("part" : Str), .str part)]) ∧ ∀ p H'', Same H' H'' → H'' p = some (.tup [.str "phases", .str part]) → Q (.ref p) H'') ∨
    (cls = .ref CT ∧ ∃ ln it : Int, H' dd = some (.xd [(("item" : Str), .int it), (("line" : Str), .int ln)]) ∧ ∀ p H'', Same H' H'' → H'' p = some (.tup [.str "text", .int ln, .int it]) → Q (.ref p) H''))) H fun _ _ => False
section
theorem sc__law_heard : FnScope ["ask", "caught", "error"] ["ask"] (defScope s__law_heard) := ⟨rfl, rfl, rfl, by decide +kernel, rfl, by decide +kernel, by decide +kernel⟩
abbrev N__law_heard : List Str := ["ask", "caught", "error"]
theorem heard_gives {X : Cx} {g CF CP CT : Addr} {cdg : Value} {q : Str} {kk : Nat} (Z : Kinds X.K X.mg CF CP CT) (T : Blt X.mg) : Gives X ["ask", "caught", "error"] "_law_heard" (defScope s__law_heard) g cdg (defBody s__law_heard) "ask" q kk (TTheard CP CT) := by
  intro f c' vs s H Q tl hr act hc mono h
  obtain ⟨rfl, h⟩ := h
  have g_FlipError := Z.gF
  have g_BadPhases := Z.gP
  have g_BadText := Z.gT
  refine ⟨_, (pss_cons (ps_set (i := 1) sc__law_heard.nd rfl (Or.inl rfl) pe_non)
  (pss_cons (ps_try_keep (i := 2) (j := 1) (Wout := fun _ _ _ _ => False) rfl rfl rfl sc__law_heard.nd rfl rfl rfl rfl ⟨by rfl, by decide, .inl g_FlipError⟩ L2.takes0 (fun W pn xe tk _ => (pss_one (ps_expr (act W pn xe _ _ tk)))))
  (pss_cons (ps_if (pt_val (pe_callB (call_or call_isX call_isi) (by rfl) T.n_isinstance (by decide +kernel) (pa_cons (pv 1) (pa_cons (pe_glob (v := .ref _) (by rfl) g_BadText rfl) pa_nil)))) (pss_one (ps_ret (pe_tup (pa_cons pe_str (pa_cons (pe_xa (pv 1)) (pa_cons (pe_xa (pv 1)) pa_nil)))))) pss_nil)
  (pss_cons (ps_if (pt_val (pe_callB (call_or call_isX call_isi) (by rfl) T.n_isinstance (by decide +kernel) (pa_cons (pv 1) (pa_cons (pe_glob (v := .ref _) (by rfl) g_BadPhases rfl) pa_nil)))) (pss_one (ps_ret (pe_tup (pa_cons pe_str (pa_cons (pe_xa (pv 1)) pa_nil))))) pss_nil)
  (pss_one ps_never))))), ?_⟩
  refine ⟨rfl, hc, ?_⟩
  refine mono _ _ _ _ _ ?_ ?_ h
  rotate_left
  · intro v H' k
    exact k.elim
  · rintro cls d H' ⟨dd, rfl, ⟨rfl, part, hd, k⟩ | ⟨rfl, ln, it, hd, k⟩⟩
    · refine ⟨true, Z.rP.ex, fun _ a ha => ?_, fun z => nomatch z⟩
      have nad : dd ≠ a := ne_of_none hd ha
      have hd1 : (upd H' a (ExA (.ref CP) (some dd) a)) dd = some (.xd [(("part" : Str), .str part)]) := by
        rw [upd_ne nad]
        exact hd
      have S0 := same_new (o := ExA (.ref CP) (some dd) a) ha
      refine ⟨_, rfl, .inl ⟨a, CP, some dd, .ref CT, .ref CT, false, rfl, Z.rP.ec, upd_same, (fun z e => by cases e; exact ⟨_, hd1⟩), .own CT, Z.kPT, ?_⟩⟩
      refine ⟨false, rfl, ?_⟩
      refine ⟨_, rfl, .inl ⟨a, CP, some dd, .ref CP, .ref CP, true, rfl, Z.rP.ec, upd_same, (fun z e => by cases e; exact ⟨_, hd1⟩), .own CP, Z.kPP, ?_⟩⟩
      exact ⟨true, rfl, _, rfl, a, CP, dd, _, _, rfl, Z.rP.xf, Z.nP, upd_same, hd1, rfl, (by show 2 ≤ sizeLine; decide), fun p hp => k p _ (S0.trans (same_new hp)) upd_same⟩
    · refine ⟨true, Z.rT.ex, fun _ a ha => ?_, fun z => nomatch z⟩
      have nad : dd ≠ a := ne_of_none hd ha
      have hd1 : (upd H' a (ExA (.ref CT) (some dd) a)) dd = some (.xd [(("item" : Str), .int it), (("line" : Str), .int ln)]) := by
        rw [upd_ne nad]
        exact hd
      have S0 := same_new (o := ExA (.ref CT) (some dd) a) ha
      refine ⟨_, rfl, .inl ⟨a, CT, some dd, .ref CT, .ref CT, true, rfl, Z.rT.ec, upd_same, (fun z e => by cases e; exact ⟨_, hd1⟩), .own CT, Z.kTT, ?_⟩⟩
      exact ⟨true, rfl, _, rfl, a, CT, dd, _, _, rfl, Z.rT.xf, Z.n1, upd_same, hd1, rfl, _, rfl, a, CT, dd, _, _, rfl, Z.rT.xf, Z.n2, upd_same, hd1, rfl, (by show 3 ≤ sizeLine; decide), fun p hp => k p _ (S0.trans (same_new hp)) upd_same⟩
end
end K46
namespace K46
open PySem PySem.Spec PyProof.Rows L2 OB SkE LamX
/-! ### phases as data: each a list or a tuple of numbers -/
abbrev natL (ns : List Nat) : List PyData := ns.map fun n : Nat => PyData.int (n : Int)
def mkD (m : Bool × List Nat) : PyData := match m with
  | (true, q) => .list (natL q)
  | (false, q) => .tuple (natL q)
def mkO (m : Bool × List Nat) : HO := match m with
  | (true, q) => .lst (natV q)
  | (false, q) => .tup (natV q)
theorem dp_nats {K : PySem.W.Frag} {H : Hp} : ∀ ns : List Nat, DpAll K H (natV ns) (natL ns)
  | [] => .nil
  | n :: r => .cons (.int _) (dp_nats r)
def MDs (H : Hp) : List V → List (Bool × List Nat) → Prop
  | [], [] => True
  | v :: vs, p :: ps => (∃ t, v = .ref t ∧ H t = some (mkO p)) ∧ MDs H vs ps
  | _, _ => False
theorem MDs.mono {H H' : Hp} : ∀ {vs : List V} {ps : List (Bool × List Nat)}, MDs H vs ps → (∀ t, V.ref t ∈ vs → ∀ o, H t = some o → H' t = some o) → MDs H' vs ps
  | [], [], _, _ => trivial
  | _ :: _, _ :: _, ⟨⟨t, e, h⟩, r⟩, k => ⟨⟨t, e, k t (e ▸ List.mem_cons_self) _ h⟩, MDs.mono r fun u hu => k u (List.mem_cons_of_mem _ hu)⟩
  | [], _ :: _, h, _ => h.elim
  | _ :: _, [], h, _ => h.elim
theorem MDs.app {H : Hp} {vs2 : List V} {ps2 : List (Bool × List Nat)} (h2 : MDs H vs2 ps2) : ∀ {vs : List V} {ps : List (Bool × List Nat)}, MDs H vs ps → MDs H (vs ++ vs2) (ps ++ ps2)
  | [], [], _ => h2
  | _ :: _, _ :: _, ⟨e, r⟩ => ⟨e, MDs.app h2 r⟩
  | [], _ :: _, h => h.elim
  | _ :: _, [], h => h.elim
theorem MDs.len {H : Hp} : ∀ {vs : List V} {ps : List (Bool × List Nat)}, MDs H vs ps → vs.length = ps.length
  | [], [], _ => rfl
  | _ :: _, _ :: _, ⟨_, r⟩ => congrArg (· + 1) (MDs.len r)
  | [], _ :: _, h => h.elim
  | _ :: _, [], h => h.elim
theorem MDs.dp {K : PySem.W.Frag} {H : Hp} : ∀ {vs : List V} {ps : List (Bool × List Nat)}, MDs H vs ps → DpAll K H vs (ps.map mkD)
  | [], [], _ => .nil
  | _ :: _, (true, q) :: _, ⟨⟨t, e, h⟩, r⟩ => by
    subst e
    exact .cons (.lst (SqL.of h) (dp_nats q)) (MDs.dp r)
  | _ :: _, (false, q) :: _, ⟨⟨t, e, h⟩, r⟩ => by
    subst e
    exact .cons (.tup (SqT.of h) (dp_nats q)) (MDs.dp r)
  | [], _ :: _, h => h.elim
  | _ :: _, [], h => h.elim
theorem MDs.new {H : Hp} {q : Addr} (hq : H q = none) : ∀ {vs : List V} {ps : List (Bool × List Nat)}, MDs H vs ps → V.ref q ∉ vs
  | [], _, _ => List.not_mem_nil
  | _ :: _, _ :: _, ⟨⟨t, e, h⟩, r⟩ => fun z => by
    rcases List.mem_cons.mp z with z | z
    · rw [e] at z
      injection z with z
      rw [z, h] at hq
      cases hq
    · exact MDs.new hq r z
  | _ :: _, [], h => h.elim
theorem PTs.mds {H : Hp} : ∀ {vs : List V} {ps : List (List Nat)}, PTs H vs ps → MDs H vs (ps.map fun q => (false, q))
  | [], [], _ => trivial
  | _ :: _, _ :: _, ⟨e, r⟩ => ⟨e, PTs.mds r⟩
  | [], _ :: _, h => h.elim
  | _ :: _, [], h => h.elim
theorem nat_nice : ∀ q : List Nat, (∀ n ∈ q, n ≤ 20000) → niceAll (natL q) = true ∧ PyData.canLayAll0 (natL q) = true ∧ PyData.depthAll (natL q) ≤ 1 ∧ szAll (natL q) = 1923 * q.length
  | [], _ => by simp [niceAll, PyData.canLayAll0, PyData.depthAll, szAll]
  | n :: r, h => by
    obtain ⟨a, b, c, d⟩ := nat_nice r fun m hm => h m (List.mem_cons_of_mem _ hm)
    have e := (ds_room (h n List.mem_cons_self)).2
    refine ⟨?_, ?_, ?_, ?_⟩
    · show (nice (.int (n : Int)) && niceAll (natL r)) = true
      rw [a, Bool.and_true]
      exact decide_eq_true e
    · simp [PyData.canLayAll0, PyData.canLay0, b]
    · show max (PyData.int (n : Int)).depth (PyData.depthAll (natL r)) ≤ 1
      simp only [PyData.depth]
      omega
    · show sz (.int (n : Int)) + 2 + szAll (natL r) = _
      rw [d, List.length_cons]
      simp only [sz]
      omega
theorem mk_nice : ∀ ms : List (Bool × List Nat), (∀ m ∈ ms, ∀ n ∈ m.2, n ≤ 20000) → niceAll (ms.map mkD) = true ∧ PyData.canLayAll0 (ms.map mkD) = true ∧ PyData.depthAll (ms.map mkD) ≤ 2 ∧ szAll (ms.map mkD) = 1923 * (ms.map fun m => m.2.length).sum + 4 * ms.length
  | [], _ => by simp [niceAll, PyData.canLayAll0, PyData.depthAll, szAll]
  | (bq, q) :: r, h => by
    obtain ⟨a, b, c, d⟩ := mk_nice r fun m hm => h m (List.mem_cons_of_mem _ hm)
    obtain ⟨a1, b1, c1, d1⟩ := nat_nice q (h _ List.mem_cons_self)
    have f1 : nice (mkD (bq, q)) = true := by cases bq <;> simp only [mkD, nice, a1]
    have f2 : (mkD (bq, q)).canLay0 = true := by cases bq <;> simp only [mkD, PyData.canLay0, b1]
    have f3 : (mkD (bq, q)).depth ≤ 2 := by cases bq <;> simp only [mkD, PyData.depth] <;> omega
    have f4 : sz (mkD (bq, q)) = 1923 * q.length + 2 := by cases bq <;> simp only [mkD, sz, d1]
    refine ⟨?_, ?_, ?_, ?_⟩
    · show (nice (mkD (bq, q)) && niceAll (r.map mkD)) = true
      rw [a, f1]
      rfl
    · show ((mkD (bq, q)).canLay0 && PyData.canLayAll0 (r.map mkD)) = true
      rw [b, f2]
      rfl
    · show max (mkD (bq, q)).depth (PyData.depthAll (r.map mkD)) ≤ 2
      omega
    · show sz (mkD (bq, q)) + 2 + szAll (r.map mkD) = _
      rw [d, f4, List.map_cons, List.sum_cons, List.length_cons]
      show 1923 * q.length + 2 + 2 + _ = 1923 * (q.length + _) + _
      omega
/-- what repr asks of phases -/
theorem mk_repr {ms : List (Bool × List Nat)} (h : ∀ m ∈ ms, ∀ n ∈ m.2, n ≤ 20000) (hs : (ms.map fun m => m.2.length).sum ≤ 1000) (hl : ms.length ≤ 1000) :
    (nice (.list (ms.map mkD)) = true ∧ (PyData.list (ms.map mkD)).canLay0 = true ∧ (PyData.list (ms.map mkD)).depth ≤ 60 ∧ sz (.list (ms.map mkD)) ≤ 16000000) ∧
    (nice (.tuple (ms.map mkD)) = true ∧ (PyData.tuple (ms.map mkD)).canLay0 = true ∧ (PyData.tuple (ms.map mkD)).depth ≤ 60 ∧ sz (.tuple (ms.map mkD)) ≤ 16000000) := by
  obtain ⟨a, b, c, d⟩ := mk_nice ms h
  refine ⟨⟨by simp only [nice, a], by simp only [PyData.canLay0, b], by simp only [PyData.depth]; omega, by simp only [sz, d]; omega⟩, by simp only [nice, a], by simp only [PyData.canLay0, b], by simp only [PyData.depth]; omega, by simp only [sz, d]; omega⟩
theorem shp_natsL (ns : List Nat) (h : ∀ n ∈ ns, n ≤ 20000) : SeqAt.shaped (.list (natL ns)) = true := by
  obtain ⟨a, b, c, d⟩ := nat_nice ns h
  unfold SeqAt.shaped
  rw [Bool.and_eq_true]
  exact ⟨by simp only [PyData.canLay0, b], decide_eq_true (by simp only [PyData.depth]; omega)⟩
theorem eqv_natsL (ns : List Nat) : PyData.eqv (.list (natL ns)) (.list []) = decide (ns = []) := by
  cases ns <;> simp [PyData.eqv, PyData.eqvAll]
/-- a list or a tuple of the numbers of a phase is that phase -/
theorem phE_of {K : PySem.W.Frag} {H : Hp} {t : Addr} {m : Bool × List Nat} {l : List Nat} (g : H t = some (mkO m)) (pm : m.2.Perm l) (ne : l ≠ []) (pw : l.Pairwise (· < ·)) (l4 : l.length ≤ 400) (hn : ∀ n ∈ l, n ≤ 20000) : PhE K H (.ref t) l := by
  obtain ⟨bq, q⟩ := m
  have pm : q.Perm l := pm
  have ev : EvL K H (.ref t) true := fun H' S => by
    cases bq with
    | true => exact isL_lst (S _ _ g)
    | false => exact isL_tup (S _ _ g)
  have eq : natV q = (q.map fun n : Nat => (n : Int)).map V.int := by
    unfold natV
    rw [List.map_map]
    rfl
  have ql := pm.length_eq
  refine ⟨q.map fun n : Nat => (n : Int), ⟨t, rfl, ?_, by rw [List.length_map]; omega, ev, fun n hn9 => ?_, ?_⟩, pm.map _, ne, pw, l4, hn⟩
  · rw [← eq]
    cases bq with
    | true => exact .inl (SqL.of g)
    | false => exact .inr (SqT.of g)
  · obtain ⟨n', h', rfl⟩ := List.mem_map.mp hn9
    have := hn n' (pm.mem_iff.mp h')
    show (decide ((0 : Int) ≤ (n' : Int)) && decide ((n' : Int) ≤ 20000)) = true
    rw [decide_eq_true (by omega), decide_eq_true (by omega)]
    rfl
  · have nd : q.Nodup := pm.nodup_iff.mpr (pw.imp fun z => Nat.ne_of_lt z)
    refine List.Pairwise.map _ (fun a b z w => z ?_) nd
    exact Int.ofNat.inj w
def Prm : List (Bool × List Nat) → List (List Nat) → Prop
  | [], [] => True
  | m :: ms, l :: ls => m.2.Perm l ∧ Prm ms ls
  | _, _ => False
theorem Prm.same : ∀ ps : List (List Nat), Prm (ps.map fun q => (false, q)) ps
  | [] => trivial
  | p :: r => ⟨.refl _, Prm.same r⟩
theorem Prm.app {m : Bool × List Nat} {l : List Nat} (h : m.2.Perm l) : ∀ {ms : List (Bool × List Nat)} {ls : List (List Nat)}, Prm ms ls → Prm (ms ++ [m]) (ls ++ [l])
  | [], [], _ => ⟨h, trivial⟩
  | _ :: _, _ :: _, ⟨a, r⟩ => ⟨a, Prm.app h r⟩
  | [], _ :: _, h => h.elim
  | _ :: _, [], h => h.elim
theorem Prm.facts : ∀ {ms : List (Bool × List Nat)} {ls : List (List Nat)}, Prm ms ls → (∀ l ∈ ls, ∀ n ∈ l, n ≤ 20000) → (∀ m ∈ ms, ∀ n ∈ m.2, n ≤ 20000) ∧ (ms.map fun m => m.2.length).sum = (ls.map fun l => l.length).sum ∧ ms.length = ls.length
  | [], [], _, _ => ⟨(fun m hm => by cases hm), rfl, rfl⟩
  | m :: ms, l :: ls, ⟨p, r⟩, h => by
    obtain ⟨a, b, c⟩ := Prm.facts r fun x hx => h x (List.mem_cons_of_mem _ hx)
    refine ⟨fun x hx n hn => ?_, by rw [List.map_cons, List.map_cons, List.sum_cons, List.sum_cons, b, p.length_eq], by rw [List.length_cons, List.length_cons, c]⟩
    rcases List.mem_cons.mp hx with rfl | hx
    · exact h l List.mem_cons_self n (p.mem_iff.mp hn)
    · exact a x hx n hn
  | [], _ :: _, h, _ => h.elim
  | _ :: _, [], h, _ => h.elim
theorem MDs.phl {K : PySem.W.Frag} {H : Hp} : ∀ {vs : List V} {ms : List (Bool × List Nat)} {ls : List (List Nat)}, MDs H vs ms → Prm ms ls → (∀ l ∈ ls, l ≠ [] ∧ l.Pairwise (· < ·) ∧ l.length ≤ 400 ∧ ∀ n ∈ l, n ≤ 20000) → PhL K H vs ls
  | [], [], [], _, _, _ => trivial
  | _ :: _, _ :: _, _ :: _, ⟨⟨t, e, g⟩, r⟩, ⟨p, q⟩, h => by
    subst e
    obtain ⟨a, b, c, d⟩ := h _ List.mem_cons_self
    exact ⟨phE_of g p a b c d, MDs.phl r q fun l hl => h l (List.mem_cons_of_mem _ hl)⟩
  | [], _ :: _, _, h, _, _ => h.elim
  | _ :: _, [], _, h, _, _ => h.elim
  | [], [], _ :: _, _, h, _ => h.elim
  | _ :: _, _ :: _, [], _, h, _ => h.elim
end K46
/-! A walk over a tuple or a list, whatever is done at each turn: for rows of two `for`. -/
namespace OB
open PySem PySem.Spec PyProof.Rows L2
theorem walk_tup {K : PySem.W.Frag} {a : Addr} {xs : List V} {H0 : Hp} {body : (Hp → Prop) → V → Hp → Prop} {Qd : Hp → Prop} (Pv : Nat → Hp → Prop) (h0 : Pv 0 H0) (hl : ∀ i H, i ≤ xs.length → Pv i H → SqT K H a xs)
    (hs : ∀ i x H, xs[i]? = some x → Pv i H → body (Pv (i + 1)) x H) (hd : ∀ H, Pv xs.length H → Qd H) :
    ∃ W : Nat → Nat → Hp → Prop, (∃ m, W 0 m H0) ∧ ∀ i m H, W i m H →
      ((Itt K a).stop i H ∧ Qd H) ∨ ((Itt K a).go i H ∧ ∃ Nx : Hp → Prop, (∀ H', Nx H' → ∃ m', m' < m ∧ W (i + 1) m' H') ∧ ∀ x H', (Itt K a).yld i H x H' → body Nx x H') := by
  refine ⟨fun i m H => m = xs.length - i ∧ i ≤ xs.length ∧ Pv i H, ⟨xs.length, by simp, Nat.zero_le _, h0⟩, ?_⟩
  rintro i m H ⟨rfl, hi, p⟩
  have q := hl i H hi p
  by_cases hlt : i < xs.length
  · refine .inr ⟨⟨xs, xs[i], q, by simp [hlt]⟩, Pv (i + 1), fun H' p' => ⟨xs.length - (i + 1), by omega, rfl, hlt, p'⟩, fun x H' y => ?_⟩
    obtain ⟨e, y⟩ := y
    subst e
    exact hs i x _ (y xs q) p
  · have e : i = xs.length := by omega
    subst e
    exact .inl ⟨⟨xs, q, Nat.le_refl _⟩, hd H p⟩
theorem walk_lst {K : PySem.W.Frag} {a : Addr} {xs : List V} {H0 : Hp} {body : (Hp → Prop) → V → Hp → Prop} {Qd : Hp → Prop} (Pv : Nat → Hp → Prop) (h0 : Pv 0 H0) (hl : ∀ i H, i ≤ xs.length → Pv i H → SqL K H a xs)
    (hs : ∀ i x H, xs[i]? = some x → Pv i H → body (Pv (i + 1)) x H) (hd : ∀ H, Pv xs.length H → Qd H) :
    ∃ W : Nat → Nat → Hp → Prop, (∃ m, W 0 m H0) ∧ ∀ i m H, W i m H →
      ((Itl K a).stop i H ∧ Qd H) ∨ ((Itl K a).go i H ∧ ∃ Nx : Hp → Prop, (∀ H', Nx H' → ∃ m', m' < m ∧ W (i + 1) m' H') ∧ ∀ x H', (Itl K a).yld i H x H' → body Nx x H') := by
  refine ⟨fun i m H => m = xs.length - i ∧ i ≤ xs.length ∧ Pv i H, ⟨xs.length, by simp, Nat.zero_le _, h0⟩, ?_⟩
  rintro i m H ⟨rfl, hi, p⟩
  have q := hl i H hi p
  by_cases hlt : i < xs.length
  · refine .inr ⟨⟨xs, xs[i], q, by simp [hlt]⟩, Pv (i + 1), fun H' p' => ⟨xs.length - (i + 1), by omega, rfl, hlt, p'⟩, fun x H' y => ?_⟩
    obtain ⟨e, y⟩ := y
    subst e
    exact hs i x _ (y xs q) p
  · have e : i = xs.length := by omega
    subst e
    exact .inl ⟨⟨xs, q, Nat.le_refl _⟩, hd H p⟩
end OB
namespace K46
open PySem PySem.Spec PyProof.Rows L2 OB SkE LamX ClX
def LQa : Str := (envOfC "_law_text_right" (defScope s__law_text_right) 0 0 .none).qual ++ "<lambda>"
def LQb : Str := (envOfC "law" (defScope s_law) 0 0 .none).qual ++ "<lambda>"
abbrev TB2 (Pa Pb : Addr) : List (Addr × Str) := [(Pa, LQa), (Pb, LQb)]
theorem phread_mono {K : PySem.W.Frag} {CT : Addr} : SpMono (spPhRead K CT) := fun vs H Q1 Q2 E1 E2 hE hQ ⟨x, e, h⟩ => by
  refine ⟨x, e, ?_⟩
  rcases h with ⟨a, r⟩ | ⟨z, e1, hz, k1, k2⟩
  · exact .inl ⟨a, fun d hd => hE _ _ _ (r d hd)⟩
  · exact .inr ⟨z, e1, hz, fun i ei H' S d hd => hE _ _ _ (k1 i ei H' S d hd), fun ps ep q us H' n S g t => hQ _ _ (k2 ps ep q us H' n S g t)⟩
theorem phtext_mono {K : PySem.W.Frag} {CP : Addr} : SpMono (spPhText K CP) := fun vs H Q1 Q2 E1 E2 hE hQ ⟨x, e, h⟩ => by
  refine ⟨x, e, ?_⟩
  rcases h with ⟨a, r⟩ | ⟨a, xs, ls, e1, g, n, hl, k⟩
  · exact .inl ⟨a, fun H' S d hd => hE _ _ _ (r H' S d hd)⟩
  · exact .inr ⟨a, xs, ls, e1, g, n, hl, fun H' S => hQ _ _ (k H' S)⟩
/-- the tables stay -/
structure Tb (T : List (Addr × Str)) (H0 H : Hp) : Prop where
  t : Tabs T H
  e : Same H0 H
theorem Tb.same {T : List (Addr × Str)} {H0 H H' : Hp} (t : Tb T H0 H) (S : Same H H') : Tb T H0 H' := ⟨t.t.ext S, t.e.trans S⟩
def spTR (T : List (Addr × Str)) : Sp := fun vs H Q _ => ∃ z : Str, vs = [.str z] ∧ z.length ≤ 390 ∧ MN.asc z ∧ Tabs T H ∧ ∀ H', ExtN H H' → Tabs T H' → Q (.bl true) H'
/-- the law's own list of lots, item by item -/
def dstp (s : RS) (y : Str) : RS := if y = "|" then (s.1 ++ [s.2], []) else if y = "-" then s else (s.1, s.2 ++ [(MN.num y).getD 0])
def dueS (s : RS) : List Str → RS
  | [] => s
  | y :: r => dueS (dstp s y) r
theorem dstp_ds {D : List (List Nat)} {c : List Nat} {n : Nat} (h : n ≤ 20000) : dstp (D, c) (ds n) = (D, c ++ [n]) := by
  unfold dstp
  rw [if_neg (ds_bar h), if_neg (ds_dash h), num_ds5 h]
  rfl
theorem due_lot : ∀ (l : List Nat) (D : List (List Nat)) (c : List Nat) (ys : List Str), (∀ n ∈ l, n ≤ 20000) → dueS (D, c) (l.map ds ++ ys) = dueS (D, c ++ l) ys
  | [], D, c, ys, _ => by simp
  | n :: l, D, c, ys, h => by
    rw [List.map_cons, List.cons_append, dueS, dstp_ds (h n List.mem_cons_self), due_lot l _ _ _ fun m hm => h m (List.mem_cons_of_mem _ hm), List.append_assoc]
    rfl
theorem due_bars : ∀ (r : List (List Nat)) (D : List (List Nat)) (c : List Nat), (∀ l ∈ r, ∀ n ∈ l, n ≤ 20000) → (dueS (D, c) (bars r)).1 ++ [(dueS (D, c) (bars r)).2] = D ++ [c] ++ r
  | [], D, c, _ => by simp [bars, dueS]
  | l :: r, D, c, h => by
    have e : dstp (D, c) "|" = (D ++ [c], []) := by
      unfold dstp
      exact if_pos rfl
    rw [bars, dueS, e, due_lot l _ _ _ (h l List.mem_cons_self), List.nil_append, due_bars r _ _ fun m hm => h m (List.mem_cons_of_mem _ hm)]
    simp
/-- an item of a text that is read -/
def RdIt (y : Str) : Prop := y = "|" ∨ y = "-" ∨ ∃ n, MN.num y = some n ∧ n ≤ 20000
theorem bars_rd : ∀ (r : List (List Nat)), (∀ l ∈ r, ∀ n ∈ l, n ≤ 20000) → ∀ y ∈ bars r, RdIt y
  | [], _, _, h => by cases h
  | l :: r, hr, y, h => by
    rw [bars] at h
    rcases List.mem_cons.mp h with rfl | h
    · exact .inl rfl
    · rcases List.mem_append.mp h with h | h
      · obtain ⟨n, hn, rfl⟩ := List.mem_map.mp h
        have := hr l List.mem_cons_self n hn
        exact .inr (.inr ⟨n, num_ds5 this, this⟩)
      · exact bars_rd r (fun m hm => hr m (List.mem_cons_of_mem _ hm)) y h
theorem due_read {ys : List Str} {ps : List (List Nat)} (h : readP ys = .inr ps) (yne : ys ≠ []) : ((dueS ([], []) ys).1 ++ [(dueS ([], []) ys).2]).filter (fun l => decide (l ≠ [])) = ps ∧ ∀ y ∈ ys, RdIt y := by
  unfold readP at h
  by_cases e : ys.head? = some "-"
  · rw [if_pos e] at h
    by_cases l1 : ys.length ≤ 1
    · rw [if_pos l1] at h
      obtain rfl := Sum.inr.inj h
      cases ys with
      | nil => cases e
      | cons a r =>
        cases r with
        | nil =>
          obtain rfl := Option.some.inj e
          refine ⟨by decide +kernel, fun y hy => ?_⟩
          rw [List.mem_singleton.mp hy]
          exact .inr (.inl rfl)
        | cons _ _ => simp at l1
    · rw [if_neg l1] at h
      cases h
  · rw [if_neg e] at h
    obtain ⟨l, r, rfl, rfl, k1, k2, k3, k4⟩ := rd_back ys [] [] 0 ps h (by simp) (fun n hn => by cases hn)
    rw [List.nil_append] at *
    have hr : ∀ m ∈ r, ∀ n ∈ m, n ≤ 20000 := fun m hm => (k4 m hm).2.2
    refine ⟨?_, fun y hy => ?_⟩
    · rw [due_lot l _ _ _ k3, List.nil_append, due_bars r _ _ hr]
      refine List.filter_eq_self.mpr fun m hm => decide_eq_true ?_
      rcases List.mem_cons.mp (show m ∈ l :: r from hm) with rfl | hm
      · exact k1
      · exact (k4 m hm).1
    · rcases List.mem_append.mp hy with z | z
      · obtain ⟨n, hn, rfl⟩ := List.mem_map.mp z
        exact .inr (.inr ⟨n, num_ds5 (k3 n hn), k3 n hn⟩)
      · exact bars_rd r hr y z
theorem stop_inl {r : Nat ⊕ List (List Nat)} {i : Nat} (h : r = .inl i) : oS r = .int (i : Int) := by rw [h]; rfl
theorem stop_inr {r : Nat ⊕ List (List Nat)} {ps : List (List Nat)} (h : r = .inr ps) : oS r = .non := by rw [h]; rfl
section
variable {P : Program} {w : World} {K : PySem.W.Frag} {mg : Str → Option Value} {base : Heap}
theorem sc__law_text_right : FnScope ["text", "items", "stop", "told", "due", "item", "phase"] ["text"] (defScope s__law_text_right) := ⟨rfl, rfl, rfl, by decide +kernel, rfl, by decide +kernel, by decide +kernel⟩
abbrev N__law_text_right : List Str := ["text", "items", "stop", "told", "due", "item", "phase"]
theorem ok__law_text_right {f f1 f2 f3 f4 CF CP CT c Pa Pb : Addr} {fd1 fd2 fd3 fd4 : FuncData} {oc kV doc pm ct : Value} {od an : Option Addr} {osl : Array (Option Value)} (T : Blt mg)
    (lk : K.lookup f = some ⟨oc, od, .func (PySem.W.fnOf "_law_text_right" "_law_text_right" (defArgs s__law_text_right) (defBody s__law_text_right) (defScope s__law_text_right) .none kV doc pm an (.ref c) ct), osl⟩) (hcd : PySem.W.codeIn K (.ref c) "_law_text_right" = true)
    (TB : TabB base mg c Pa) (hu : ∀ p ∈ TB2 Pa Pb, p.1 = Pa → p.2 = LQa) (Z : Kinds K mg CF CP CT)
    (D__law_heard : Df K mg "_law_heard" s__law_heard ["ask"] f1 fd1) (D__law_stop : Df K mg "_law_stop" s__law_stop ["items"] f2 fd2) (G__law_stop : FnOk P w K mg base CX0 2 f2 fd2 ["items"] spStop) (D_phases_read : Df K mg "phases_read" s_phases_read ["text"] f3 fd3) (GX_phases_read : FnOk P w K mg base (L2.CX P w) 6 f3 fd3 ["text"] (spPhRead K CT)) (D_phases_text : Df K mg "phases_text" s_phases_text ["phases"] f4 fd4) (GX_phases_text : FnOk P w K mg base (L2.CX P w) 8 f4 fd4 ["phases"] (spPhText K CP)) :
    FnG P w K mg base CX0 14 f (PySem.W.fnOf "_law_text_right" "_law_text_right" (defArgs s__law_text_right) (defBody s__law_text_right) (defScope s__law_text_right) .none kV doc pm an (.ref c) ct) ["text"] (spTR (TB2 Pa Pb)) := by
  have kb_phases_read : KBinds K fd3 ["text"] ["text"] (kg [0]) (kg [0]) := kbinds D_phases_read.F (fun _ _ _ _ _ _ us ws hl => by
    rcases us with _ | ⟨a, us⟩
    · rcases ws with _ | ⟨x0, ws⟩ <;> first | rfl | exact absurd (show 0 = 1 from hl) (by decide)
    · exact absurd (show 0 = 1 from hl) (by decide)) kg_vals
  have G_phases_read := calm_of GX_phases_read
  have G_phases_text := calm_of GX_phases_text
  obtain ⟨ocH, odH, kVH, docH, pmH, anH, cdvH, ctH, oslH, eH, lkH, hcH⟩ := D__law_heard.F.ex
  subst eH
  refine fnG_of lk hcd sc__law_text_right (fun vs H Q E h => ?_) fun A outer s H vs Q E hgd hr h => ?_
  · obtain ⟨z, rfl, _⟩ := h
    rfl
  · obtain ⟨z, rfl, zl, za, tb, k⟩ := h
    have t0 : ∃ t, PSs (cxOf CX0 P w K mg base ["text", "items", "stop", "told", "due", "item", "phase"] "_law_text_right" (defScope s__law_text_right) f (.ref c) A outer s H E).nox (defBody s__law_text_right) t ∧ t { nx := fun _ H' => Q .non H', rt := Q } (L2.start ["text", "items", "stop", "told", "due", "item", "phase"] [.str z]) H := by
      refine ⟨_, (pss_cons (ps_set (i := 1) sc__law_text_right.nd rfl (Or.inl rfl) (pe_split (pv 0) pe_str))
  (pss_cons (ps_set (i := 2) sc__law_text_right.nd rfl (Or.inl rfl) (pe_call G__law_stop (hr.mono (by decide)) (by rfl) D__law_stop.g D__law_stop.F.kp D__law_stop.b .nil pass0 (pa_cons (pv 1) pa_nil)))
  (pss_cons (ps_if (pt_cmpR op_notN (pv 2) pe_non (nomark _)) (pss_one (ps_ret (pe_cmpR (op_eqD hr.units) (pe_lam (T := TB2 Pa Pb) (vs := []) (TT := TTheard CP CT) (k := 11) (nm := []) (dts := []) (t := fun E => tCallS (spPhRead K CT) (WE fun cls d _ H => E cls d H) (tCons (tVar 0) tNil)) (by rfl) D__law_heard.g D__law_heard.F.kp lkH hcH D__law_heard.b sc__law_heard rfl (Or.inl rfl) (heard_gives Z T) TB rfl List.mem_cons_self hu (hr.mono (by decide)) (lamN_by (sc := defScope s__law_text_right) (N := N__law_text_right) (by decide +kernel)) (.inl ⟨rfl, rfl⟩) (bind_0 fun _ _ _ _ _ _ _ => rfl) (mono_S phread_mono (mta_cons mte_var mta_nil)) pa_nil (fun _ _ _ => rfl) rfl (fun A outer s H E f c' hr2 => pe_callS GX_phases_read (hr2.mono (by decide)) (by rfl) D_phases_read.g D_phases_read.F.kp D_phases_read.b (fun σ => passAt (takes_of rfl rfl rfl rfl) σ) (pa_cons (pv 0) pa_nil))) (pe_tup (pa_cons pe_str (pa_cons pe_int (pa_cons (pv 2) pa_nil)))) (nomark _)))) pss_nil)
  (pss_cons (ps_par (i := 3) (j := 4) (by rfl) sc__law_text_right.nd rfl rfl (by decide) rfl rfl (pa_cons (pe_callKo G_phases_read (hr.mono (by decide)) (by rfl) D_phases_read.g D_phases_read.F.kp kb_phases_read pass0 (pk_cons (pv 0) pk_nil)) (pa_cons (pe_lst (pa_cons (pe_lst pa_nil) pa_nil)) pa_nil)) (by rfl))
  (pss_cons (ps_for PassesOwn.never rfl (pi_list (pv 1)) (pg_name (i := 5) sc__law_text_right.nd rfl (Or.inl rfl)) (pss_one (ps_if (pt_cmpR op_eq (pv 5) pe_str (nomark _)) (pss_one (ps_expr (pe_bm PySem.F.plainAttrs_list PySem.F.slot_list_append PySem.F.type_list_append mt_append (pv 4) (pa_cons (pe_lst pa_nil) pa_nil)))) (pss_one (ps_if (pt_cmpR op_ne (pv 5) pe_str (nomark _)) (pss_one (ps_expr (pe_bm PySem.F.plainAttrs_list PySem.F.slot_list_append PySem.F.type_list_append mt_append (pe_ix ix_list (pv 4) (pe_un un_neg pe_int) (fun _ _ => rfl)) (pa_cons (pe_callTy call_int_str (by rfl) T.n_int (by decide +kernel) (pa_cons (pv 5) pa_nil)) pa_nil)))) pss_nil)))))
  (pss_one (ps_ret (pe_and (pe_cmpR op_eq (pe_callB (call_reprN hgd hr.units) (by rfl) T.n_repr (by decide +kernel) (pa_cons (pv 3) pa_nil)) (pe_callB (call_reprN hgd hr.units) (by rfl) T.n_repr (by decide +kernel) (pa_cons (pe_callTy call_tuple_of (by rfl) T.n_tuple (by decide +kernel) (pa_cons (pe_lc (own := [("phase", 6)]) (g := (gName 6)) (tt := tTest (tOp (rNeD K) (tVar 6) (tLst tNil))) (te := tCB (rTupOf K) (tCons (tVar 6) tNil)) rfl sc__law_text_right.nd (pi_list (pv 4)) (blkOk_by (N := N__law_text_right) (own := [("phase", 6)]) (sc := defScope s__law_text_right) (by decide +kernel)) (fun _ _ _ _ _ => (pg_name (i := 6) sc__law_text_right.nd rfl (Or.inl rfl))) (fun _ _ _ _ _ => (pts_one (pt_cmpR (op_neD hr.units) (pv 6) (pe_lst pa_nil) (nomark _)))) (fun _ _ _ _ _ => (pe_callTy call_tuple_of (by rfl) T.n_tuple (by decide +kernel) (pa_cons (pv 6) pa_nil)))) pa_nil)) pa_nil)) (nomark _)) (pe_one (pe_cmpR op_eq (pe_call G_phases_text (hr.mono (by decide)) (by rfl) D_phases_text.g D_phases_text.F.kp D_phases_text.b .nil pass0 (pa_cons (pv 3) pa_nil)) (pv 0) (nomark _))))))))))), ?_⟩
      have tt : Tb (TB2 Pa Pb) H H := ⟨tb, .refl _⟩
      have z2 : z.length + 2 ≤ sizeLine := by rw [sizeLine_eq]; omega
      have l1 : ((" " : Str).length == 0) = false := by decide +kernel
      repeat (first | (with_reducible refine st_tC ?_) | (with_reducible refine st_tOp ?_) | ((with_reducible apply st_n); rfl; rfl; (first | trivial | (show _ ≤ _; omega) | (show _ < _; omega) | (show _ ∨ _; omega) | assumption | exact ⟨by assumption, by omega⟩ | exact ⟨W30.one, by omega⟩ | fail); rfl) | (with_reducible refine st_i0 rfl rfl rfl ?_) | ((with_reducible refine st_i rfl rfl ?_ rfl ?_); first | omega | exact ⟨by decide, by decide, by decide⟩ | exact .inl ⟨by decide, by decide⟩ | exact .inl ⟨by omega, by omega⟩ | exact .inr ⟨by omega, by omega⟩ | fail) | ((fail_if_success refine Exists.intro (α := Nat → Nat → L2.St → Hp → Prop) ?_ ?_); (fail_if_success refine Exists.intro (α := L2.St → Hp → Prop) ?_ ?_); (fail_if_success refine Exists.intro (α := Nat → L2.St → Hp → Prop) ?_ ?_); apply Exists.intro) | ((refine And.intro ?_ ?_); first | with_reducible rfl | with_reducible assumption | rfl | ((with_reducible apply SqL.of); assumption) | ((with_reducible apply SqT.of); assumption) | ((with_reducible apply OwnC.cl); assumption) | (with_reducible exact isI_int _) | exact within_args | (with_reducible exact upd_same) | ((with_reducible apply Mid.o); assumption) | ((with_reducible apply Mid.t); assumption) | exact .inl ⟨rfl, _, SqL.of (by assumption)⟩ | (with_reducible exact ⟨_, SqT.of (by assumption)⟩) | (with_reducible exact ⟨_, SqL.of (by assumption)⟩) | omega | exact Nat.le_of_ble_eq_true rfl | exact nat9 (by omega) | exact ⟨_, rfl⟩ | (show _ ≤ sizeLine; decide) | exact ⟨by decide, by decide, by decide⟩ | exact .inl ⟨by decide, by decide⟩ | exact .inl ⟨by omega, by omega⟩ | exact .inr ⟨by omega, by omega⟩ | assumption | fail) | ((with_reducible refine iteF' ?_ ?_); first | rfl | exact decide_eq_false (by omega) | exact in_no (by omega) (by omega) | exact in_no (by omega) (by assumption) | (simp <;> fail) | fail) | ((with_reducible refine iteT' ?_ ?_); first | rfl | exact decide_eq_true (by omega) | (simp <;> fail) | fail))
      intro sp h_sp; generalize hE : upd _ sp _ = H1; obtain ⟨S_sp, g_sp⟩ := new_facts h_sp hE; clear hE; replace tt := tt.same S_sp
      have ysh : ∀ y ∈ Txt.split z " ", y.length ≤ 100000 ∧ MN.asc y := fun y hy => ⟨by have := MN.split_short hy; omega, MN.split_asc za hy⟩
      have yne := split_ne z
      have zl1 : z.length ≤ 100000 := by omega
      repeat (first | (refine ⟨sp, _, rfl, g_sp, yne, ysh, fun H2 S2 => ?_⟩) | (with_reducible refine st_tC ?_) | (with_reducible refine st_tOp ?_) | ((with_reducible apply st_n); rfl; rfl; (first | trivial | (show _ ≤ _; omega) | (show _ < _; omega) | (show _ ∨ _; omega) | assumption | exact ⟨by assumption, by omega⟩ | exact ⟨W30.one, by omega⟩ | fail); rfl) | (with_reducible refine st_i0 rfl rfl rfl ?_) | ((with_reducible refine st_i rfl rfl ?_ rfl ?_); first | omega | exact ⟨by decide, by decide, by decide⟩ | exact .inl ⟨by decide, by decide⟩ | exact .inl ⟨by omega, by omega⟩ | exact .inr ⟨by omega, by omega⟩ | fail) | ((fail_if_success refine Exists.intro (α := Nat → Nat → L2.St → Hp → Prop) ?_ ?_); (fail_if_success refine Exists.intro (α := L2.St → Hp → Prop) ?_ ?_); (fail_if_success refine Exists.intro (α := Nat → L2.St → Hp → Prop) ?_ ?_); apply Exists.intro) | ((refine And.intro ?_ ?_); first | with_reducible rfl | with_reducible assumption | rfl | ((with_reducible apply SqL.of); assumption) | ((with_reducible apply SqT.of); assumption) | ((with_reducible apply OwnC.cl); assumption) | (with_reducible exact isI_int _) | exact within_args | (with_reducible exact upd_same) | ((with_reducible apply Mid.o); assumption) | ((with_reducible apply Mid.t); assumption) | exact .inl ⟨rfl, _, SqL.of (by assumption)⟩ | (with_reducible exact ⟨_, SqT.of (by assumption)⟩) | (with_reducible exact ⟨_, SqL.of (by assumption)⟩) | omega | exact Nat.le_of_ble_eq_true rfl | exact nat9 (by omega) | exact ⟨_, rfl⟩ | (show _ ≤ sizeLine; decide) | exact ⟨by decide, by decide, by decide⟩ | exact .inl ⟨by decide, by decide⟩ | exact .inl ⟨by omega, by omega⟩ | exact .inr ⟨by omega, by omega⟩ | assumption | fail) | ((with_reducible refine iteF' ?_ ?_); first | rfl | exact decide_eq_false (by omega) | exact in_no (by omega) (by omega) | exact in_no (by omega) (by assumption) | (simp <;> fail) | fail) | ((with_reducible refine iteT' ?_ ?_); first | rfl | exact decide_eq_true (by omega) | (simp <;> fail) | fail))
      replace tt := tt.same S2
      replace g_sp := S2 _ _ g_sp
      cases er : readP (Txt.split z " ") with
      | inl i =>
        rw [stop_inl rfl]
        have ttt := tt.t
        repeat (first | (with_reducible refine st_tC ?_) | (with_reducible refine st_tOp ?_) | ((with_reducible apply st_n); rfl; rfl; (first | trivial | (show _ ≤ _; omega) | (show _ < _; omega) | (show _ ∨ _; omega) | assumption | exact ⟨by assumption, by omega⟩ | exact ⟨W30.one, by omega⟩ | fail); rfl) | (with_reducible refine st_i0 rfl rfl rfl ?_) | ((with_reducible refine st_i rfl rfl ?_ rfl ?_); first | omega | exact ⟨by decide, by decide, by decide⟩ | exact .inl ⟨by decide, by decide⟩ | exact .inl ⟨by omega, by omega⟩ | exact .inr ⟨by omega, by omega⟩ | fail) | ((fail_if_success refine Exists.intro (α := Nat → Nat → L2.St → Hp → Prop) ?_ ?_); (fail_if_success refine Exists.intro (α := L2.St → Hp → Prop) ?_ ?_); (fail_if_success refine Exists.intro (α := Nat → L2.St → Hp → Prop) ?_ ?_); apply Exists.intro) | ((refine And.intro ?_ ?_); first | with_reducible rfl | with_reducible assumption | rfl | ((with_reducible apply SqL.of); assumption) | ((with_reducible apply SqT.of); assumption) | ((with_reducible apply OwnC.cl); assumption) | (with_reducible exact isI_int _) | exact within_args | (with_reducible exact upd_same) | ((with_reducible apply Mid.o); assumption) | ((with_reducible apply Mid.t); assumption) | exact .inl ⟨rfl, _, SqL.of (by assumption)⟩ | (with_reducible exact ⟨_, SqT.of (by assumption)⟩) | (with_reducible exact ⟨_, SqL.of (by assumption)⟩) | omega | exact Nat.le_of_ble_eq_true rfl | exact nat9 (by omega) | exact ⟨_, rfl⟩ | (show _ ≤ sizeLine; decide) | exact ⟨by decide, by decide, by decide⟩ | exact .inl ⟨by decide, by decide⟩ | exact .inl ⟨by omega, by omega⟩ | exact .inr ⟨by omega, by omega⟩ | assumption | fail) | ((with_reducible refine iteF' ?_ ?_); first | rfl | exact decide_eq_false (by omega) | exact in_no (by omega) (by omega) | exact in_no (by omega) (by assumption) | (simp <;> fail) | fail) | ((with_reducible refine iteT' ?_ ?_); first | rfl | exact decide_eq_true (by omega) | (simp <;> fail) | fail))
        intro Ha ea Ta
        repeat (first | (with_reducible refine st_tC ?_) | (with_reducible refine st_tOp ?_) | ((with_reducible apply st_n); rfl; rfl; (first | trivial | (show _ ≤ _; omega) | (show _ < _; omega) | (show _ ∨ _; omega) | assumption | exact ⟨by assumption, by omega⟩ | exact ⟨W30.one, by omega⟩ | fail); rfl) | (with_reducible refine st_i0 rfl rfl rfl ?_) | ((with_reducible refine st_i rfl rfl ?_ rfl ?_); first | omega | exact ⟨by decide, by decide, by decide⟩ | exact .inl ⟨by decide, by decide⟩ | exact .inl ⟨by omega, by omega⟩ | exact .inr ⟨by omega, by omega⟩ | fail) | ((fail_if_success refine Exists.intro (α := Nat → Nat → L2.St → Hp → Prop) ?_ ?_); (fail_if_success refine Exists.intro (α := L2.St → Hp → Prop) ?_ ?_); (fail_if_success refine Exists.intro (α := Nat → L2.St → Hp → Prop) ?_ ?_); apply Exists.intro) | ((refine And.intro ?_ ?_); first | with_reducible rfl | with_reducible assumption | rfl | ((with_reducible apply SqL.of); assumption) | ((with_reducible apply SqT.of); assumption) | ((with_reducible apply OwnC.cl); assumption) | (with_reducible exact isI_int _) | exact within_args | (with_reducible exact upd_same) | ((with_reducible apply Mid.o); assumption) | ((with_reducible apply Mid.t); assumption) | exact .inl ⟨rfl, _, SqL.of (by assumption)⟩ | (with_reducible exact ⟨_, SqT.of (by assumption)⟩) | (with_reducible exact ⟨_, SqL.of (by assumption)⟩) | omega | exact Nat.le_of_ble_eq_true rfl | exact nat9 (by omega) | exact ⟨_, rfl⟩ | (show _ ≤ sizeLine; decide) | exact ⟨by decide, by decide, by decide⟩ | exact .inl ⟨by decide, by decide⟩ | exact .inl ⟨by omega, by omega⟩ | exact .inr ⟨by omega, by omega⟩ | assumption | fail) | ((with_reducible refine iteF' ?_ ?_); first | rfl | exact decide_eq_false (by omega) | exact in_no (by omega) (by omega) | exact in_no (by omega) (by assumption) | (simp <;> fail) | fail) | ((with_reducible refine iteT' ?_ ?_); first | rfl | exact decide_eq_true (by omega) | (simp <;> fail) | fail))
        refine .inr ⟨z, rfl, by omega, (fun i' ei H3 S3 dd hdd => ?_), fun ps ep => by rw [er] at ep; cases ep⟩
        rw [er] at ei
        obtain rfl := Sum.inl.inj ei
        refine ⟨dd, rfl, .inr ⟨rfl, 0, (i : Int), upd_same, fun q H4 S4 hq => ?_⟩⟩
        have S5 := (S3.trans (same_new hdd)).trans S4
        clear S3 S4 hdd
        repeat (first | (with_reducible refine st_tC ?_) | (with_reducible refine st_tOp ?_) | ((with_reducible apply st_n); rfl; rfl; (first | trivial | (show _ ≤ _; omega) | (show _ < _; omega) | (show _ ∨ _; omega) | assumption | exact ⟨by assumption, by omega⟩ | exact ⟨W30.one, by omega⟩ | fail); rfl) | (with_reducible refine st_i0 rfl rfl rfl ?_) | ((with_reducible refine st_i rfl rfl ?_ rfl ?_); first | omega | exact ⟨by decide, by decide, by decide⟩ | exact .inl ⟨by decide, by decide⟩ | exact .inl ⟨by omega, by omega⟩ | exact .inr ⟨by omega, by omega⟩ | fail) | ((fail_if_success refine Exists.intro (α := Nat → Nat → L2.St → Hp → Prop) ?_ ?_); (fail_if_success refine Exists.intro (α := L2.St → Hp → Prop) ?_ ?_); (fail_if_success refine Exists.intro (α := Nat → L2.St → Hp → Prop) ?_ ?_); apply Exists.intro) | ((refine And.intro ?_ ?_); first | with_reducible rfl | with_reducible assumption | rfl | ((with_reducible apply SqL.of); assumption) | ((with_reducible apply SqT.of); assumption) | ((with_reducible apply OwnC.cl); assumption) | (with_reducible exact isI_int _) | exact within_args | (with_reducible exact upd_same) | ((with_reducible apply Mid.o); assumption) | ((with_reducible apply Mid.t); assumption) | exact .inl ⟨rfl, _, SqL.of (by assumption)⟩ | (with_reducible exact ⟨_, SqT.of (by assumption)⟩) | (with_reducible exact ⟨_, SqL.of (by assumption)⟩) | omega | exact Nat.le_of_ble_eq_true rfl | exact nat9 (by omega) | exact ⟨_, rfl⟩ | (show _ ≤ sizeLine; decide) | exact ⟨by decide, by decide, by decide⟩ | exact .inl ⟨by decide, by decide⟩ | exact .inl ⟨by omega, by omega⟩ | exact .inr ⟨by omega, by omega⟩ | assumption | fail) | ((with_reducible refine iteF' ?_ ?_); first | rfl | exact decide_eq_false (by omega) | exact in_no (by omega) (by omega) | exact in_no (by omega) (by assumption) | (simp <;> fail) | fail) | ((with_reducible refine iteT' ?_ ?_); first | rfl | exact decide_eq_true (by omega) | (simp <;> fail) | fail))
        intro tq h_tq; generalize hE : upd _ tq _ = H5; obtain ⟨S_tq, g_tq⟩ := new_facts h_tq hE; clear hE
        replace hq := S_tq _ _ hq
        have S6 := S5.trans S_tq
        have sh : SeqAt.shaped (.tuple [.str "text", .int 0, .int (i : Int)]) = true := by
          rw [show SeqAt.shaped (.tuple [.str "text", .int 0, .int (i : Int)]) = SeqAt.shaped (.tuple [.str "text", .int 0, .int 0]) from rfl]
          decide +kernel
        refine ⟨.tuple [.str "text", .int 0, .int (i : Int)], .tuple [.str "text", .int 0, .int (i : Int)], Dp.tup (SqT.of hq) (.cons (.str _) (.cons (.int _) (.cons (.int _) .nil))), Dp.tup (SqT.of g_tq) (.cons (.str _) (.cons (.int _) (.cons (.int _) .nil))), sh, sh, ?_⟩
        rw [SeqAt.eqv_refl _ (SeqAt.canLay_of_shaped sh)]
        exact k _ (fun a o e nt => S6 _ _ (ea _ _ (tt.e _ _ e) nt)) (Ta.ext S6)
      | inr ps =>
        rw [stop_inr rfl]
        obtain ⟨hps, hit⟩ := due_read er yne
        obtain ⟨hz, psok⟩ := read_back er
        have ylen := split_many z
        generalize hys : Txt.split z " " = ys at *
        repeat (first | (with_reducible refine st_tC ?_) | (with_reducible refine st_tOp ?_) | ((with_reducible apply st_n); rfl; rfl; (first | trivial | (show _ ≤ _; omega) | (show _ < _; omega) | (show _ ∨ _; omega) | assumption | exact ⟨by assumption, by omega⟩ | exact ⟨W30.one, by omega⟩ | fail); rfl) | (with_reducible refine st_i0 rfl rfl rfl ?_) | ((with_reducible refine st_i rfl rfl ?_ rfl ?_); first | omega | exact ⟨by decide, by decide, by decide⟩ | exact .inl ⟨by decide, by decide⟩ | exact .inl ⟨by omega, by omega⟩ | exact .inr ⟨by omega, by omega⟩ | fail) | ((fail_if_success refine Exists.intro (α := Nat → Nat → L2.St → Hp → Prop) ?_ ?_); (fail_if_success refine Exists.intro (α := L2.St → Hp → Prop) ?_ ?_); (fail_if_success refine Exists.intro (α := Nat → L2.St → Hp → Prop) ?_ ?_); apply Exists.intro) | ((refine And.intro ?_ ?_); first | with_reducible rfl | with_reducible assumption | rfl | ((with_reducible apply SqL.of); assumption) | ((with_reducible apply SqT.of); assumption) | ((with_reducible apply OwnC.cl); assumption) | (with_reducible exact isI_int _) | exact within_args | (with_reducible exact upd_same) | ((with_reducible apply Mid.o); assumption) | ((with_reducible apply Mid.t); assumption) | exact .inl ⟨rfl, _, SqL.of (by assumption)⟩ | (with_reducible exact ⟨_, SqT.of (by assumption)⟩) | (with_reducible exact ⟨_, SqL.of (by assumption)⟩) | omega | exact Nat.le_of_ble_eq_true rfl | exact nat9 (by omega) | exact ⟨_, rfl⟩ | (show _ ≤ sizeLine; decide) | exact ⟨by decide, by decide, by decide⟩ | exact .inl ⟨by decide, by decide⟩ | exact .inl ⟨by omega, by omega⟩ | exact .inr ⟨by omega, by omega⟩ | assumption | fail) | ((with_reducible refine iteF' ?_ ?_); first | rfl | exact decide_eq_false (by omega) | exact in_no (by omega) (by omega) | exact in_no (by omega) (by assumption) | (simp <;> fail) | fail) | ((with_reducible refine iteT' ?_ ?_); first | rfl | exact decide_eq_true (by omega) | (simp <;> fail) | fail))
        refine .inr ⟨z, rfl, by omega, (fun i' ei => by rw [hys, er] at ei; cases ei), fun ps' ep q us H3 nq S3 g_q pts => ?_⟩
        rw [hys, er] at ep
        obtain rfl := Sum.inr.inj ep
        replace tt := tt.same S3
        replace g_sp := S3 _ _ g_sp
        clear ep
        repeat (first | (with_reducible refine st_tC ?_) | (with_reducible refine st_tOp ?_) | ((with_reducible apply st_n); rfl; rfl; (first | trivial | (show _ ≤ _; omega) | (show _ < _; omega) | (show _ ∨ _; omega) | assumption | exact ⟨by assumption, by omega⟩ | exact ⟨W30.one, by omega⟩ | fail); rfl) | (with_reducible refine st_i0 rfl rfl rfl ?_) | ((with_reducible refine st_i rfl rfl ?_ rfl ?_); first | omega | exact ⟨by decide, by decide, by decide⟩ | exact .inl ⟨by decide, by decide⟩ | exact .inl ⟨by omega, by omega⟩ | exact .inr ⟨by omega, by omega⟩ | fail) | ((fail_if_success refine Exists.intro (α := Nat → Nat → L2.St → Hp → Prop) ?_ ?_); (fail_if_success refine Exists.intro (α := L2.St → Hp → Prop) ?_ ?_); (fail_if_success refine Exists.intro (α := Nat → L2.St → Hp → Prop) ?_ ?_); apply Exists.intro) | ((refine And.intro ?_ ?_); first | with_reducible rfl | with_reducible assumption | rfl | ((with_reducible apply SqL.of); assumption) | ((with_reducible apply SqT.of); assumption) | ((with_reducible apply OwnC.cl); assumption) | (with_reducible exact isI_int _) | exact within_args | (with_reducible exact upd_same) | ((with_reducible apply Mid.o); assumption) | ((with_reducible apply Mid.t); assumption) | exact .inl ⟨rfl, _, SqL.of (by assumption)⟩ | (with_reducible exact ⟨_, SqT.of (by assumption)⟩) | (with_reducible exact ⟨_, SqL.of (by assumption)⟩) | omega | exact Nat.le_of_ble_eq_true rfl | exact nat9 (by omega) | exact ⟨_, rfl⟩ | (show _ ≤ sizeLine; decide) | exact ⟨by decide, by decide, by decide⟩ | exact .inl ⟨by decide, by decide⟩ | exact .inl ⟨by omega, by omega⟩ | exact .inr ⟨by omega, by omega⟩ | assumption | fail) | ((with_reducible refine iteF' ?_ ?_); first | rfl | exact decide_eq_false (by omega) | exact in_no (by omega) (by omega) | exact in_no (by omega) (by assumption) | (simp <;> fail) | fail) | ((with_reducible refine iteT' ?_ ?_); first | rfl | exact decide_eq_true (by omega) | (simp <;> fail) | fail))
        have sp3 := g_sp
        have q3 := g_q
        intro c0 h_c0; generalize hE : upd _ c0 _ = H4; obtain ⟨S_c0, g_c0⟩ := new_facts h_c0 hE; clear hE; replace g_sp := S_c0 _ _ g_sp; replace g_q := S_c0 _ _ g_q
        have gc4 := g_c0
        repeat (first | (with_reducible refine st_tC ?_) | (with_reducible refine st_tOp ?_) | ((with_reducible apply st_n); rfl; rfl; (first | trivial | (show _ ≤ _; omega) | (show _ < _; omega) | (show _ ∨ _; omega) | assumption | exact ⟨by assumption, by omega⟩ | exact ⟨W30.one, by omega⟩ | fail); rfl) | (with_reducible refine st_i0 rfl rfl rfl ?_) | ((with_reducible refine st_i rfl rfl ?_ rfl ?_); first | omega | exact ⟨by decide, by decide, by decide⟩ | exact .inl ⟨by decide, by decide⟩ | exact .inl ⟨by omega, by omega⟩ | exact .inr ⟨by omega, by omega⟩ | fail) | ((fail_if_success refine Exists.intro (α := Nat → Nat → L2.St → Hp → Prop) ?_ ?_); (fail_if_success refine Exists.intro (α := L2.St → Hp → Prop) ?_ ?_); (fail_if_success refine Exists.intro (α := Nat → L2.St → Hp → Prop) ?_ ?_); apply Exists.intro) | ((refine And.intro ?_ ?_); first | with_reducible rfl | with_reducible assumption | rfl | ((with_reducible apply SqL.of); assumption) | ((with_reducible apply SqT.of); assumption) | ((with_reducible apply OwnC.cl); assumption) | (with_reducible exact isI_int _) | exact within_args | (with_reducible exact upd_same) | ((with_reducible apply Mid.o); assumption) | ((with_reducible apply Mid.t); assumption) | exact .inl ⟨rfl, _, SqL.of (by assumption)⟩ | (with_reducible exact ⟨_, SqT.of (by assumption)⟩) | (with_reducible exact ⟨_, SqL.of (by assumption)⟩) | omega | exact Nat.le_of_ble_eq_true rfl | exact nat9 (by omega) | exact ⟨_, rfl⟩ | (show _ ≤ sizeLine; decide) | exact ⟨by decide, by decide, by decide⟩ | exact .inl ⟨by decide, by decide⟩ | exact .inl ⟨by omega, by omega⟩ | exact .inr ⟨by omega, by omega⟩ | assumption | fail) | ((with_reducible refine iteF' ?_ ?_); first | rfl | exact decide_eq_false (by omega) | exact in_no (by omega) (by omega) | exact in_no (by omega) (by assumption) | (simp <;> fail) | fail) | ((with_reducible refine iteT' ?_ ?_); first | rfl | exact decide_eq_true (by omega) | (simp <;> fail) | fail))
        intro du h_du; generalize hE : upd _ du _ = H5; obtain ⟨S_du, g_du⟩ := new_facts h_du hE; clear hE; replace g_sp := S_du _ _ g_sp; replace g_q := S_du _ _ g_q; replace g_c0 := S_du _ _ g_c0
        have e5 : Same H3 H5 := S_c0.trans S_du
        have hd3 := S_c0.free h_du
        have ncd : c0 ≠ du := ne_of_none gc4 h_du
        replace g_du : H5 du = some (.lst ([] ++ [V.ref c0])) := g_du
        replace g_c0 : H5 c0 = some (.lst (natV [])) := g_c0
        clear gc4 S_c0 S_du h_du
        repeat (first | (with_reducible refine st_tC ?_) | (with_reducible refine st_tOp ?_) | ((with_reducible apply st_n); rfl; rfl; (first | trivial | (show _ ≤ _; omega) | (show _ < _; omega) | (show _ ∨ _; omega) | assumption | exact ⟨by assumption, by omega⟩ | exact ⟨W30.one, by omega⟩ | fail); rfl) | (with_reducible refine st_i0 rfl rfl rfl ?_) | ((with_reducible refine st_i rfl rfl ?_ rfl ?_); first | omega | exact ⟨by decide, by decide, by decide⟩ | exact .inl ⟨by decide, by decide⟩ | exact .inl ⟨by omega, by omega⟩ | exact .inr ⟨by omega, by omega⟩ | fail) | ((fail_if_success refine Exists.intro (α := Nat → Nat → L2.St → Hp → Prop) ?_ ?_); (fail_if_success refine Exists.intro (α := L2.St → Hp → Prop) ?_ ?_); (fail_if_success refine Exists.intro (α := Nat → L2.St → Hp → Prop) ?_ ?_); apply Exists.intro) | ((refine And.intro ?_ ?_); first | with_reducible rfl | with_reducible assumption | rfl | ((with_reducible apply SqL.of); assumption) | ((with_reducible apply SqT.of); assumption) | ((with_reducible apply OwnC.cl); assumption) | (with_reducible exact isI_int _) | exact within_args | (with_reducible exact upd_same) | ((with_reducible apply Mid.o); assumption) | ((with_reducible apply Mid.t); assumption) | exact .inl ⟨rfl, _, SqL.of (by assumption)⟩ | (with_reducible exact ⟨_, SqT.of (by assumption)⟩) | (with_reducible exact ⟨_, SqL.of (by assumption)⟩) | omega | exact Nat.le_of_ble_eq_true rfl | exact nat9 (by omega) | exact ⟨_, rfl⟩ | (show _ ≤ sizeLine; decide) | exact ⟨by decide, by decide, by decide⟩ | exact .inl ⟨by decide, by decide⟩ | exact .inl ⟨by omega, by omega⟩ | exact .inr ⟨by omega, by omega⟩ | assumption | fail) | ((with_reducible refine iteF' ?_ ?_); first | rfl | exact decide_eq_false (by omega) | exact in_no (by omega) (by omega) | exact in_no (by omega) (by assumption) | (simp <;> fail) | fail) | ((with_reducible refine iteT' ?_ ?_); first | rfl | exact decide_eq_true (by omega) | (simp <;> fail) | fail))
        refine for_list (K := K) (a := sp) (xs := ys.map V.str) (fun i σ H' => Same H3 H' ∧ Hid (∃ (D : List (List Nat)) (c : List Nat) (vs : List V) (c0 : Addr) (u5 : Option V), dueS (D, c) (ys.drop i) = dueS ([], []) ys ∧ H' du = some (.lst (vs ++ [.ref c0])) ∧ PLs H' vs D ∧ H' c0 = some (.lst (natV c)) ∧ V.ref c0 ∉ vs ∧ V.ref du ∉ vs ∧ c0 ≠ du ∧ H3 c0 = none ∧ D.length ≤ i ∧ c.length ≤ i ∧ (∀ l ∈ D, ∀ n ∈ l, n ≤ 20000) ∧ (∀ n ∈ c, n ≤ 20000) ∧
          σ = [some (.str z), some (.ref sp), some .non, some (.ref q), some (.ref du), u5, none])) ⟨e5, ⟨[], [], [], c0, _, rfl, g_du, trivial, g_c0, List.not_mem_nil, List.not_mem_nil, ncd, h_c0, Nat.le_refl _, Nat.le_refl _, (fun l hl => by cases hl), (fun n hn => by cases hn), rfl⟩⟩ (fun i σ H' _ w => SqL.of (w.1 _ _ sp3)) ?_ ?_
        · clear e5 g_du g_c0 ncd h_c0 c0
          rintro i y σ H' hy ⟨S17, ⟨D, cc, vs, c0, u5, hdu, gdu, pls, gc, nv, nd, ncd, hc0, lD, lc, bD, bc, rfl⟩⟩
          obtain ⟨y, ey, rfl⟩ : ∃ y', ys[i]? = some y' ∧ y = V.str y' := by
            rw [List.getElem?_map] at hy
            cases e : ys[i]? with
            | none => rw [e] at hy; cases hy
            | some y => rw [e] at hy; exact ⟨y, rfl, (Option.some.inj hy).symm⟩
          have il : i < ys.length := (List.getElem?_eq_some_iff.mp ey).1
          have dr : ys.drop i = y :: ys.drop (i + 1) := by
            obtain ⟨h1, h2⟩ := List.getElem?_eq_some_iff.mp ey
            rw [← h2]
            exact List.drop_eq_getElem_cons h1
          rw [dr, dueS] at hdu
          have rit := hit y (List.mem_of_getElem? ey)
          have lvs := pls.len
          have atl : atI (vs ++ [V.ref c0]) (-1) = some (.ref c0) := atI_last _ _
          have sqd := SqL.of (K := K) gdu
          repeat (first | (with_reducible refine st_tC ?_) | (with_reducible refine st_tOp ?_) | ((with_reducible apply st_n); rfl; rfl; (first | trivial | (show _ ≤ _; omega) | (show _ < _; omega) | (show _ ∨ _; omega) | assumption | exact ⟨by assumption, by omega⟩ | exact ⟨W30.one, by omega⟩ | fail); rfl) | (with_reducible refine st_i0 rfl rfl rfl ?_) | ((with_reducible refine st_i rfl rfl ?_ rfl ?_); first | omega | exact ⟨by decide, by decide, by decide⟩ | exact .inl ⟨by decide, by decide⟩ | exact .inl ⟨by omega, by omega⟩ | exact .inr ⟨by omega, by omega⟩ | fail) | ((fail_if_success refine Exists.intro (α := Nat → Nat → L2.St → Hp → Prop) ?_ ?_); (fail_if_success refine Exists.intro (α := L2.St → Hp → Prop) ?_ ?_); (fail_if_success refine Exists.intro (α := Nat → L2.St → Hp → Prop) ?_ ?_); apply Exists.intro) | ((refine And.intro ?_ ?_); first | with_reducible rfl | with_reducible assumption | rfl | ((with_reducible apply SqL.of); assumption) | ((with_reducible apply SqT.of); assumption) | ((with_reducible apply OwnC.cl); assumption) | (with_reducible exact isI_int _) | exact within_args | (with_reducible exact upd_same) | ((with_reducible apply Mid.o); assumption) | ((with_reducible apply Mid.t); assumption) | exact .inl ⟨rfl, _, SqL.of (by assumption)⟩ | (with_reducible exact ⟨_, SqT.of (by assumption)⟩) | (with_reducible exact ⟨_, SqL.of (by assumption)⟩) | omega | exact Nat.le_of_ble_eq_true rfl | exact nat9 (by omega) | exact ⟨_, rfl⟩ | (show _ ≤ sizeLine; decide) | exact ⟨by decide, by decide, by decide⟩ | exact .inl ⟨by decide, by decide⟩ | exact .inl ⟨by omega, by omega⟩ | exact .inr ⟨by omega, by omega⟩ | assumption | fail) | ((with_reducible refine iteF' ?_ ?_); first | rfl | exact decide_eq_false (by omega) | exact in_no (by omega) (by omega) | exact in_no (by omega) (by assumption) | (simp <;> fail) | fail) | ((with_reducible refine iteT' ?_ ?_); first | rfl | exact decide_eq_true (by omega) | (simp <;> fail) | fail))
          by_cases hb : y = "|"
          · subst hb
            have hs : dstp (D, cc) "|" = (D ++ [cc], []) := by
              unfold dstp
              exact if_pos rfl
            rw [hs] at hdu
            refine iteT' (decide_eq_true rfl) ?_
            repeat (first | (with_reducible refine st_tC ?_) | (with_reducible refine st_tOp ?_) | ((with_reducible apply st_n); rfl; rfl; (first | trivial | (show _ ≤ _; omega) | (show _ < _; omega) | (show _ ∨ _; omega) | assumption | exact ⟨by assumption, by omega⟩ | exact ⟨W30.one, by omega⟩ | fail); rfl) | (with_reducible refine st_i0 rfl rfl rfl ?_) | ((with_reducible refine st_i rfl rfl ?_ rfl ?_); first | omega | exact ⟨by decide, by decide, by decide⟩ | exact .inl ⟨by decide, by decide⟩ | exact .inl ⟨by omega, by omega⟩ | exact .inr ⟨by omega, by omega⟩ | fail) | ((fail_if_success refine Exists.intro (α := Nat → Nat → L2.St → Hp → Prop) ?_ ?_); (fail_if_success refine Exists.intro (α := L2.St → Hp → Prop) ?_ ?_); (fail_if_success refine Exists.intro (α := Nat → L2.St → Hp → Prop) ?_ ?_); apply Exists.intro) | ((refine And.intro ?_ ?_); first | with_reducible rfl | with_reducible assumption | rfl | ((with_reducible apply SqL.of); assumption) | ((with_reducible apply SqT.of); assumption) | ((with_reducible apply OwnC.cl); assumption) | (with_reducible exact isI_int _) | exact within_args | (with_reducible exact upd_same) | ((with_reducible apply Mid.o); assumption) | ((with_reducible apply Mid.t); assumption) | exact .inl ⟨rfl, _, SqL.of (by assumption)⟩ | (with_reducible exact ⟨_, SqT.of (by assumption)⟩) | (with_reducible exact ⟨_, SqL.of (by assumption)⟩) | omega | exact Nat.le_of_ble_eq_true rfl | exact nat9 (by omega) | exact ⟨_, rfl⟩ | (show _ ≤ sizeLine; decide) | exact ⟨by decide, by decide, by decide⟩ | exact .inl ⟨by decide, by decide⟩ | exact .inl ⟨by omega, by omega⟩ | exact .inr ⟨by omega, by omega⟩ | assumption | fail) | ((with_reducible refine iteF' ?_ ?_); first | rfl | exact decide_eq_false (by omega) | exact in_no (by omega) (by omega) | exact in_no (by omega) (by assumption) | (simp <;> fail) | fail) | ((with_reducible refine iteT' ?_ ?_); first | rfl | exact decide_eq_true (by omega) | (simp <;> fail) | fail))
            intro c1 h_c1; generalize hE : upd _ c1 _ = H8; obtain ⟨S_c1, g_c1⟩ := new_facts h_c1 hE; clear hE
            have g_du := S_c1 _ _ gdu
            have gc8 := S_c1 _ _ gc
            have szP : (vs ++ [V.ref c0]).length < sizeLine := by
              rw [List.length_append, sizeLine_eq]
              show _ + 1 < _
              omega
            repeat (first | (with_reducible refine st_tC ?_) | (with_reducible refine st_tOp ?_) | ((with_reducible apply st_n); rfl; rfl; (first | trivial | (show _ ≤ _; omega) | (show _ < _; omega) | (show _ ∨ _; omega) | assumption | exact ⟨by assumption, by omega⟩ | exact ⟨W30.one, by omega⟩ | fail); rfl) | (with_reducible refine st_i0 rfl rfl rfl ?_) | ((with_reducible refine st_i rfl rfl ?_ rfl ?_); first | omega | exact ⟨by decide, by decide, by decide⟩ | exact .inl ⟨by decide, by decide⟩ | exact .inl ⟨by omega, by omega⟩ | exact .inr ⟨by omega, by omega⟩ | fail) | ((fail_if_success refine Exists.intro (α := Nat → Nat → L2.St → Hp → Prop) ?_ ?_); (fail_if_success refine Exists.intro (α := L2.St → Hp → Prop) ?_ ?_); (fail_if_success refine Exists.intro (α := Nat → L2.St → Hp → Prop) ?_ ?_); apply Exists.intro) | ((refine And.intro ?_ ?_); first | with_reducible rfl | with_reducible assumption | rfl | ((with_reducible apply SqL.of); assumption) | ((with_reducible apply SqT.of); assumption) | ((with_reducible apply OwnC.cl); assumption) | (with_reducible exact isI_int _) | exact within_args | (with_reducible exact upd_same) | ((with_reducible apply Mid.o); assumption) | ((with_reducible apply Mid.t); assumption) | exact .inl ⟨rfl, _, SqL.of (by assumption)⟩ | (with_reducible exact ⟨_, SqT.of (by assumption)⟩) | (with_reducible exact ⟨_, SqL.of (by assumption)⟩) | omega | exact Nat.le_of_ble_eq_true rfl | exact nat9 (by omega) | exact ⟨_, rfl⟩ | (show _ ≤ sizeLine; decide) | exact ⟨by decide, by decide, by decide⟩ | exact .inl ⟨by decide, by decide⟩ | exact .inl ⟨by omega, by omega⟩ | exact .inr ⟨by omega, by omega⟩ | assumption | fail) | ((with_reducible refine iteF' ?_ ?_); first | rfl | exact decide_eq_false (by omega) | exact in_no (by omega) (by omega) | exact in_no (by omega) (by assumption) | (simp <;> fail) | fail) | ((with_reducible refine iteT' ?_ ?_); first | rfl | exact decide_eq_true (by omega) | (simp <;> fail) | fail))
            have n1 := pls.new h_c1
            have nc : c1 ≠ c0 := (ne_of_none gc h_c1).symm
            have nd1 : c1 ≠ du := (ne_of_none gdu h_c1).symm
            refine ⟨fun a o e => ?_, ⟨D ++ [cc], [], vs ++ [V.ref c0], c1, _, hdu, upd_same, ?_, ?_, ?_, ?_, nd1, S17.free h_c1, by rw [List.length_append]; show _ + 1 ≤ _; omega, Nat.zero_le _, fun l hl => ?_, (fun n hn => by cases hn), rfl⟩⟩
            · rw [upd_ne (ne_of_none e hd3)]
              exact S_c1 _ _ (S17 a o e)
            · refine PLs.app (vs2 := [V.ref c0]) (ps2 := [cc]) ⟨⟨c0, rfl, ?_⟩, trivial⟩ (pls.mono fun t ht xs e => ?_)
              · rw [upd_ne ncd]
                exact gc8
              · rw [upd_ne (show t ≠ du from fun z => nd (by rw [← z]; exact ht))]
                exact S_c1 _ _ e
            · rw [upd_ne nd1]
              exact g_c1
            · intro z
              rcases List.mem_append.mp z with z | z
              · exact n1 z
              · have := List.mem_singleton.mp z
                injection this with this
                exact nc this
            · intro z
              rcases List.mem_append.mp z with z | z
              · exact nd z
              · have := List.mem_singleton.mp z
                injection this with this
                exact ncd this.symm
            · rcases List.mem_append.mp hl with z | z
              · exact bD l z
              · rw [List.mem_singleton.mp z]
                exact bc
          · refine iteF' (decide_eq_false fun z => hb (V.str.inj z)) ?_
            repeat (first | (with_reducible refine st_tC ?_) | (with_reducible refine st_tOp ?_) | ((with_reducible apply st_n); rfl; rfl; (first | trivial | (show _ ≤ _; omega) | (show _ < _; omega) | (show _ ∨ _; omega) | assumption | exact ⟨by assumption, by omega⟩ | exact ⟨W30.one, by omega⟩ | fail); rfl) | (with_reducible refine st_i0 rfl rfl rfl ?_) | ((with_reducible refine st_i rfl rfl ?_ rfl ?_); first | omega | exact ⟨by decide, by decide, by decide⟩ | exact .inl ⟨by decide, by decide⟩ | exact .inl ⟨by omega, by omega⟩ | exact .inr ⟨by omega, by omega⟩ | fail) | ((fail_if_success refine Exists.intro (α := Nat → Nat → L2.St → Hp → Prop) ?_ ?_); (fail_if_success refine Exists.intro (α := L2.St → Hp → Prop) ?_ ?_); (fail_if_success refine Exists.intro (α := Nat → L2.St → Hp → Prop) ?_ ?_); apply Exists.intro) | ((refine And.intro ?_ ?_); first | with_reducible rfl | with_reducible assumption | rfl | ((with_reducible apply SqL.of); assumption) | ((with_reducible apply SqT.of); assumption) | ((with_reducible apply OwnC.cl); assumption) | (with_reducible exact isI_int _) | exact within_args | (with_reducible exact upd_same) | ((with_reducible apply Mid.o); assumption) | ((with_reducible apply Mid.t); assumption) | exact .inl ⟨rfl, _, SqL.of (by assumption)⟩ | (with_reducible exact ⟨_, SqT.of (by assumption)⟩) | (with_reducible exact ⟨_, SqL.of (by assumption)⟩) | omega | exact Nat.le_of_ble_eq_true rfl | exact nat9 (by omega) | exact ⟨_, rfl⟩ | (show _ ≤ sizeLine; decide) | exact ⟨by decide, by decide, by decide⟩ | exact .inl ⟨by decide, by decide⟩ | exact .inl ⟨by omega, by omega⟩ | exact .inr ⟨by omega, by omega⟩ | assumption | fail) | ((with_reducible refine iteF' ?_ ?_); first | rfl | exact decide_eq_false (by omega) | exact in_no (by omega) (by omega) | exact in_no (by omega) (by assumption) | (simp <;> fail) | fail) | ((with_reducible refine iteT' ?_ ?_); first | rfl | exact decide_eq_true (by omega) | (simp <;> fail) | fail))
            rcases rit with rfl | rfl | ⟨n, en, n2⟩
            · exact absurd rfl hb
            · have hs : dstp (D, cc) "-" = (D, cc) := by
                unfold dstp
                rw [if_neg hb, if_pos rfl]
              rw [hs] at hdu
              refine iteF' (by rw [decide_eq_true rfl]; rfl) ?_
              repeat (first | (with_reducible refine st_tC ?_) | (with_reducible refine st_tOp ?_) | ((with_reducible apply st_n); rfl; rfl; (first | trivial | (show _ ≤ _; omega) | (show _ < _; omega) | (show _ ∨ _; omega) | assumption | exact ⟨by assumption, by omega⟩ | exact ⟨W30.one, by omega⟩ | fail); rfl) | (with_reducible refine st_i0 rfl rfl rfl ?_) | ((with_reducible refine st_i rfl rfl ?_ rfl ?_); first | omega | exact ⟨by decide, by decide, by decide⟩ | exact .inl ⟨by decide, by decide⟩ | exact .inl ⟨by omega, by omega⟩ | exact .inr ⟨by omega, by omega⟩ | fail) | ((fail_if_success refine Exists.intro (α := Nat → Nat → L2.St → Hp → Prop) ?_ ?_); (fail_if_success refine Exists.intro (α := L2.St → Hp → Prop) ?_ ?_); (fail_if_success refine Exists.intro (α := Nat → L2.St → Hp → Prop) ?_ ?_); apply Exists.intro) | ((refine And.intro ?_ ?_); first | with_reducible rfl | with_reducible assumption | rfl | ((with_reducible apply SqL.of); assumption) | ((with_reducible apply SqT.of); assumption) | ((with_reducible apply OwnC.cl); assumption) | (with_reducible exact isI_int _) | exact within_args | (with_reducible exact upd_same) | ((with_reducible apply Mid.o); assumption) | ((with_reducible apply Mid.t); assumption) | exact .inl ⟨rfl, _, SqL.of (by assumption)⟩ | (with_reducible exact ⟨_, SqT.of (by assumption)⟩) | (with_reducible exact ⟨_, SqL.of (by assumption)⟩) | omega | exact Nat.le_of_ble_eq_true rfl | exact nat9 (by omega) | exact ⟨_, rfl⟩ | (show _ ≤ sizeLine; decide) | exact ⟨by decide, by decide, by decide⟩ | exact .inl ⟨by decide, by decide⟩ | exact .inl ⟨by omega, by omega⟩ | exact .inr ⟨by omega, by omega⟩ | assumption | fail) | ((with_reducible refine iteF' ?_ ?_); first | rfl | exact decide_eq_false (by omega) | exact in_no (by omega) (by omega) | exact in_no (by omega) (by assumption) | (simp <;> fail) | fail) | ((with_reducible refine iteT' ?_ ?_); first | rfl | exact decide_eq_true (by omega) | (simp <;> fail) | fail))
              exact ⟨⟨D, cc, vs, c0, _, hdu, gdu, pls, gc, nv, nd, ncd, hc0, by omega, by omega, bD, bc, rfl⟩⟩
            · have ne : y ≠ "-" := fun z => by
                rw [z, show MN.num "-" = none by decide +kernel] at en
                cases en
              have hs : dstp (D, cc) y = (D, cc ++ [n]) := by
                unfold dstp
                rw [if_neg hb, if_neg ne, en]
                rfl
              rw [hs] at hdu
              refine iteT' (by rw [decide_eq_false fun z => ne (V.str.inj z)]; rfl) ?_
              obtain ⟨ti, yl2⟩ := int_txt en
              have y640 : y.length ≤ 640 := by omega
              have szc : (natV cc).length < sizeLine := by rw [natV_len, sizeLine_eq]; omega
              repeat (first | (with_reducible refine st_tC ?_) | (with_reducible refine st_tOp ?_) | ((with_reducible apply st_n); rfl; rfl; (first | trivial | (show _ ≤ _; omega) | (show _ < _; omega) | (show _ ∨ _; omega) | assumption | exact ⟨by assumption, by omega⟩ | exact ⟨W30.one, by omega⟩ | fail); rfl) | (with_reducible refine st_i0 rfl rfl rfl ?_) | ((with_reducible refine st_i rfl rfl ?_ rfl ?_); first | omega | exact ⟨by decide, by decide, by decide⟩ | exact .inl ⟨by decide, by decide⟩ | exact .inl ⟨by omega, by omega⟩ | exact .inr ⟨by omega, by omega⟩ | fail) | ((fail_if_success refine Exists.intro (α := Nat → Nat → L2.St → Hp → Prop) ?_ ?_); (fail_if_success refine Exists.intro (α := L2.St → Hp → Prop) ?_ ?_); (fail_if_success refine Exists.intro (α := Nat → L2.St → Hp → Prop) ?_ ?_); apply Exists.intro) | ((refine And.intro ?_ ?_); first | with_reducible rfl | with_reducible assumption | rfl | ((with_reducible apply SqL.of); assumption) | ((with_reducible apply SqT.of); assumption) | ((with_reducible apply OwnC.cl); assumption) | (with_reducible exact isI_int _) | exact within_args | (with_reducible exact upd_same) | ((with_reducible apply Mid.o); assumption) | ((with_reducible apply Mid.t); assumption) | exact .inl ⟨rfl, _, SqL.of (by assumption)⟩ | (with_reducible exact ⟨_, SqT.of (by assumption)⟩) | (with_reducible exact ⟨_, SqL.of (by assumption)⟩) | omega | exact Nat.le_of_ble_eq_true rfl | exact nat9 (by omega) | exact ⟨_, rfl⟩ | (show _ ≤ sizeLine; decide) | exact ⟨by decide, by decide, by decide⟩ | exact .inl ⟨by decide, by decide⟩ | exact .inl ⟨by omega, by omega⟩ | exact .inr ⟨by omega, by omega⟩ | assumption | fail) | ((with_reducible refine iteF' ?_ ?_); first | rfl | exact decide_eq_false (by omega) | exact in_no (by omega) (by omega) | exact in_no (by omega) (by assumption) | (simp <;> fail) | fail) | ((with_reducible refine iteT' ?_ ?_); first | rfl | exact decide_eq_true (by omega) | (simp <;> fail) | fail))
              refine ⟨fun a o e => ?_, ⟨D, cc ++ [n], vs, c0, _, hdu, ?_, ?_, ?_, nv, nd, ncd, hc0, by omega, by rw [List.length_append]; show _ + 1 ≤ _; omega, bD, fun m hm => ?_, rfl⟩⟩
              · rw [upd_ne (ne_of_none e hc0)]
                exact S17 a o e
              · rw [upd_ne ncd.symm]
                exact gdu
              · exact pls.mono fun t ht xs e => by
                  rw [upd_ne (show t ≠ c0 from fun z => nv (by rw [← z]; exact ht))]
                  exact e
              · rw [upd_same, natV_snoc]
              · rcases List.mem_append.mp hm with z | z
                · exact bc m z
                · rw [List.mem_singleton.mp z]
                  exact n2
        · rintro σ H' ⟨S17, ⟨D, cc, vs, c0, u5, hdu, gdu, pls, gc, nv, nd, ncd, hc0, lD, lc, bD, bc, rfl⟩⟩
          rw [List.length_map] at hdu lD lc
          rw [List.drop_length, dueS] at hdu
          rw [← hdu] at hps
          replace hps : (D ++ [cc]).filter (fun l => decide (l ≠ [])) = ps := hps
          have plA : PLs H' (vs ++ [V.ref c0]) (D ++ [cc]) := PLs.app (vs2 := [V.ref c0]) (ps2 := [cc]) ⟨⟨c0, rfl, gc⟩, trivial⟩ pls
          have bA : ∀ l ∈ D ++ [cc], ∀ n ∈ l, n ≤ 20000 := fun l hl => by
            rcases List.mem_append.mp hl with z | z
            · exact bD l z
            · rw [List.mem_singleton.mp z]
              exact bc
          have lA := plA.len
          have llA : (D ++ [cc]).length ≤ 393 := by rw [List.length_append]; show _ + 1 ≤ _; omega
          generalize vs ++ [V.ref c0] = vA at *
          generalize D ++ [cc] = dA at *
          have q4 := S17 _ _ q3
          have pts4 : PTs H' us ps := pts.mono fun t xs e => S17 _ _ e
          have md4 := pts4.mds
          obtain ⟨ps1, ps2⟩ := psok
          have pr := Prm.same ps
          obtain ⟨f1, f2, f3⟩ := pr.facts fun l hl => (ps2 l hl).2.2.2
          obtain ⟨_, r1, r2, r3, r4⟩ := mk_repr f1 (by omega) (by omega)
          generalize hdt : PyData.tuple ((ps.map fun q => (false, q)).map mkD) = dt at r1 r2 r3 r4
          repeat (first | (refine ⟨q, dt, rfl, hdt ▸ Dp.tup (SqT.of q4) md4.dp, r1, r2, r3, r4, ?_⟩) | (with_reducible refine st_tC ?_) | (with_reducible refine st_tOp ?_) | ((with_reducible apply st_n); rfl; rfl; (first | trivial | (show _ ≤ _; omega) | (show _ < _; omega) | (show _ ∨ _; omega) | assumption | exact ⟨by assumption, by omega⟩ | exact ⟨W30.one, by omega⟩ | fail); rfl) | (with_reducible refine st_i0 rfl rfl rfl ?_) | ((with_reducible refine st_i rfl rfl ?_ rfl ?_); first | omega | exact ⟨by decide, by decide, by decide⟩ | exact .inl ⟨by decide, by decide⟩ | exact .inl ⟨by omega, by omega⟩ | exact .inr ⟨by omega, by omega⟩ | fail) | ((fail_if_success refine Exists.intro (α := Nat → Nat → L2.St → Hp → Prop) ?_ ?_); (fail_if_success refine Exists.intro (α := L2.St → Hp → Prop) ?_ ?_); (fail_if_success refine Exists.intro (α := Nat → L2.St → Hp → Prop) ?_ ?_); apply Exists.intro) | ((refine And.intro ?_ ?_); first | with_reducible rfl | with_reducible assumption | rfl | ((with_reducible apply SqL.of); assumption) | ((with_reducible apply SqT.of); assumption) | ((with_reducible apply OwnC.cl); assumption) | (with_reducible exact isI_int _) | exact within_args | (with_reducible exact upd_same) | ((with_reducible apply Mid.o); assumption) | ((with_reducible apply Mid.t); assumption) | exact .inl ⟨rfl, _, SqL.of (by assumption)⟩ | (with_reducible exact ⟨_, SqT.of (by assumption)⟩) | (with_reducible exact ⟨_, SqL.of (by assumption)⟩) | omega | exact Nat.le_of_ble_eq_true rfl | exact nat9 (by omega) | exact ⟨_, rfl⟩ | (show _ ≤ sizeLine; decide) | exact ⟨by decide, by decide, by decide⟩ | exact .inl ⟨by decide, by decide⟩ | exact .inl ⟨by omega, by omega⟩ | exact .inr ⟨by omega, by omega⟩ | assumption | fail) | ((with_reducible refine iteF' ?_ ?_); first | rfl | exact decide_eq_false (by omega) | exact in_no (by omega) (by omega) | exact in_no (by omega) (by assumption) | (simp <;> fail) | fail) | ((with_reducible refine iteT' ?_ ?_); first | rfl | exact decide_eq_true (by omega) | (simp <;> fail) | fail))
          intro Dn hDn
          refine lc_list (xs := vA) (fun j H2 => Same H' H2 ∧ ∃ us2, H2 Dn = some (.lst us2) ∧ PTs H2 us2 ((dA.take j).filter (fun l => decide (l ≠ [])))) ⟨same_new hDn, [], upd_same, trivial⟩ (fun j H2 _ h => SqL.of (h.1 _ _ gdu)) ?_ ?_
          · rintro j y H2 hy ⟨S4, us2, gu, pu⟩
            obtain ⟨t, ph, rfl, hph, gt⟩ := plA.at hy
            have jl := (List.getElem?_eq_some_iff.mp hph).1
            have lu := pu.len
            have lf := List.length_filter_le (fun l => decide (l ≠ [])) (dA.take j)
            rw [List.length_take] at lf
            have gt2 := S4 _ _ gt
            have tk : (dA.take (j + 1)).filter (fun l => decide (l ≠ [])) = (dA.take j).filter (fun l => decide (l ≠ [])) ++ [ph].filter (fun l => decide (l ≠ [])) := by
              rw [List.take_add_one, hph, List.filter_append]
              rfl
            have b20 := bA ph (List.mem_of_getElem? hph)
            refine ⟨rfl, ?_⟩
            repeat (first | (with_reducible refine st_tC ?_) | (with_reducible refine st_tOp ?_) | ((with_reducible apply st_n); rfl; rfl; (first | trivial | (show _ ≤ _; omega) | (show _ < _; omega) | (show _ ∨ _; omega) | assumption | exact ⟨by assumption, by omega⟩ | exact ⟨W30.one, by omega⟩ | fail); rfl) | (with_reducible refine st_i0 rfl rfl rfl ?_) | ((with_reducible refine st_i rfl rfl ?_ rfl ?_); first | omega | exact ⟨by decide, by decide, by decide⟩ | exact .inl ⟨by decide, by decide⟩ | exact .inl ⟨by omega, by omega⟩ | exact .inr ⟨by omega, by omega⟩ | fail) | ((fail_if_success refine Exists.intro (α := Nat → Nat → L2.St → Hp → Prop) ?_ ?_); (fail_if_success refine Exists.intro (α := L2.St → Hp → Prop) ?_ ?_); (fail_if_success refine Exists.intro (α := Nat → L2.St → Hp → Prop) ?_ ?_); apply Exists.intro) | ((refine And.intro ?_ ?_); first | with_reducible rfl | with_reducible assumption | rfl | ((with_reducible apply SqL.of); assumption) | ((with_reducible apply SqT.of); assumption) | ((with_reducible apply OwnC.cl); assumption) | (with_reducible exact isI_int _) | exact within_args | (with_reducible exact upd_same) | ((with_reducible apply Mid.o); assumption) | ((with_reducible apply Mid.t); assumption) | exact .inl ⟨rfl, _, SqL.of (by assumption)⟩ | (with_reducible exact ⟨_, SqT.of (by assumption)⟩) | (with_reducible exact ⟨_, SqL.of (by assumption)⟩) | omega | exact Nat.le_of_ble_eq_true rfl | exact nat9 (by omega) | exact ⟨_, rfl⟩ | (show _ ≤ sizeLine; decide) | exact ⟨by decide, by decide, by decide⟩ | exact .inl ⟨by decide, by decide⟩ | exact .inl ⟨by omega, by omega⟩ | exact .inr ⟨by omega, by omega⟩ | assumption | fail) | ((with_reducible refine iteF' ?_ ?_); first | rfl | exact decide_eq_false (by omega) | exact in_no (by omega) (by omega) | exact in_no (by omega) (by assumption) | (simp <;> fail) | fail) | ((with_reducible refine iteT' ?_ ?_); first | rfl | exact decide_eq_true (by omega) | (simp <;> fail) | fail))
            intro e0 h_e0; generalize hE : upd _ e0 _ = H6; obtain ⟨S_e0, g_e0⟩ := new_facts h_e0 hE; clear hE
            have S5 := S4.trans S_e0
            have gt6 := S_e0 _ _ gt2
            refine ⟨.list (natL ph), .list [], .lst (SqL.of gt6) (dp_nats ph), .lst (SqL.of g_e0) .nil, shp_natsL ph b20, shp_natsL [] (fun n hn => by cases hn), _, rfl, ?_⟩
            rw [eqv_natsL]
            by_cases pe : ph = []
            · refine iteF' (by rw [decide_eq_true pe]; rfl) ?_
              refine ⟨fun a o e => ?_, us2, S_e0 _ _ gu, ?_⟩
              · exact S5 _ _ e
              · rw [tk, pe]
                show PTs H6 us2 (_ ++ [])
                rw [List.append_nil]
                exact pu.mono fun t xs e => S_e0 _ _ e
            · refine iteT' (by rw [decide_eq_false pe]; rfl) ?_
              refine ⟨_, rfl, t, natV ph, rfl, .inl ⟨SqL.of gt6, fun tn htn => ?_⟩⟩
              have S6 := same_new (o := .tup (natV ph)) htn
              refine ⟨us2, S6 _ _ (S_e0 _ _ gu), by rw [sizeLine_eq]; omega, fun a o e => ?_, us2 ++ [V.ref tn], upd_same, ?_⟩
              · rw [upd_ne (ne_of_none e hDn)]
                exact S6 _ _ (S5 _ _ e)
              · rw [tk, show [ph].filter (fun l => decide (l ≠ [])) = [ph] by simp [pe]]
                refine PTs.app (us2 := [V.ref tn]) (ps2 := [ph]) ⟨⟨tn, rfl, ?_⟩, trivial⟩ (pu.mono fun t xs e => ?_)
                · rw [upd_ne (ne_of_none (S_e0 _ _ gu) htn).symm]
                  exact upd_same
                · rw [upd_ne (ne_of (S6 _ _ (S_e0 _ _ e)) (S6 _ _ (S_e0 _ _ gu)) (by intro z; cases z))]
                  exact S6 _ _ (S_e0 _ _ e)
          · rintro H2 ⟨S4, us2, gu, pu⟩
            rw [lA, List.take_length, hps] at pu
            refine ⟨Dn, us2, rfl, .inl ⟨SqL.of gu, fun tn htn => ?_⟩⟩
            have S6 := same_new (o := .tup us2) htn
            have gtn : (upd H2 tn (.tup us2)) tn = some (.tup us2) := upd_same
            have md5 : MDs (upd H2 tn (.tup us2)) us2 (ps.map fun q => (false, q)) := (pu.mono fun t xs e => S6 _ _ e).mds
            have S7 := S4.trans S6
            have q5 := S7 _ _ q4
            have pts5 : PTs (upd H2 tn (.tup us2)) us ps := pts4.mono fun t xs e => S7 _ _ e
            generalize upd H2 tn _ = H7 at *
            refine ⟨tn, dt, rfl, hdt ▸ Dp.tup (SqT.of gtn) md5.dp, r1, r2, r3, r4, ?_⟩
            repeat (first | (with_reducible refine st_tC ?_) | (with_reducible refine st_tOp ?_) | ((with_reducible apply st_n); rfl; rfl; (first | trivial | (show _ ≤ _; omega) | (show _ < _; omega) | (show _ ∨ _; omega) | assumption | exact ⟨by assumption, by omega⟩ | exact ⟨W30.one, by omega⟩ | fail); rfl) | (with_reducible refine st_i0 rfl rfl rfl ?_) | ((with_reducible refine st_i rfl rfl ?_ rfl ?_); first | omega | exact ⟨by decide, by decide, by decide⟩ | exact .inl ⟨by decide, by decide⟩ | exact .inl ⟨by omega, by omega⟩ | exact .inr ⟨by omega, by omega⟩ | fail) | ((fail_if_success refine Exists.intro (α := Nat → Nat → L2.St → Hp → Prop) ?_ ?_); (fail_if_success refine Exists.intro (α := L2.St → Hp → Prop) ?_ ?_); (fail_if_success refine Exists.intro (α := Nat → L2.St → Hp → Prop) ?_ ?_); apply Exists.intro) | ((refine And.intro ?_ ?_); first | with_reducible rfl | with_reducible assumption | rfl | ((with_reducible apply SqL.of); assumption) | ((with_reducible apply SqT.of); assumption) | ((with_reducible apply OwnC.cl); assumption) | (with_reducible exact isI_int _) | exact within_args | (with_reducible exact upd_same) | ((with_reducible apply Mid.o); assumption) | ((with_reducible apply Mid.t); assumption) | exact .inl ⟨rfl, _, SqL.of (by assumption)⟩ | (with_reducible exact ⟨_, SqT.of (by assumption)⟩) | (with_reducible exact ⟨_, SqL.of (by assumption)⟩) | omega | exact Nat.le_of_ble_eq_true rfl | exact nat9 (by omega) | exact ⟨_, rfl⟩ | (show _ ≤ sizeLine; decide) | exact ⟨by decide, by decide, by decide⟩ | exact .inl ⟨by decide, by decide⟩ | exact .inl ⟨by omega, by omega⟩ | exact .inr ⟨by omega, by omega⟩ | assumption | fail) | ((with_reducible refine iteF' ?_ ?_); first | rfl | exact decide_eq_false (by omega) | exact in_no (by omega) (by omega) | exact in_no (by omega) (by assumption) | (simp <;> fail) | fail) | ((with_reducible refine iteT' ?_ ?_); first | rfl | exact decide_eq_true (by omega) | (simp <;> fail) | fail))
            have ul := pts5.len
            refine .inr ⟨q, us, ps, rfl, .inr q5, by omega, pts5.mds.phl pr (fun l hl => ⟨(ps2 l hl).1, (ps2 l hl).2.1, by have := (ps2 l hl).2.2.1; omega, (ps2 l hl).2.2.2⟩), fun H8 S8 => ?_⟩
            rw [hz]
            have S9 := (S17.trans S7).trans S8
            repeat (first | (with_reducible refine st_tC ?_) | (with_reducible refine st_tOp ?_) | ((with_reducible apply st_n); rfl; rfl; (first | trivial | (show _ ≤ _; omega) | (show _ < _; omega) | (show _ ∨ _; omega) | assumption | exact ⟨by assumption, by omega⟩ | exact ⟨W30.one, by omega⟩ | fail); rfl) | (with_reducible refine st_i0 rfl rfl rfl ?_) | ((with_reducible refine st_i rfl rfl ?_ rfl ?_); first | omega | exact ⟨by decide, by decide, by decide⟩ | exact .inl ⟨by decide, by decide⟩ | exact .inl ⟨by omega, by omega⟩ | exact .inr ⟨by omega, by omega⟩ | fail) | ((fail_if_success refine Exists.intro (α := Nat → Nat → L2.St → Hp → Prop) ?_ ?_); (fail_if_success refine Exists.intro (α := L2.St → Hp → Prop) ?_ ?_); (fail_if_success refine Exists.intro (α := Nat → L2.St → Hp → Prop) ?_ ?_); apply Exists.intro) | ((refine And.intro ?_ ?_); first | with_reducible rfl | with_reducible assumption | rfl | ((with_reducible apply SqL.of); assumption) | ((with_reducible apply SqT.of); assumption) | ((with_reducible apply OwnC.cl); assumption) | (with_reducible exact isI_int _) | exact within_args | (with_reducible exact upd_same) | ((with_reducible apply Mid.o); assumption) | ((with_reducible apply Mid.t); assumption) | exact .inl ⟨rfl, _, SqL.of (by assumption)⟩ | (with_reducible exact ⟨_, SqT.of (by assumption)⟩) | (with_reducible exact ⟨_, SqL.of (by assumption)⟩) | omega | exact Nat.le_of_ble_eq_true rfl | exact nat9 (by omega) | exact ⟨_, rfl⟩ | (show _ ≤ sizeLine; decide) | exact ⟨by decide, by decide, by decide⟩ | exact .inl ⟨by decide, by decide⟩ | exact .inl ⟨by omega, by omega⟩ | exact .inr ⟨by omega, by omega⟩ | assumption | fail) | ((with_reducible refine iteF' ?_ ?_); first | rfl | exact decide_eq_false (by omega) | exact in_no (by omega) (by omega) | exact in_no (by omega) (by assumption) | (simp <;> fail) | fail) | ((with_reducible refine iteT' ?_ ?_); first | rfl | exact decide_eq_true (by omega) | (simp <;> fail) | fail))
            rw [decide_eq_true rfl]
            exact k _ (fun a o e _ => S9 _ _ (tt.e _ _ e)) (tt.t.ext S9)
    obtain ⟨t, h1, h2⟩ := t0
    exact ⟨t, h1.nox, h2⟩
end
end K46
namespace K46
open PySem PySem.Spec PyProof.Rows L2 OB SkE LamX ClX
/-! ### what are no phases -/
theorem phb_not {K : PySem.W.Frag} {H : Hp} {v : V} (h : EvL K H v false) : PhB K H v false := .inl ⟨.inl h, rfl⟩
theorem evl_lst {K : PySem.W.Frag} {H : Hp} {t : Addr} {xs : List V} (g : H t = some (.lst xs)) : EvL K H (.ref t) true := fun _ S => isL_lst (S _ _ g)
theorem phb_empty {K : PySem.W.Frag} {H : Hp} {t : Addr} (g : H t = some (.lst [])) : PhB K H (.ref t) false :=
  .inr ⟨[], ⟨t, rfl, .inl (SqL.of g), Nat.zero_le _, evl_lst g, (fun n hn => by cases hn), List.nodup_nil⟩, rfl⟩
theorem phb_zero {K : PySem.W.Frag} {H : Hp} {t : Addr} (g : H t = some (.lst [.int 0])) : PhB K H (.ref t) true :=
  .inr ⟨[0], ⟨t, rfl, .inl (SqL.of g), by decide, evl_lst g, (fun n hn => by rw [List.mem_singleton.mp hn]; decide), by simp⟩, rfl⟩
theorem phb_one {K : PySem.W.Frag} {H : Hp} {t : Addr} {v : V} {c : Bool} (g : H t = some (.lst [v])) (e : EvI K H v c) (h : (c && inB (some 0) b20 v) = false) : PhB K H (.ref t) false :=
  .inl ⟨.inr ⟨t, [v], [false], rfl, .inl (SqL.of g), (by show 1 ≤ 1050; decide), evl_lst g, rfl, fun i w b hw hb => (by
    match i with
    | 0 => cases hw; cases hb; exact ⟨c, e, h.symm⟩
    | j + 1 => cases hw), fun z => by cases z⟩, rfl⟩
theorem phb_dup {K : PySem.W.Frag} {H : Hp} {t : Addr} (g : H t = some (.lst [.int 0, .int 0])) : PhB K H (.ref t) false :=
  .inl ⟨.inr ⟨t, [.int 0, .int 0], [true, true], rfl, .inl (SqL.of g), by decide, evl_lst g, rfl, fun i w b hw hb => (by
    match i with
    | 0 => cases hw; cases hb; exact ⟨true, (fun _ _ => isI_int _), by decide⟩
    | 1 => cases hw; cases hb; exact ⟨true, (fun _ _ => isI_int _), by decide⟩
    | j + 2 => cases hw), fun _ => ⟨[0, 0], rfl, by decide⟩⟩, rfl⟩
theorem phs_not {K : PySem.W.Frag} {H : Hp} {v : V} (h : EvL K H v false) : Phs K H v false := .inl ⟨h, rfl⟩
theorem phs_one {K : PySem.W.Frag} {H : Hp} {t : Addr} {v : V} (g : H t = some (.lst [v])) (h : PhB K H v false) : Phs K H (.ref t) false :=
  .inr ⟨t, [v], [false], rfl, .inl (SqL.of g), (by show 1 ≤ 1050; decide), evl_lst g, rfl, fun i w b hw hb => (by
    match i with
    | 0 => cases hw; cases hb; exact h
    | j + 1 => cases hw), rfl⟩
theorem phs_two {K : PySem.W.Frag} {H : Hp} {t : Addr} {v v2 : V} (g : H t = some (.lst [v, v2])) (h : PhB K H v true) (h2 : PhB K H v2 false) : Phs K H (.ref t) false :=
  .inr ⟨t, [v, v2], [true, false], rfl, .inl (SqL.of g), (by show 2 ≤ 1050; decide), evl_lst g, rfl, fun i w b hw hb => (by
    match i with
    | 0 => cases hw; cases hb; exact h
    | 1 => cases hw; cases hb; exact h2
    | j + 2 => cases hw), rfl⟩
/-! ### what the law keeps -/
/-- the drawn phases -/
structure Kept (p q : Addr) (us : List V) (ls : List (List Nat)) (H : Hp) : Prop where
  g : H q = some (.lst us)
  np : q ≠ p
  pl : PLs H us ls
  nt : ∀ t, V.ref t ∈ us → t ≠ p
theorem Kept.same {p q : Addr} {us : List V} {ls : List (List Nat)} {H H' : Hp} (k : Kept p q us ls H) (S : Same H H') : Kept p q us ls H' := ⟨S _ _ k.g, k.np, k.pl.mono fun _ _ _ e => S _ _ e, k.nt⟩
theorem Kept.but {p q : Addr} {us : List V} {ls : List (List Nat)} {H H' : Hp} {xs : List V} (k : Kept p q us ls H) (B : But p H H') (_ : H p = some (.lst xs)) : Kept p q us ls H' := ⟨B _ _ k.g k.np, k.np, k.pl.mono fun t ht _ e => B _ _ e (k.nt t ht), k.nt⟩
theorem Kept.ext {p q : Addr} {us : List V} {ls : List (List Nat)} {H H' : Hp} (k : Kept p q us ls H) (S : ExtN H H') : Kept p q us ls H' := ⟨S _ _ k.g (fun _ z => by cases z), k.np, k.pl.mono (fun _ _ _ e => S _ _ e (fun _ z => by cases z)), k.nt⟩
/-- nothing that a draw changes is one of the phases -/
theorem PLs.apart {H : Hp} {p b : Addr} {xs : List V} (hp : H p = some (.lst (.ref b :: xs))) : ∀ {vs : List V} {ps : List (List Nat)}, PLs H vs ps → ∀ t, V.ref t ∈ vs → t ≠ p
  | [], _, _, _, h => by cases h
  | _ :: _, l :: _, ⟨⟨t, e, g⟩, r⟩, u, h => by
    rcases List.mem_cons.mp h with z | z
    · rw [e] at z
      injection z with z
      rw [z]
      intro y
      rw [y, hp] at g
      cases l with
      | nil => cases g
      | cons n r =>
        have := (List.cons.inj (HO.lst.inj (Option.some.inj g))).1
        cases this
    · exact PLs.apart hp r u z
  | _ :: _, [], h, _, _ => h.elim
/-- what is passed: these lists and tuples -/
structure Psd (p D : Addr) (vs : List V) (ms : List (Bool × List Nat)) (H : Hp) : Prop where
  g : H D = some (.lst vs)
  np : D ≠ p
  md : MDs H vs ms
  nt : ∀ t, V.ref t ∈ vs → t ≠ p ∧ t ≠ D
theorem Psd.same {p D : Addr} {vs : List V} {ms : List (Bool × List Nat)} {H H' : Hp} (k : Psd p D vs ms H) (S : Same H H') : Psd p D vs ms H' := ⟨S _ _ k.g, k.np, k.md.mono fun _ _ _ e => S _ _ e, k.nt⟩
theorem Psd.but {p D : Addr} {vs : List V} {ms : List (Bool × List Nat)} {H H' : Hp} {xs : List V} (k : Psd p D vs ms H) (B : But p H H') (_ : H p = some (.lst xs)) : Psd p D vs ms H' := ⟨B _ _ k.g k.np, k.np, k.md.mono fun t ht _ e => B _ _ e (k.nt t ht).1, k.nt⟩
theorem Psd.put {p D t : Addr} {vs : List V} {ms : List (Bool × List Nat)} {m : Bool × List Nat} {H : Hp} (k : Psd p D vs ms H) (g : H t = some (mkO m)) (n1 : t ≠ p) (n2 : t ≠ D) : Psd p D (vs ++ [.ref t]) (ms ++ [m]) (upd H D (.lst (vs ++ [.ref t]))) := by
  refine ⟨upd_same, k.np, MDs.app (vs2 := [.ref t]) (ps2 := [m]) ⟨⟨t, rfl, by rw [upd_ne n2]; exact g⟩, trivial⟩ (k.md.mono fun u hu o e => ?_), fun u hu => ?_⟩
  · rw [upd_ne (k.nt u hu).2]
    exact e
  · rcases List.mem_append.mp hu with z | z
    · exact k.nt u z
    · have := List.mem_singleton.mp z
      injection this with this
      rw [this]
      exact ⟨n1, n2⟩
/-- numbers that were stirred -/
theorem nats_of {l : List Nat} {ns : List Int} (h : ns.Perm (l.map fun n : Nat => (n : Int))) : ∃ q : List Nat, ns = (q.map fun n : Nat => (n : Int)) ∧ q.Perm l := by
  refine ⟨ns.map Int.toNat, ?_, ?_⟩
  · rw [List.map_map]
    refine (List.map_id _).symm.trans (List.map_congr_left fun y hy => ?_)
    obtain ⟨u, _, rfl⟩ := List.mem_map.mp (h.mem_iff.mp hy)
    rfl
  · have := h.map Int.toNat
    rw [List.map_map] at this
    refine this.trans (List.Perm.of_eq ?_)
    refine Eq.trans (List.map_congr_left fun y _ => ?_) (List.map_id l)
    rfl
theorem natV_is (q : List Nat) : natV q = (q.map fun n : Nat => (n : Int)).map V.int := by
  unfold natV
  rw [List.map_map]
  rfl
/-- two texts in a list -/
theorem two_nice {z : Str} (h : MN.asc z) (l : z.length ≤ 1000) : nice (.list [.str z, .str z]) = true ∧ (PyData.list [.str z, .str z]).canLay0 = true ∧ (PyData.list [.str z, .str z]).depth ≤ 60 ∧ sz (.list [.str z, .str z]) ≤ 16000000 := by
  have a : (z.cps.toList.all fun c => decide (c < 1114112)) = true := List.all_eq_true.mpr fun c hc => decide_eq_true (by have : c < 256 := h c hc; omega)
  have b := str_ok h
  refine ⟨by simp only [nice, niceAll, a, Bool.and_true], by simp only [PyData.canLay0, PyData.canLayAll0, b, Bool.and_true], ?_, ?_⟩
  · simp only [PyData.depth, PyData.depthAll]
    omega
  · simp only [sz, szAll]
    omega
/-- all stays but the draws' own list and the tables -/
structure KpS (p : Addr) (H0 H : Hp) : Prop where
  k : ∀ q o, H0 q = some o → q ≠ p → (∀ ps, o ≠ .tbl ps) → H q = some o
theorem KpS.refl {p : Addr} {H : Hp} : KpS p H H := ⟨fun _ _ e _ _ => e⟩
theorem KpS.same {p : Addr} {H0 H H' : Hp} (a : KpS p H0 H) (s : Same H H') : KpS p H0 H' := ⟨fun q o e n t => s _ _ (a.k q o e n t)⟩
theorem KpS.but {p : Addr} {H0 H H' : Hp} {xs : List V} (a : KpS p H0 H) (s : But p H H') (_ : H p = some (.lst xs)) : KpS p H0 H' := ⟨fun q o e n t => s _ _ (a.k q o e n t) n⟩
theorem KpS.ext {p : Addr} {H0 H H' : Hp} (a : KpS p H0 H) (s : ExtN H H') : KpS p H0 H' := ⟨fun q o e n t => s _ _ (a.k q o e n t) t⟩
theorem seqat_tt (z : Str) : SeqAt.shaped (.tuple [.str z, .str z]) = SeqAt.shaped (.tuple [.str z, .str z]) := rfl
end K46
namespace K46
open PySem PySem.Spec PyProof.Rows L2 OB SkE LamX ClX
def spLaw (K : PySem.W.Frag) (Pa Pb : Addr) : Sp := fun vs H Q _ => ∃ (a : Addr) (ns : List Int), vs = [.ref a] ∧ SqL K H a (ns.map V.int) ∧ ns.length ≤ 63 ∧ (H Pa = some (.tbl #[]) ∧ H Pb = some (.tbl #[])) ∧ ∀ H', Q (.bl true) H'
section
variable {P : Program} {w : World} {K : PySem.W.Frag} {mg : Str → Option Value} {base : Heap}
theorem sc_law : FnScope ["script", "quarry", "turn", "phases", "passed", "phase", "kept", "items", "bend", "none", "odd"] ["script"] (defScope s_law) := ⟨rfl, rfl, rfl, by decide +kernel, rfl, by decide +kernel, by decide +kernel⟩
abbrev N_law : List Str := ["script", "quarry", "turn", "phases", "passed", "phase", "kept", "items", "bend", "none", "odd"]
theorem ok_law {f f1 f2 f3 f4 f5 f6 f7 f8 f9 f10 f11 CF CP CT c Pa Pb : Addr} {fd1 fd2 fd3 fd4 fd5 fd6 fd7 fd8 fd9 fd10 fd11 : FuncData} {oc kV doc pm ct : Value} {od an : Option Addr} {osl : Array (Option Value)} (T : Blt mg)
    (lk : K.lookup f = some ⟨oc, od, .func (PySem.W.fnOf "law" "law" (defArgs s_law) (defBody s_law) (defScope s_law) .none kV doc pm an (.ref c) ct), osl⟩) (hcd : PySem.W.codeIn K (.ref c) "law" = true)
    (TB : TabB base mg c Pb) (hu : ∀ p ∈ TB2 Pa Pb, p.1 = Pb → p.2 = LQb) (Z : Kinds K mg CF CP CT)
    (D__law_quarry : Df K mg "_law_quarry" s__law_quarry ["script"] f1 fd1) (G__law_quarry : FnOk P w K mg base CX0 1 f1 fd1 ["script"] (spLot K)) (D__law_chip : Df K mg "_law_chip" s__law_chip ["quarry", "many"] f2 fd2) (D__law_pick : Df K mg "_law_pick" s__law_pick ["quarry", "some"] f3 fd3) (D__law_mixed : Df K mg "_law_mixed" s__law_mixed ["quarry", "some"] f4 fd4) (G__law_mixed : FnOk P w K mg base CX0 2 f4 fd4 ["quarry", "some"] spStir) (D__law_phases : Df K mg "_law_phases" s__law_phases ["quarry"] f5 fd5) (G__law_phases : FnOk P w K mg base CX0 3 f5 fd5 ["quarry"] spLPhases) (D__law_items : Df K mg "_law_items" s__law_items ["phases"] f6 fd6) (G__law_items : FnOk P w K mg base CX0 1 f6 fd6 ["phases"] spLItems)
    (D__law_bent : Df K mg "_law_bent" s__law_bent ["quarry", "items"] f7 fd7) (G__law_bent : FnOk P w K mg base CX0 3 f7 fd7 ["quarry", "items"] spBent) (D__law_text_right : Df K mg "_law_text_right" s__law_text_right ["text"] f8 fd8) (G__law_text_right : FnG P w K mg base CX0 14 f8 fd8 ["text"] (spTR (TB2 Pa Pb))) (D__law_heard : Df K mg "_law_heard" s__law_heard ["ask"] f9 fd9)
    (D_phases_read : Df K mg "phases_read" s_phases_read ["text"] f10 fd10) (GX_phases_read : FnOk P w K mg base (L2.CX P w) 6 f10 fd10 ["text"] (spPhRead K CT)) (D_phases_text : Df K mg "phases_text" s_phases_text ["phases"] f11 fd11) (GX_phases_text : FnOk P w K mg base (L2.CX P w) 8 f11 fd11 ["phases"] (spPhText K CP)) :
    FnG P w K mg base CX0 16 f (PySem.W.fnOf "law" "law" (defArgs s_law) (defBody s_law) (defScope s_law) .none kV doc pm an (.ref c) ct) ["script"] (spLaw K Pa Pb) := by
  have G__law_chip : FnOk P w K mg base CX0 1 f2 fd2 ["quarry", "many"] spDraw := ok__law_chip D__law_chip.F T
  have G__law_pick : FnOk P w K mg base CX0 2 f3 fd3 ["quarry", "some"] spOne := ok__law_pick D__law_pick.F T D__law_chip
  have kb_phases_text : KBinds K fd11 ["phases"] ["phases"] (kg [0]) (kg [0]) := kbinds D_phases_text.F (fun _ _ _ _ _ _ us ws hl => by
    rcases us with _ | ⟨a, us⟩
    · rcases ws with _ | ⟨x0, ws⟩ <;> first | rfl | exact absurd (show 0 = 1 from hl) (by decide)
    · exact absurd (show 0 = 1 from hl) (by decide)) kg_vals
  have G_phases_read := calm_of GX_phases_read
  have G_phases_text := calm_of GX_phases_text
  obtain ⟨ocH, odH, kVH, docH, pmH, anH, cdvH, ctH, oslH, eH, lkH, hcH⟩ := D__law_heard.F.ex
  subst eH
  refine fnG_of lk hcd sc_law (fun vs H Q E h => ?_) fun A outer s H vs Q E hgd hr h => ?_
  · obtain ⟨a, ns, rfl, _⟩ := h
    rfl
  · obtain ⟨a, ns, rfl, hS, hl, ⟨hPa, hPb⟩, k⟩ := h
    have t0 : ∃ t, PSs (cxOf CX0 P w K mg base ["script", "quarry", "turn", "phases", "passed", "phase", "kept", "items", "bend", "none", "odd"] "law" (defScope s_law) f (.ref c) A outer s H E).nox (defBody s_law) t ∧ t { nx := fun _ H' => Q .non H', rt := Q } (L2.start ["script", "quarry", "turn", "phases", "passed", "phase", "kept", "items", "bend", "none", "odd"] [.ref a]) H := by
      refine ⟨_, (pss_cons (ps_set (i := 1) sc_law.nd rfl (Or.inr rfl) (pe_call G__law_quarry (hr.mono (by decide)) (by rfl) D__law_quarry.g D__law_quarry.F.kp D__law_quarry.b .nil pass0 (pa_cons (pv 0) pa_nil)))
  (pss_cons (ps_for PassesOwn.never rfl (pi_range1 (by rfl) T.n_range (pa_cons pe_int pa_nil)) (pg_name (i := 2) sc_law.nd rfl (Or.inl rfl)) (pss_cons (ps_set (i := 3) sc_law.nd rfl (Or.inl rfl) (pe_call G__law_phases (hr.mono (by decide)) (by rfl) D__law_phases.g D__law_phases.F.kp D__law_phases.b .nil pass0 (pa_cons (pv 1) pa_nil)))
  (pss_cons (ps_setLc (i := 4) (own := [("phase", 5)]) (g := (gName 5)) (tt := tYes) (te := tIf (tTest (tOp rEq (tCall spDraw [] E0 (tCons (tVar 1) (tCons (tC (V.int 2)) tNil))) (tC (V.int 0)))) (tCall spStir [] E0 (tCons (tVar 1) (tCons (tVar 5) tNil))) (tCB (rTupOf K) (tCons (tRevL K (tVar 5)) tNil))) rfl sc_law.nd rfl rfl (sw_true rfl rfl rfl (by decide +kernel)) (pi_list (pv 3)) (blkOk_by (N := N_law) (own := [("phase", 5)]) (sc := defScope s_law) (by decide +kernel)) (fun _ _ _ _ _ => (pg_name (i := 5) sc_law.nd rfl (Or.inl rfl))) (fun _ _ _ _ _ => pts_nil) (fun _ _ _ _ _ => (pe_ifExp (pt_cmpR op_eq (pe_call G__law_chip (hr.mono (by decide)) (by rfl) D__law_chip.g D__law_chip.F.kp D__law_chip.b .nil pass0 (pa_cons (pv 1) (pa_cons pe_int pa_nil))) pe_int (nomark _)) (pe_call G__law_mixed (hr.mono (by decide)) (by rfl) D__law_mixed.g D__law_mixed.F.kp D__law_mixed.b .nil pass0 (pa_cons (pv 1) (pa_cons (pv 5) pa_nil))) (pe_callTy call_tuple_of (by rfl) T.n_tuple (by decide +kernel) (pa_cons (pe_revL (pv 5)) pa_nil)))))
  (pss_cons (ps_par (i := 6) (j := 7) (by rfl) sc_law.nd rfl rfl (by decide) rfl rfl (pa_cons (pe_callB (call_reprN hgd hr.units) (by rfl) T.n_repr (by decide +kernel) (pa_cons (pv 4) pa_nil)) (pa_cons (pe_call G__law_items (hr.mono (by decide)) (by rfl) D__law_items.g D__law_items.F.kp D__law_items.b .nil pass0 (pa_cons (pv 3) pa_nil)) pa_nil)) (by rfl))
  (pss_cons (ps_if (PW.pt (pw_or (pt_cmpR op_ne (pe_callB (call_reprN hgd hr.units) (by rfl) T.n_repr (by decide +kernel) (pa_cons (pe_lst (pa_cons (pe_call G_phases_text (hr.mono (by decide)) (by rfl) D_phases_text.g D_phases_text.F.kp D_phases_text.b .nil pass0 (pa_cons (pv 4) pa_nil)) (pa_cons (pe_callKo G_phases_text (hr.mono (by decide)) (by rfl) D_phases_text.g D_phases_text.F.kp kb_phases_text pass0 (pk_cons (pe_callTy call_tuple_of (by rfl) T.n_tuple (by decide +kernel) (pa_cons (pv 4) pa_nil)) pk_nil)) pa_nil))) pa_nil)) (pe_callB (call_reprN hgd hr.units) (by rfl) T.n_repr (by decide +kernel) (pa_cons (pe_op op_rep (pe_lst (pa_cons (pe_join pe_str (pv 7)) pa_nil)) pe_int) pa_nil)) (nomark _)) (pw_or1 (pt_cmpR op_ne (pe_callB (call_reprN hgd hr.units) (by rfl) T.n_repr (by decide +kernel) (pa_cons (pv 4) pa_nil)) (pv 6) (nomark _))))) (pss_one (ps_ret pe_bl)) pss_nil)
  (pss_cons (ps_if (pt_cmpR op_ne (pe_callB (call_reprN hgd hr.units) (by rfl) T.n_repr (by decide +kernel) (pa_cons (pe_call G_phases_read (hr.mono (by decide)) (by rfl) D_phases_read.g D_phases_read.F.kp D_phases_read.b .nil pass0 (pa_cons (pe_join pe_str (pv 7)) pa_nil)) pa_nil)) (pe_callB (call_reprN hgd hr.units) (by rfl) T.n_repr (by decide +kernel) (pa_cons (pe_callTy call_tuple_of (by rfl) T.n_tuple (by decide +kernel) (pa_cons (pe_lc (own := [("phase", 5)]) (g := (gName 5)) (tt := tYes) (te := tCB (rTupOf K) (tCons (tVar 5) tNil)) rfl sc_law.nd (pi_list (pv 3)) (blkOk_by (N := N_law) (own := [("phase", 5)]) (sc := defScope s_law) (by decide +kernel)) (fun _ _ _ _ _ => (pg_name (i := 5) sc_law.nd rfl (Or.inl rfl))) (fun _ _ _ _ _ => pts_nil) (fun _ _ _ _ _ => (pe_callTy call_tuple_of (by rfl) T.n_tuple (by decide +kernel) (pa_cons (pv 5) pa_nil)))) pa_nil)) pa_nil)) (nomark _)) (pss_one (ps_ret pe_bl)) pss_nil)
  (pss_one (ps_for PassesOwn.never rfl (pi_range1 (by rfl) T.n_range (pa_cons pe_int pa_nil)) (pg_name (i := 8) sc_law.nd rfl (Or.inl rfl)) (pss_cons (ps_if (pt_not (pt_val (pe_callG G__law_text_right hgd (hr.mono (by decide)) (by rfl) D__law_text_right.g D__law_text_right.F.kp D__law_text_right.b .nil pass0 (pa_cons (pe_join pe_str (pe_call G__law_bent (hr.mono (by decide)) (by rfl) D__law_bent.g D__law_bent.F.kp D__law_bent.b .nil pass0 (pa_cons (pv 1) (pa_cons (pv 7) pa_nil)))) pa_nil)))) (pss_one (ps_ret pe_bl)) pss_nil)
  (pss_one (ps_if (pt_not (pt_val (pe_callG G__law_text_right hgd (hr.mono (by decide)) (by rfl) D__law_text_right.g D__law_text_right.F.kp D__law_text_right.b .nil pass0 (pa_cons (pe_join pe_str (pe_call G__law_bent (hr.mono (by decide)) (by rfl) D__law_bent.g D__law_bent.F.kp D__law_bent.b .nil pass0 (pa_cons (pv 1) (pa_cons (pe_call G__law_bent (hr.mono (by decide)) (by rfl) D__law_bent.g D__law_bent.F.kp D__law_bent.b .nil pass0 (pa_cons (pv 1) (pa_cons (pv 7) pa_nil))) pa_nil)))) pa_nil)))) (pss_one (ps_ret pe_bl)) pss_nil)))))))))))
  (pss_cons (ps_set (i := 9) sc_law.nd rfl (Or.inr rfl) (pe_call G__law_pick (hr.mono (by decide)) (by rfl) D__law_pick.g D__law_pick.F.kp D__law_pick.b .nil pass0 (pa_cons (pv 1) (pa_cons (pe_lst (pa_cons pe_non (pa_cons pe_int (pa_cons pe_str (pa_cons (pe_lst (pa_cons (pe_lst pa_nil) pa_nil)) (pa_cons (pe_lst (pa_cons (pe_lst (pa_cons pe_int (pa_cons pe_int pa_nil))) pa_nil)) (pa_cons (pe_lst (pa_cons (pe_lst (pa_cons (pe_un un_neg pe_int) pa_nil)) pa_nil)) (pa_cons (pe_lst (pa_cons (pe_lst (pa_cons pe_bl pa_nil)) pa_nil)) (pa_cons (pe_lst (pa_cons pe_int pa_nil)) (pa_cons pe_dnewK (pa_cons (pe_lst (pa_cons (pe_lst (pa_cons pe_int pa_nil)) (pa_cons pe_non pa_nil))) (pa_cons (pe_lst (pa_cons (pe_lst (pa_cons pe_int pa_nil)) pa_nil)) (pa_cons (pe_lst (pa_cons (pe_lst (pa_cons pe_str pa_nil)) pa_nil)) (pa_cons (pe_lst (pa_cons (pe_lst (pa_cons pe_int pa_nil)) (pa_cons (pe_lst pa_nil) pa_nil))) pa_nil)))))))))))))) pa_nil))))
  (pss_cons (ps_set (i := 10) sc_law.nd rfl (Or.inr rfl) (pe_call G__law_pick (hr.mono (by decide)) (by rfl) D__law_pick.g D__law_pick.F.kp D__law_pick.b .nil pass0 (pa_cons (pv 1) (pa_cons (pe_lst (pa_cons pe_non (pa_cons pe_int (pa_cons (pe_lst (pa_cons pe_str pa_nil)) (pa_cons (pe_tup pa_nil) (pa_cons pe_bl (pa_cons (pe_lst (pa_cons (pe_lst (pa_cons pe_int pa_nil)) pa_nil)) pa_nil))))))) pa_nil))))
  (pss_cons (ps_if (pt_cmpR (op_neD hr.units) (pe_lam (T := TB2 Pa Pb) (vs := []) (TT := TTheard CP CT) (k := 11) (nm := []) (dts := []) (t := fun E => tCallS (spPhText K CP) (WE fun cls d _ H => E cls d H) (tCons (tVar 9) tNil)) (by rfl) D__law_heard.g D__law_heard.F.kp lkH hcH D__law_heard.b sc__law_heard rfl (Or.inl rfl) (heard_gives Z T) TB rfl (List.mem_cons_of_mem _ List.mem_cons_self) hu (hr.mono (by decide)) (lamN_by (sc := defScope s_law) (N := N_law) (by decide +kernel)) (.inl ⟨rfl, rfl⟩) (bind_0 fun _ _ _ _ _ _ _ => rfl) (mono_S phtext_mono (mta_cons mte_var mta_nil)) pa_nil (fun _ _ _ => rfl) rfl (fun A outer s H E f c' hr2 => pe_callS GX_phases_text (hr2.mono (by decide)) (by rfl) D_phases_text.g D_phases_text.F.kp D_phases_text.b (fun σ => passAt (takes_of rfl rfl rfl rfl) σ) (pa_cons (pv 9) pa_nil))) (pe_tup (pa_cons pe_str (pa_cons pe_str pa_nil))) (nomark _)) (pss_one (ps_ret pe_bl)) pss_nil)
  (pss_one (ps_ret (pe_cmpR (op_eqD hr.units) (pe_lam (T := TB2 Pa Pb) (vs := []) (TT := TTheard CP CT) (k := 11) (nm := []) (dts := []) (t := fun E => tCallS (spPhRead K CT) (WE fun cls d _ H => E cls d H) (tCons (tVar 10) tNil)) (by rfl) D__law_heard.g D__law_heard.F.kp lkH hcH D__law_heard.b sc__law_heard rfl (Or.inl rfl) (heard_gives Z T) TB rfl (List.mem_cons_of_mem _ List.mem_cons_self) hu (hr.mono (by decide)) (lamN_by (sc := defScope s_law) (N := N_law) (by decide +kernel)) (.inl ⟨rfl, rfl⟩) (bind_0 fun _ _ _ _ _ _ _ => rfl) (mono_S phread_mono (mta_cons mte_var mta_nil)) pa_nil (fun _ _ _ => rfl) rfl (fun A outer s H E f c' hr2 => pe_callS GX_phases_read (hr2.mono (by decide)) (by rfl) D_phases_read.g D_phases_read.F.kp D_phases_read.b (fun σ => passAt (takes_of rfl rfl rfl rfl) σ) (pa_cons (pv 10) pa_nil))) (pe_tup (pa_cons pe_str (pa_cons pe_int (pa_cons pe_int pa_nil)))) (nomark _))))))))), ?_⟩
      refine ⟨_, rfl, a, ns, rfl, hS, hl, fun p b H1 hp hb O S1 => ?_⟩
      have M1 : Mid (TB2 Pa Pb) p b 0 H1 := ⟨O, fun x hx => by
        rcases List.mem_cons.mp hx with rfl | hx
        · exact .nil (S1 _ _ hPa)
        · rw [List.mem_singleton.mp hx]
          exact .nil (S1 _ _ hPb)⟩
      refine ⟨3, rfl, by decide, by decide, ?_⟩
      refine for_range (n := 3) (fun i σ H' => Mid (TB2 Pa Pb) p b (400 * i) H' ∧ ∃ u2 u3 u4 u5 u6 u7 u8 : Option V, σ = [some (.ref a), some (.ref p), u2, u3, u4, u5, u6, u7, u8, none, none]) ⟨M1, none, none, none, none, none, none, none, rfl⟩ ?_ ?_
      · rintro i σ H2 hi ⟨M, u2, u3, u4, u5, u6, u7, u8, rfl⟩
        clear S1 O M1 hS hPa hPb hp hb
        repeat (first | (with_reducible refine st_tC ?_) | (with_reducible refine st_tOp ?_) | ((with_reducible apply st_n); rfl; rfl; (first | trivial | (show _ ≤ _; omega) | (show _ < _; omega) | (show _ ∨ _; omega) | assumption | exact ⟨by assumption, by omega⟩ | exact ⟨W30.one, by omega⟩ | fail); rfl) | (with_reducible refine st_i0 rfl rfl rfl ?_) | ((with_reducible refine st_i rfl rfl ?_ rfl ?_); first | omega | exact ⟨by decide, by decide, by decide⟩ | exact .inl ⟨by decide, by decide⟩ | exact .inl ⟨by omega, by omega⟩ | exact .inr ⟨by omega, by omega⟩ | fail) | ((fail_if_success refine Exists.intro (α := Nat → Nat → L2.St → Hp → Prop) ?_ ?_); (fail_if_success refine Exists.intro (α := L2.St → Hp → Prop) ?_ ?_); (fail_if_success refine Exists.intro (α := Nat → L2.St → Hp → Prop) ?_ ?_); apply Exists.intro) | ((refine And.intro ?_ ?_); first | with_reducible rfl | with_reducible assumption | rfl | ((with_reducible apply SqL.of); assumption) | ((with_reducible apply SqT.of); assumption) | ((with_reducible apply OwnC.cl); assumption) | (with_reducible exact isI_int _) | exact within_args | (with_reducible exact upd_same) | ((with_reducible apply Mid.o); assumption) | ((with_reducible apply Mid.t); assumption) | exact .inl ⟨rfl, _, SqL.of (by assumption)⟩ | (with_reducible exact ⟨_, SqT.of (by assumption)⟩) | (with_reducible exact ⟨_, SqL.of (by assumption)⟩) | omega | exact Nat.le_of_ble_eq_true rfl | exact nat9 (by omega) | exact ⟨_, rfl⟩ | (show _ ≤ sizeLine; decide) | exact ⟨by decide, by decide, by decide⟩ | exact .inl ⟨by decide, by decide⟩ | exact .inl ⟨by omega, by omega⟩ | exact .inr ⟨by omega, by omega⟩ | assumption | fail) | ((with_reducible refine iteF' ?_ ?_); first | rfl | exact decide_eq_false (by omega) | exact in_no (by omega) (by omega) | exact in_no (by omega) (by assumption) | (simp <;> fail) | fail) | ((with_reducible refine iteT' ?_ ?_); first | rfl | exact decide_eq_true (by omega) | (simp <;> fail) | fail))
        intro q us ls H3 nq g_q pl ok l5 O3 B3
        have qp : q ≠ p := M.pD nq
        replace M := M.draw O3 B3
        obtain ⟨_, _, _, hpX, _⟩ := id M.o
        have kt : Kept p q us ls H3 := ⟨g_q, qp, pl, pl.apart hpX⟩
        clear O3 B3 nq g_q pl hpX
        have sqq := SqL.of (K := K) kt.g
        have l5' := kt.pl.len
        repeat (first | (with_reducible refine st_tC ?_) | (with_reducible refine st_tOp ?_) | ((with_reducible apply st_n); rfl; rfl; (first | trivial | (show _ ≤ _; omega) | (show _ < _; omega) | (show _ ∨ _; omega) | assumption | exact ⟨by assumption, by omega⟩ | exact ⟨W30.one, by omega⟩ | fail); rfl) | (with_reducible refine st_i0 rfl rfl rfl ?_) | ((with_reducible refine st_i rfl rfl ?_ rfl ?_); first | omega | exact ⟨by decide, by decide, by decide⟩ | exact .inl ⟨by decide, by decide⟩ | exact .inl ⟨by omega, by omega⟩ | exact .inr ⟨by omega, by omega⟩ | fail) | ((fail_if_success refine Exists.intro (α := Nat → Nat → L2.St → Hp → Prop) ?_ ?_); (fail_if_success refine Exists.intro (α := L2.St → Hp → Prop) ?_ ?_); (fail_if_success refine Exists.intro (α := Nat → L2.St → Hp → Prop) ?_ ?_); apply Exists.intro) | ((refine And.intro ?_ ?_); first | with_reducible rfl | with_reducible assumption | rfl | ((with_reducible apply SqL.of); assumption) | ((with_reducible apply SqT.of); assumption) | ((with_reducible apply OwnC.cl); assumption) | (with_reducible exact isI_int _) | exact within_args | (with_reducible exact upd_same) | ((with_reducible apply Mid.o); assumption) | ((with_reducible apply Mid.t); assumption) | exact .inl ⟨rfl, _, SqL.of (by assumption)⟩ | (with_reducible exact ⟨_, SqT.of (by assumption)⟩) | (with_reducible exact ⟨_, SqL.of (by assumption)⟩) | omega | exact Nat.le_of_ble_eq_true rfl | exact nat9 (by omega) | exact ⟨_, rfl⟩ | (show _ ≤ sizeLine; decide) | exact ⟨by decide, by decide, by decide⟩ | exact .inl ⟨by decide, by decide⟩ | exact .inl ⟨by omega, by omega⟩ | exact .inr ⟨by omega, by omega⟩ | assumption | fail) | ((with_reducible refine iteF' ?_ ?_); first | rfl | exact decide_eq_false (by omega) | exact in_no (by omega) (by omega) | exact in_no (by omega) (by assumption) | (simp <;> fail) | fail) | ((with_reducible refine iteT' ?_ ?_); first | rfl | exact decide_eq_true (by omega) | (simp <;> fail) | fail))
        refine ⟨⟨_, sqq⟩, ?_⟩
        intro D hD
        have Dp1 := M.pD hD
        have Db1 := M.bD hD
        have S4 := same_new (o := .lst []) hD
        have nqD : q ≠ D := ne_of_none kt.g hD
        have nDus := kt.pl.new hD
        refine lc_list (xs := us) (fun j H' => Mid (TB2 Pa Pb) p b (400 * i + 100 + 21 * j) H' ∧ Kept p q us ls H' ∧ ∃ vs ms, Psd p D vs ms H' ∧ Prm ms (ls.take j)) ⟨M.same S4, kt.same S4, [], [], ⟨upd_same, Dp1, trivial, fun t z => by cases z⟩, trivial⟩ (fun j H' _ h => SqL.of h.2.1.g) ?_ ?_
        · clear M kt S4 sqq hD
          rintro j y H4 hy ⟨M, kt, vs, ms, ps, pr⟩
          obtain ⟨t, ph, rfl, hph, g_t⟩ := kt.pl.at hy
          have np_t : t ≠ p := kt.nt t (List.mem_of_getElem? hy)
          have j5 := (List.getElem?_eq_some_iff.mp hy).1
          obtain ⟨o1, o2, o3, o4⟩ := ok ph (List.mem_of_getElem? hph)
          have lps := ps.md.len
          have lpr := (pr.facts fun l hl => (ok l (List.mem_of_mem_take hl)).2.2.2).2.2
          rw [List.length_take] at lpr
          have tk : ls.take (j + 1) = ls.take j ++ [ph] := by rw [List.take_add_one, hph]; rfl
          refine ⟨rfl, ?_⟩
          repeat (first | (with_reducible refine st_tC ?_) | (with_reducible refine st_tOp ?_) | ((with_reducible apply st_n); rfl; rfl; (first | trivial | (show _ ≤ _; omega) | (show _ < _; omega) | (show _ ∨ _; omega) | assumption | exact ⟨by assumption, by omega⟩ | exact ⟨W30.one, by omega⟩ | fail); rfl) | (with_reducible refine st_i0 rfl rfl rfl ?_) | ((with_reducible refine st_i rfl rfl ?_ rfl ?_); first | omega | exact ⟨by decide, by decide, by decide⟩ | exact .inl ⟨by decide, by decide⟩ | exact .inl ⟨by omega, by omega⟩ | exact .inr ⟨by omega, by omega⟩ | fail) | ((fail_if_success refine Exists.intro (α := Nat → Nat → L2.St → Hp → Prop) ?_ ?_); (fail_if_success refine Exists.intro (α := L2.St → Hp → Prop) ?_ ?_); (fail_if_success refine Exists.intro (α := Nat → L2.St → Hp → Prop) ?_ ?_); apply Exists.intro) | ((refine And.intro ?_ ?_); first | with_reducible rfl | with_reducible assumption | rfl | ((with_reducible apply SqL.of); assumption) | ((with_reducible apply SqT.of); assumption) | ((with_reducible apply OwnC.cl); assumption) | (with_reducible exact isI_int _) | exact within_args | (with_reducible exact upd_same) | ((with_reducible apply Mid.o); assumption) | ((with_reducible apply Mid.t); assumption) | exact .inl ⟨rfl, _, SqL.of (by assumption)⟩ | (with_reducible exact ⟨_, SqT.of (by assumption)⟩) | (with_reducible exact ⟨_, SqL.of (by assumption)⟩) | omega | exact Nat.le_of_ble_eq_true rfl | exact nat9 (by omega) | exact ⟨_, rfl⟩ | (show _ ≤ sizeLine; decide) | exact ⟨by decide, by decide, by decide⟩ | exact .inl ⟨by decide, by decide⟩ | exact .inl ⟨by omega, by omega⟩ | exact .inr ⟨by omega, by omega⟩ | assumption | fail) | ((with_reducible refine iteF' ?_ ?_); first | rfl | exact decide_eq_false (by omega) | exact in_no (by omega) (by omega) | exact in_no (by omega) (by assumption) | (simp <;> fail) | fail) | ((with_reducible refine iteT' ?_ ?_); first | rfl | exact decide_eq_true (by omega) | (simp <;> fail) | fail))
          intro r H5 r0 r1 O_r B_r; obtain ⟨_, _, _, hpX, _⟩ := id M.o; replace kt := kt.but B_r hpX; replace ps := ps.but B_r hpX; replace g_t := B_r _ _ g_t np_t; replace M := M.draw O_r B_r; obtain ⟨r, rfl⟩ := Int.eq_ofNat_of_zero_le r0; clear O_r B_r
          have fin : ∀ (u : Addr) (m : Bool × List Nat) (H' : Hp), m.2.Perm ph → H' u = some (mkO m) → u ≠ p → u ≠ D → Mid (TB2 Pa Pb) p b (400 * i + 100 + 21 * j + 21) H' → Kept p q us ls H' → Psd p D vs ms H' → ∃ acc, H' D = some (.lst acc) ∧ acc.length < sizeLine ∧ Mid (TB2 Pa Pb) p b (400 * i + 100 + 21 * (j + 1)) (upd H' D (.lst (acc ++ [V.ref u]))) ∧ Kept p q us ls (upd H' D (.lst (acc ++ [V.ref u]))) ∧ ∃ vs ms, Psd p D vs ms (upd H' D (.lst (acc ++ [V.ref u]))) ∧ Prm ms (ls.take (j + 1)) := fun u m H' pm gu nup nuD M' kt' ps' => by
            refine ⟨vs, ps'.g, by rw [sizeLine_eq]; omega, (M'.put ps'.g Dp1 Db1).mono (by omega), ?_, _, _, ps'.put gu nup nuD, by rw [tk]; exact pr.app pm⟩
            exact ⟨by rw [upd_ne nqD]; exact kt'.g, kt'.np, kt'.pl.mono (fun x hx _ e => by rw [upd_ne (show x ≠ D from fun z => nDus (by rw [← z]; exact hx))]; exact e), kt'.nt⟩
          repeat (first | (with_reducible refine st_tC ?_) | (with_reducible refine st_tOp ?_) | ((with_reducible apply st_n); rfl; rfl; (first | trivial | (show _ ≤ _; omega) | (show _ < _; omega) | (show _ ∨ _; omega) | assumption | exact ⟨by assumption, by omega⟩ | exact ⟨W30.one, by omega⟩ | fail); rfl) | (with_reducible refine st_i0 rfl rfl rfl ?_) | ((with_reducible refine st_i rfl rfl ?_ rfl ?_); first | omega | exact ⟨by decide, by decide, by decide⟩ | exact .inl ⟨by decide, by decide⟩ | exact .inl ⟨by omega, by omega⟩ | exact .inr ⟨by omega, by omega⟩ | fail) | ((fail_if_success refine Exists.intro (α := Nat → Nat → L2.St → Hp → Prop) ?_ ?_); (fail_if_success refine Exists.intro (α := L2.St → Hp → Prop) ?_ ?_); (fail_if_success refine Exists.intro (α := Nat → L2.St → Hp → Prop) ?_ ?_); apply Exists.intro) | ((refine And.intro ?_ ?_); first | with_reducible rfl | with_reducible assumption | rfl | ((with_reducible apply SqL.of); assumption) | ((with_reducible apply SqT.of); assumption) | ((with_reducible apply OwnC.cl); assumption) | (with_reducible exact isI_int _) | exact within_args | (with_reducible exact upd_same) | ((with_reducible apply Mid.o); assumption) | ((with_reducible apply Mid.t); assumption) | exact .inl ⟨rfl, _, SqL.of (by assumption)⟩ | (with_reducible exact ⟨_, SqT.of (by assumption)⟩) | (with_reducible exact ⟨_, SqL.of (by assumption)⟩) | omega | exact Nat.le_of_ble_eq_true rfl | exact nat9 (by omega) | exact ⟨_, rfl⟩ | (show _ ≤ sizeLine; decide) | exact ⟨by decide, by decide, by decide⟩ | exact .inl ⟨by decide, by decide⟩ | exact .inl ⟨by omega, by omega⟩ | exact .inr ⟨by omega, by omega⟩ | assumption | fail) | ((with_reducible refine iteF' ?_ ?_); first | rfl | exact decide_eq_false (by omega) | exact in_no (by omega) (by omega) | exact in_no (by omega) (by assumption) | (simp <;> fail) | fail) | ((with_reducible refine iteT' ?_ ?_); first | rfl | exact decide_eq_true (by omega) | (simp <;> fail) | fail))
          by_cases r0 : r = 0
          · subst r0
            refine iteT' (decide_eq_true rfl) ?_
            have l20 : (ph.map fun n : Nat => (n : Int)).length ≤ 20 := by rw [List.length_map]; omega
            have g_t2 := g_t
            rw [natV_is] at g_t2
            repeat (first | (with_reducible refine st_tC ?_) | (with_reducible refine st_tOp ?_) | ((with_reducible apply st_n); rfl; rfl; (first | trivial | (show _ ≤ _; omega) | (show _ < _; omega) | (show _ ∨ _; omega) | assumption | exact ⟨by assumption, by omega⟩ | exact ⟨W30.one, by omega⟩ | fail); rfl) | (with_reducible refine st_i0 rfl rfl rfl ?_) | ((with_reducible refine st_i rfl rfl ?_ rfl ?_); first | omega | exact ⟨by decide, by decide, by decide⟩ | exact .inl ⟨by decide, by decide⟩ | exact .inl ⟨by omega, by omega⟩ | exact .inr ⟨by omega, by omega⟩ | fail) | ((fail_if_success refine Exists.intro (α := Nat → Nat → L2.St → Hp → Prop) ?_ ?_); (fail_if_success refine Exists.intro (α := L2.St → Hp → Prop) ?_ ?_); (fail_if_success refine Exists.intro (α := Nat → L2.St → Hp → Prop) ?_ ?_); apply Exists.intro) | ((refine And.intro ?_ ?_); first | with_reducible rfl | with_reducible assumption | rfl | ((with_reducible apply SqL.of); assumption) | ((with_reducible apply SqT.of); assumption) | ((with_reducible apply OwnC.cl); assumption) | (with_reducible exact isI_int _) | exact within_args | (with_reducible exact upd_same) | ((with_reducible apply Mid.o); assumption) | ((with_reducible apply Mid.t); assumption) | exact .inl ⟨rfl, _, SqL.of (by assumption)⟩ | (with_reducible exact ⟨_, SqT.of (by assumption)⟩) | (with_reducible exact ⟨_, SqL.of (by assumption)⟩) | omega | exact Nat.le_of_ble_eq_true rfl | exact nat9 (by omega) | exact ⟨_, rfl⟩ | (show _ ≤ sizeLine; decide) | exact ⟨by decide, by decide, by decide⟩ | exact .inl ⟨by decide, by decide⟩ | exact .inl ⟨by omega, by omega⟩ | exact .inr ⟨by omega, by omega⟩ | assumption | fail) | ((with_reducible refine iteF' ?_ ?_); first | rfl | exact decide_eq_false (by omega) | exact in_no (by omega) (by omega) | exact in_no (by omega) (by assumption) | (simp <;> fail) | fail) | ((with_reducible refine iteT' ?_ ?_); first | rfl | exact decide_eq_true (by omega) | (simp <;> fail) | fail))
            intro u ns' H6 pm nu gu O6 B6
            obtain ⟨_, _, _, hpX, _⟩ := id M.o
            have nup : u ≠ p := M.pD nu
            have nuD : u ≠ D := (ne_of_none ps.g nu).symm
            obtain ⟨qq, rfl, pq⟩ := nats_of pm
            rw [← natV_is] at gu
            exact fin u (true, qq) H6 pq gu nup nuD ((M.draw O6 B6).mono (by omega)) (kt.but B6 hpX) (ps.but B6 hpX)
          · refine iteF' (decide_eq_false fun z => r0 (by have := V.int.inj z; omega)) ?_
            repeat (first | (with_reducible refine st_tC ?_) | (with_reducible refine st_tOp ?_) | ((with_reducible apply st_n); rfl; rfl; (first | trivial | (show _ ≤ _; omega) | (show _ < _; omega) | (show _ ∨ _; omega) | assumption | exact ⟨by assumption, by omega⟩ | exact ⟨W30.one, by omega⟩ | fail); rfl) | (with_reducible refine st_i0 rfl rfl rfl ?_) | ((with_reducible refine st_i rfl rfl ?_ rfl ?_); first | omega | exact ⟨by decide, by decide, by decide⟩ | exact .inl ⟨by decide, by decide⟩ | exact .inl ⟨by omega, by omega⟩ | exact .inr ⟨by omega, by omega⟩ | fail) | ((fail_if_success refine Exists.intro (α := Nat → Nat → L2.St → Hp → Prop) ?_ ?_); (fail_if_success refine Exists.intro (α := L2.St → Hp → Prop) ?_ ?_); (fail_if_success refine Exists.intro (α := Nat → L2.St → Hp → Prop) ?_ ?_); apply Exists.intro) | ((refine And.intro ?_ ?_); first | with_reducible rfl | with_reducible assumption | rfl | ((with_reducible apply SqL.of); assumption) | ((with_reducible apply SqT.of); assumption) | ((with_reducible apply OwnC.cl); assumption) | (with_reducible exact isI_int _) | exact within_args | (with_reducible exact upd_same) | ((with_reducible apply Mid.o); assumption) | ((with_reducible apply Mid.t); assumption) | exact .inl ⟨rfl, _, SqL.of (by assumption)⟩ | (with_reducible exact ⟨_, SqT.of (by assumption)⟩) | (with_reducible exact ⟨_, SqL.of (by assumption)⟩) | omega | exact Nat.le_of_ble_eq_true rfl | exact nat9 (by omega) | exact ⟨_, rfl⟩ | (show _ ≤ sizeLine; decide) | exact ⟨by decide, by decide, by decide⟩ | exact .inl ⟨by decide, by decide⟩ | exact .inl ⟨by omega, by omega⟩ | exact .inr ⟨by omega, by omega⟩ | assumption | fail) | ((with_reducible refine iteF' ?_ ?_); first | rfl | exact decide_eq_false (by omega) | exact in_no (by omega) (by omega) | exact in_no (by omega) (by assumption) | (simp <;> fail) | fail) | ((with_reducible refine iteT' ?_ ?_); first | rfl | exact decide_eq_true (by omega) | (simp <;> fail) | fail))
            intro rv h_rv; have np_rv := M.pD h_rv; have nb_rv := M.bD h_rv; generalize hE : upd _ rv _ = H6; obtain ⟨S_rv, g_rv⟩ := new_facts h_rv hE; clear hE; replace M := M.same S_rv; replace kt := kt.same S_rv; replace ps := ps.same S_rv
            rw [← List.map_reverse] at g_rv
            refine ⟨rv, natV ph.reverse, rfl, .inl ⟨SqL.of g_rv, fun u hu => ?_⟩⟩
            have S7 := same_new (o := .tup (natV ph.reverse)) hu
            have nup : u ≠ p := M.pD hu
            have nuD : u ≠ D := (ne_of_none ps.g hu).symm
            exact fin u (false, ph.reverse) _ (List.reverse_perm ph) upd_same nup nuD ((M.same S7).mono (by omega)) (kt.same S7) (ps.same S7)
        · clear M kt S4 sqq hD
          rintro H4 ⟨M, kt, vs, ms, ps, pr⟩
          rw [l5', List.take_length] at pr
          rw [l5'] at M
          have ok4 : ∀ l ∈ ls, l ≠ [] ∧ l.Pairwise (· < ·) ∧ l.length ≤ 400 ∧ ∀ n ∈ l, n ≤ 20000 := fun l hl => by
            obtain ⟨a1, a2, a3, a4⟩ := ok l hl
            exact ⟨a1, a2, by omega, a4⟩
          have okn : ∀ l ∈ ls, l ≠ [] := fun l hl => (ok l hl).1
          obtain ⟨f1, f2, f3⟩ := pr.facts fun l hl => (ok l hl).2.2.2
          have sm : (ls.map fun l => l.length).sum ≤ 6 * ls.length := by
            have := sum_bd (B := 6) (l := ls.map fun l => l.length) fun x hx => by
              obtain ⟨l, hl, rfl⟩ := List.mem_map.mp hx
              exact (ok l hl).2.2.1
            rw [List.length_map] at this
            exact this
          obtain ⟨⟨r1, r2, r3, r4⟩, _⟩ := mk_repr f1 (by omega) (by omega)
          have lvs := ps.md.len
          have dpP : ∀ H', Psd p D vs ms H' → Dp (cxOf CX0 P w K mg base ["script", "quarry", "turn", "phases", "passed", "phase", "kept", "items", "bend", "none", "odd"] "law" (defScope s_law) f (.ref c) A outer s H E).nox.K H' (.ref D) (PyData.list (ms.map mkD)) := fun H' ps' => Dp.lst (SqL.of ps'.g) ps'.md.dp
          have phl : ∀ H', Psd p D vs ms H' → PhL (cxOf CX0 P w K mg base ["script", "quarry", "turn", "phases", "passed", "phase", "kept", "items", "bend", "none", "odd"] "law" (defScope s_law) f (.ref c) A outer s H E).nox.K H' vs ls := fun H' ps' => ps'.md.phl pr ok4
          generalize PyData.list (ms.map mkD) = dP at r1 r2 r3 r4 dpP
          obtain ⟨io, iw, ine⟩ := items_ok ok l5
          have itx := items_txt okn
          have isp := items_split okn
          have ird := read_items ok
          generalize hits : itemsF ls = its at io iw ine itx isp ird
          have v4 : vs.length ≤ 400 := by omega
          repeat (first | (refine ⟨D, dP, rfl, dpP _ ps, r1, r2, r3, r4, ?_⟩) | (refine ⟨q, us, ls, rfl, kt.g, kt.pl, l5, (fun l hl => ⟨(ok l hl).2.2.1, (ok l hl).2.2.2⟩), ?_⟩) | (with_reducible refine st_tC ?_) | (with_reducible refine st_tOp ?_) | ((with_reducible apply st_n); rfl; rfl; (first | trivial | (show _ ≤ _; omega) | (show _ < _; omega) | (show _ ∨ _; omega) | assumption | exact ⟨by assumption, by omega⟩ | exact ⟨W30.one, by omega⟩ | fail); rfl) | (with_reducible refine st_i0 rfl rfl rfl ?_) | ((with_reducible refine st_i rfl rfl ?_ rfl ?_); first | omega | exact ⟨by decide, by decide, by decide⟩ | exact .inl ⟨by decide, by decide⟩ | exact .inl ⟨by omega, by omega⟩ | exact .inr ⟨by omega, by omega⟩ | fail) | ((fail_if_success refine Exists.intro (α := Nat → Nat → L2.St → Hp → Prop) ?_ ?_); (fail_if_success refine Exists.intro (α := L2.St → Hp → Prop) ?_ ?_); (fail_if_success refine Exists.intro (α := Nat → L2.St → Hp → Prop) ?_ ?_); apply Exists.intro) | ((refine And.intro ?_ ?_); first | with_reducible rfl | with_reducible assumption | rfl | ((with_reducible apply SqL.of); assumption) | ((with_reducible apply SqT.of); assumption) | ((with_reducible apply OwnC.cl); assumption) | (with_reducible exact isI_int _) | exact within_args | (with_reducible exact upd_same) | ((with_reducible apply Mid.o); assumption) | ((with_reducible apply Mid.t); assumption) | exact .inl ⟨rfl, _, SqL.of (by assumption)⟩ | (with_reducible exact ⟨_, SqT.of (by assumption)⟩) | (with_reducible exact ⟨_, SqL.of (by assumption)⟩) | omega | exact Nat.le_of_ble_eq_true rfl | exact nat9 (by omega) | exact ⟨_, rfl⟩ | (show _ ≤ sizeLine; decide) | exact ⟨by decide, by decide, by decide⟩ | exact .inl ⟨by decide, by decide⟩ | exact .inl ⟨by omega, by omega⟩ | exact .inr ⟨by omega, by omega⟩ | assumption | fail) | ((with_reducible refine iteF' ?_ ?_); first | rfl | exact decide_eq_false (by omega) | exact in_no (by omega) (by omega) | exact in_no (by omega) (by assumption) | (simp <;> fail) | fail) | ((with_reducible refine iteT' ?_ ?_); first | rfl | exact decide_eq_true (by omega) | (simp <;> fail) | fail))
          intro it H5 nit S5 g_it
          have np_it : it ≠ p := M.pD nit
          rw [hits] at g_it
          replace M := M.same S5; replace kt := kt.same S5; replace ps := ps.same S5
          clear S5 nit
          repeat (first | (with_reducible refine st_tC ?_) | (with_reducible refine st_tOp ?_) | ((with_reducible apply st_n); rfl; rfl; (first | trivial | (show _ ≤ _; omega) | (show _ < _; omega) | (show _ ∨ _; omega) | assumption | exact ⟨by assumption, by omega⟩ | exact ⟨W30.one, by omega⟩ | fail); rfl) | (with_reducible refine st_i0 rfl rfl rfl ?_) | ((with_reducible refine st_i rfl rfl ?_ rfl ?_); first | omega | exact ⟨by decide, by decide, by decide⟩ | exact .inl ⟨by decide, by decide⟩ | exact .inl ⟨by omega, by omega⟩ | exact .inr ⟨by omega, by omega⟩ | fail) | ((fail_if_success refine Exists.intro (α := Nat → Nat → L2.St → Hp → Prop) ?_ ?_); (fail_if_success refine Exists.intro (α := L2.St → Hp → Prop) ?_ ?_); (fail_if_success refine Exists.intro (α := Nat → L2.St → Hp → Prop) ?_ ?_); apply Exists.intro) | ((refine And.intro ?_ ?_); first | with_reducible rfl | with_reducible assumption | rfl | ((with_reducible apply SqL.of); assumption) | ((with_reducible apply SqT.of); assumption) | ((with_reducible apply OwnC.cl); assumption) | (with_reducible exact isI_int _) | exact within_args | (with_reducible exact upd_same) | ((with_reducible apply Mid.o); assumption) | ((with_reducible apply Mid.t); assumption) | exact .inl ⟨rfl, _, SqL.of (by assumption)⟩ | (with_reducible exact ⟨_, SqT.of (by assumption)⟩) | (with_reducible exact ⟨_, SqL.of (by assumption)⟩) | omega | exact Nat.le_of_ble_eq_true rfl | exact nat9 (by omega) | exact ⟨_, rfl⟩ | (show _ ≤ sizeLine; decide) | exact ⟨by decide, by decide, by decide⟩ | exact .inl ⟨by decide, by decide⟩ | exact .inl ⟨by omega, by omega⟩ | exact .inr ⟨by omega, by omega⟩ | assumption | fail) | ((with_reducible refine iteF' ?_ ?_); first | rfl | exact decide_eq_false (by omega) | exact in_no (by omega) (by omega) | exact in_no (by omega) (by assumption) | (simp <;> fail) | fail) | ((with_reducible refine iteT' ?_ ?_); first | rfl | exact decide_eq_true (by omega) | (simp <;> fail) | fail))
          refine .inr ⟨D, vs, ls, rfl, .inl ps.g, v4, phl _ ps, fun H6 S6 => ?_⟩
          replace M := M.same S6; replace kt := kt.same S6; replace ps := ps.same S6
          replace g_it := S6 _ _ g_it
          clear S6
          repeat (first | (with_reducible refine st_tC ?_) | (with_reducible refine st_tOp ?_) | ((with_reducible apply st_n); rfl; rfl; (first | trivial | (show _ ≤ _; omega) | (show _ < _; omega) | (show _ ∨ _; omega) | assumption | exact ⟨by assumption, by omega⟩ | exact ⟨W30.one, by omega⟩ | fail); rfl) | (with_reducible refine st_i0 rfl rfl rfl ?_) | ((with_reducible refine st_i rfl rfl ?_ rfl ?_); first | omega | exact ⟨by decide, by decide, by decide⟩ | exact .inl ⟨by decide, by decide⟩ | exact .inl ⟨by omega, by omega⟩ | exact .inr ⟨by omega, by omega⟩ | fail) | ((fail_if_success refine Exists.intro (α := Nat → Nat → L2.St → Hp → Prop) ?_ ?_); (fail_if_success refine Exists.intro (α := L2.St → Hp → Prop) ?_ ?_); (fail_if_success refine Exists.intro (α := Nat → L2.St → Hp → Prop) ?_ ?_); apply Exists.intro) | ((refine And.intro ?_ ?_); first | with_reducible rfl | with_reducible assumption | rfl | ((with_reducible apply SqL.of); assumption) | ((with_reducible apply SqT.of); assumption) | ((with_reducible apply OwnC.cl); assumption) | (with_reducible exact isI_int _) | exact within_args | (with_reducible exact upd_same) | ((with_reducible apply Mid.o); assumption) | ((with_reducible apply Mid.t); assumption) | exact .inl ⟨rfl, _, SqL.of (by assumption)⟩ | (with_reducible exact ⟨_, SqT.of (by assumption)⟩) | (with_reducible exact ⟨_, SqL.of (by assumption)⟩) | omega | exact Nat.le_of_ble_eq_true rfl | exact nat9 (by omega) | exact ⟨_, rfl⟩ | (show _ ≤ sizeLine; decide) | exact ⟨by decide, by decide, by decide⟩ | exact .inl ⟨by decide, by decide⟩ | exact .inl ⟨by omega, by omega⟩ | exact .inr ⟨by omega, by omega⟩ | assumption | fail) | ((with_reducible refine iteF' ?_ ?_); first | rfl | exact decide_eq_false (by omega) | exact in_no (by omega) (by omega) | exact in_no (by omega) (by assumption) | (simp <;> fail) | fail) | ((with_reducible refine iteT' ?_ ?_); first | rfl | exact decide_eq_true (by omega) | (simp <;> fail) | fail))
          refine .inl ⟨SqL.of ps.g, ?_⟩
          intro tv h_tv; have np_tv := M.pD h_tv; have nb_tv := M.bD h_tv; generalize hE : upd _ tv _ = H7; obtain ⟨S_tv, g_tv⟩ := new_facts h_tv hE; clear hE; replace M := M.same S_tv; replace kt := kt.same S_tv; replace ps := ps.same S_tv; replace g_it := S_tv _ _ g_it
          have md7 := ps.md
          repeat (first | (with_reducible refine st_tC ?_) | (with_reducible refine st_tOp ?_) | ((with_reducible apply st_n); rfl; rfl; (first | trivial | (show _ ≤ _; omega) | (show _ < _; omega) | (show _ ∨ _; omega) | assumption | exact ⟨by assumption, by omega⟩ | exact ⟨W30.one, by omega⟩ | fail); rfl) | (with_reducible refine st_i0 rfl rfl rfl ?_) | ((with_reducible refine st_i rfl rfl ?_ rfl ?_); first | omega | exact ⟨by decide, by decide, by decide⟩ | exact .inl ⟨by decide, by decide⟩ | exact .inl ⟨by omega, by omega⟩ | exact .inr ⟨by omega, by omega⟩ | fail) | ((fail_if_success refine Exists.intro (α := Nat → Nat → L2.St → Hp → Prop) ?_ ?_); (fail_if_success refine Exists.intro (α := L2.St → Hp → Prop) ?_ ?_); (fail_if_success refine Exists.intro (α := Nat → L2.St → Hp → Prop) ?_ ?_); apply Exists.intro) | ((refine And.intro ?_ ?_); first | with_reducible rfl | with_reducible assumption | rfl | ((with_reducible apply SqL.of); assumption) | ((with_reducible apply SqT.of); assumption) | ((with_reducible apply OwnC.cl); assumption) | (with_reducible exact isI_int _) | exact within_args | (with_reducible exact upd_same) | ((with_reducible apply Mid.o); assumption) | ((with_reducible apply Mid.t); assumption) | exact .inl ⟨rfl, _, SqL.of (by assumption)⟩ | (with_reducible exact ⟨_, SqT.of (by assumption)⟩) | (with_reducible exact ⟨_, SqL.of (by assumption)⟩) | omega | exact Nat.le_of_ble_eq_true rfl | exact nat9 (by omega) | exact ⟨_, rfl⟩ | (show _ ≤ sizeLine; decide) | exact ⟨by decide, by decide, by decide⟩ | exact .inl ⟨by decide, by decide⟩ | exact .inl ⟨by omega, by omega⟩ | exact .inr ⟨by omega, by omega⟩ | assumption | fail) | ((with_reducible refine iteF' ?_ ?_); first | rfl | exact decide_eq_false (by omega) | exact in_no (by omega) (by omega) | exact in_no (by omega) (by assumption) | (simp <;> fail) | fail) | ((with_reducible refine iteT' ?_ ?_); first | rfl | exact decide_eq_true (by omega) | (simp <;> fail) | fail))
          refine .inr ⟨tv, vs, ls, rfl, .inr g_tv, v4, phl _ ps, fun H8 S8 => ?_⟩
          replace M := M.same S8; replace kt := kt.same S8; replace ps := ps.same S8
          replace g_it := S8 _ _ g_it
          clear S8 g_tv S_tv h_tv md7
          repeat (first | (with_reducible refine st_tC ?_) | (with_reducible refine st_tOp ?_) | ((with_reducible apply st_n); rfl; rfl; (first | trivial | (show _ ≤ _; omega) | (show _ < _; omega) | (show _ ∨ _; omega) | assumption | exact ⟨by assumption, by omega⟩ | exact ⟨W30.one, by omega⟩ | fail); rfl) | (with_reducible refine st_i0 rfl rfl rfl ?_) | ((with_reducible refine st_i rfl rfl ?_ rfl ?_); first | omega | exact ⟨by decide, by decide, by decide⟩ | exact .inl ⟨by decide, by decide⟩ | exact .inl ⟨by omega, by omega⟩ | exact .inr ⟨by omega, by omega⟩ | fail) | ((fail_if_success refine Exists.intro (α := Nat → Nat → L2.St → Hp → Prop) ?_ ?_); (fail_if_success refine Exists.intro (α := L2.St → Hp → Prop) ?_ ?_); (fail_if_success refine Exists.intro (α := Nat → L2.St → Hp → Prop) ?_ ?_); apply Exists.intro) | ((refine And.intro ?_ ?_); first | with_reducible rfl | with_reducible assumption | rfl | ((with_reducible apply SqL.of); assumption) | ((with_reducible apply SqT.of); assumption) | ((with_reducible apply OwnC.cl); assumption) | (with_reducible exact isI_int _) | exact within_args | (with_reducible exact upd_same) | ((with_reducible apply Mid.o); assumption) | ((with_reducible apply Mid.t); assumption) | exact .inl ⟨rfl, _, SqL.of (by assumption)⟩ | (with_reducible exact ⟨_, SqT.of (by assumption)⟩) | (with_reducible exact ⟨_, SqL.of (by assumption)⟩) | omega | exact Nat.le_of_ble_eq_true rfl | exact nat9 (by omega) | exact ⟨_, rfl⟩ | (show _ ≤ sizeLine; decide) | exact ⟨by decide, by decide, by decide⟩ | exact .inl ⟨by decide, by decide⟩ | exact .inl ⟨by omega, by omega⟩ | exact .inr ⟨by omega, by omega⟩ | assumption | fail) | ((with_reducible refine iteF' ?_ ?_); first | rfl | exact decide_eq_false (by omega) | exact in_no (by omega) (by omega) | exact in_no (by omega) (by assumption) | (simp <;> fail) | fail) | ((with_reducible refine iteT' ?_ ?_); first | rfl | exact decide_eq_true (by omega) | (simp <;> fail) | fail))
          intro l2 h_l2; have np_l2 := M.pD h_l2; have nb_l2 := M.bD h_l2; generalize hE : upd _ l2 _ = H9; obtain ⟨S_l2, g_l2⟩ := new_facts h_l2 hE; clear hE; replace M := M.same S_l2; replace kt := kt.same S_l2; replace ps := ps.same S_l2; replace g_it := S_l2 _ _ g_it
          have zA : MN.asc (Txt.join " " its) := MN.asc_join its fun y hy => (io y hy).1
          have zl := Nat.le_trans (wgt_join its) iw
          rw [← itx] at g_l2
          obtain ⟨t1, t2, t3, t4⟩ := two_nice zA (by omega)
          have jsz : (its.map (fun x => x.length)).sum + its.length * (" " : Str).length ≤ 16777216 := by
            have e1 : (" " : Str).length = 1 := by decide +kernel
            unfold wgt at iw
            rw [e1]
            omega
          generalize hd2 : PyData.list [.str (Txt.join " " its), .str (Txt.join " " its)] = d2 at t1 t2 t3 t4
          repeat (first | (refine ⟨l2, d2, rfl, hd2 ▸ Dp.lst (SqL.of g_l2) (.cons (.str _) (.cons (.str _) .nil)), t1, t2, t3, t4, ?_⟩) | (refine ⟨" ", it, its, rfl, rfl, .inl (SqL.of g_it), jsz, ?_⟩) | (with_reducible refine st_tC ?_) | (with_reducible refine st_tOp ?_) | ((with_reducible apply st_n); rfl; rfl; (first | trivial | (show _ ≤ _; omega) | (show _ < _; omega) | (show _ ∨ _; omega) | assumption | exact ⟨by assumption, by omega⟩ | exact ⟨W30.one, by omega⟩ | fail); rfl) | (with_reducible refine st_i0 rfl rfl rfl ?_) | ((with_reducible refine st_i rfl rfl ?_ rfl ?_); first | omega | exact ⟨by decide, by decide, by decide⟩ | exact .inl ⟨by decide, by decide⟩ | exact .inl ⟨by omega, by omega⟩ | exact .inr ⟨by omega, by omega⟩ | fail) | ((fail_if_success refine Exists.intro (α := Nat → Nat → L2.St → Hp → Prop) ?_ ?_); (fail_if_success refine Exists.intro (α := L2.St → Hp → Prop) ?_ ?_); (fail_if_success refine Exists.intro (α := Nat → L2.St → Hp → Prop) ?_ ?_); apply Exists.intro) | ((refine And.intro ?_ ?_); first | with_reducible rfl | with_reducible assumption | rfl | ((with_reducible apply SqL.of); assumption) | ((with_reducible apply SqT.of); assumption) | ((with_reducible apply OwnC.cl); assumption) | (with_reducible exact isI_int _) | exact within_args | (with_reducible exact upd_same) | ((with_reducible apply Mid.o); assumption) | ((with_reducible apply Mid.t); assumption) | exact .inl ⟨rfl, _, SqL.of (by assumption)⟩ | (with_reducible exact ⟨_, SqT.of (by assumption)⟩) | (with_reducible exact ⟨_, SqL.of (by assumption)⟩) | omega | exact Nat.le_of_ble_eq_true rfl | exact nat9 (by omega) | exact ⟨_, rfl⟩ | (show _ ≤ sizeLine; decide) | exact ⟨by decide, by decide, by decide⟩ | exact .inl ⟨by decide, by decide⟩ | exact .inl ⟨by omega, by omega⟩ | exact .inr ⟨by omega, by omega⟩ | assumption | fail) | ((with_reducible refine iteF' ?_ ?_); first | rfl | exact decide_eq_false (by omega) | exact in_no (by omega) (by omega) | exact in_no (by omega) (by assumption) | (simp <;> fail) | fail) | ((with_reducible refine iteT' ?_ ?_); first | rfl | exact decide_eq_true (by omega) | (simp <;> fail) | fail))
          intro l3 h_l3; have np_l3 := M.pD h_l3; have nb_l3 := M.bD h_l3; generalize hE : upd _ l3 _ = H10; obtain ⟨S_l3, g_l3⟩ := new_facts h_l3 hE; clear hE; replace M := M.same S_l3; replace kt := kt.same S_l3; replace ps := ps.same S_l3; replace g_it := S_l3 _ _ g_it
          repeat (first | (with_reducible refine st_tC ?_) | (with_reducible refine st_tOp ?_) | ((with_reducible apply st_n); rfl; rfl; (first | trivial | (show _ ≤ _; omega) | (show _ < _; omega) | (show _ ∨ _; omega) | assumption | exact ⟨by assumption, by omega⟩ | exact ⟨W30.one, by omega⟩ | fail); rfl) | (with_reducible refine st_i0 rfl rfl rfl ?_) | ((with_reducible refine st_i rfl rfl ?_ rfl ?_); first | omega | exact ⟨by decide, by decide, by decide⟩ | exact .inl ⟨by decide, by decide⟩ | exact .inl ⟨by omega, by omega⟩ | exact .inr ⟨by omega, by omega⟩ | fail) | ((fail_if_success refine Exists.intro (α := Nat → Nat → L2.St → Hp → Prop) ?_ ?_); (fail_if_success refine Exists.intro (α := L2.St → Hp → Prop) ?_ ?_); (fail_if_success refine Exists.intro (α := Nat → L2.St → Hp → Prop) ?_ ?_); apply Exists.intro) | ((refine And.intro ?_ ?_); first | with_reducible rfl | with_reducible assumption | rfl | ((with_reducible apply SqL.of); assumption) | ((with_reducible apply SqT.of); assumption) | ((with_reducible apply OwnC.cl); assumption) | (with_reducible exact isI_int _) | exact within_args | (with_reducible exact upd_same) | ((with_reducible apply Mid.o); assumption) | ((with_reducible apply Mid.t); assumption) | exact .inl ⟨rfl, _, SqL.of (by assumption)⟩ | (with_reducible exact ⟨_, SqT.of (by assumption)⟩) | (with_reducible exact ⟨_, SqL.of (by assumption)⟩) | omega | exact Nat.le_of_ble_eq_true rfl | exact nat9 (by omega) | exact ⟨_, rfl⟩ | (show _ ≤ sizeLine; decide) | exact ⟨by decide, by decide, by decide⟩ | exact .inl ⟨by decide, by decide⟩ | exact .inl ⟨by omega, by omega⟩ | exact .inr ⟨by omega, by omega⟩ | assumption | fail) | ((with_reducible refine iteF' ?_ ?_); first | rfl | exact decide_eq_false (by omega) | exact in_no (by omega) (by omega) | exact in_no (by omega) (by assumption) | (simp <;> fail) | fail) | ((with_reducible refine iteT' ?_ ?_); first | rfl | exact decide_eq_true (by omega) | (simp <;> fail) | fail))
          intro l4 h_l4; have np_l4 := M.pD h_l4; have nb_l4 := M.bD h_l4; generalize hE : upd _ l4 _ = H11; obtain ⟨S_l4, g_l4⟩ := new_facts h_l4 hE; clear hE; replace M := M.same S_l4; replace kt := kt.same S_l4; replace ps := ps.same S_l4; replace g_it := S_l4 _ _ g_it
          replace g_l4 : H11 l4 = some (.lst [.str (Txt.join " " its), .str (Txt.join " " its)]) := g_l4
          repeat (first | (refine ⟨l4, d2, rfl, hd2 ▸ Dp.lst (SqL.of g_l4) (.cons (.str _) (.cons (.str _) .nil)), t1, t2, t3, t4, ?_⟩) | (refine ⟨D, dP, rfl, dpP _ ps, r1, r2, r3, r4, ?_⟩) | (with_reducible refine st_tC ?_) | (with_reducible refine st_tOp ?_) | ((with_reducible apply st_n); rfl; rfl; (first | trivial | (show _ ≤ _; omega) | (show _ < _; omega) | (show _ ∨ _; omega) | assumption | exact ⟨by assumption, by omega⟩ | exact ⟨W30.one, by omega⟩ | fail); rfl) | (with_reducible refine st_i0 rfl rfl rfl ?_) | ((with_reducible refine st_i rfl rfl ?_ rfl ?_); first | omega | exact ⟨by decide, by decide, by decide⟩ | exact .inl ⟨by decide, by decide⟩ | exact .inl ⟨by omega, by omega⟩ | exact .inr ⟨by omega, by omega⟩ | fail) | ((fail_if_success refine Exists.intro (α := Nat → Nat → L2.St → Hp → Prop) ?_ ?_); (fail_if_success refine Exists.intro (α := L2.St → Hp → Prop) ?_ ?_); (fail_if_success refine Exists.intro (α := Nat → L2.St → Hp → Prop) ?_ ?_); apply Exists.intro) | ((refine And.intro ?_ ?_); first | with_reducible rfl | with_reducible assumption | rfl | ((with_reducible apply SqL.of); assumption) | ((with_reducible apply SqT.of); assumption) | ((with_reducible apply OwnC.cl); assumption) | (with_reducible exact isI_int _) | exact within_args | (with_reducible exact upd_same) | ((with_reducible apply Mid.o); assumption) | ((with_reducible apply Mid.t); assumption) | exact .inl ⟨rfl, _, SqL.of (by assumption)⟩ | (with_reducible exact ⟨_, SqT.of (by assumption)⟩) | (with_reducible exact ⟨_, SqL.of (by assumption)⟩) | omega | exact Nat.le_of_ble_eq_true rfl | exact nat9 (by omega) | exact ⟨_, rfl⟩ | (show _ ≤ sizeLine; decide) | exact ⟨by decide, by decide, by decide⟩ | exact .inl ⟨by decide, by decide⟩ | exact .inl ⟨by omega, by omega⟩ | exact .inr ⟨by omega, by omega⟩ | assumption | fail) | ((with_reducible refine iteF' ?_ ?_); first | rfl | exact decide_eq_false (by omega) | exact in_no (by omega) (by omega) | exact in_no (by omega) (by assumption) | (simp <;> fail) | fail) | ((with_reducible refine iteT' ?_ ?_); first | rfl | exact decide_eq_true (by omega) | (simp <;> fail) | fail))
          refine ⟨.inl (SqL.of g_it), jsz, ?_⟩
          clear g_l2 S_l2 h_l2 np_l2 nb_l2 g_l3 S_l3 h_l3 np_l3 nb_l3 g_l4 S_l4 h_l4 np_l4 nb_l4 t1 t2 t3 t4 hd2 d2
          have psm := Prm.same ls
          obtain ⟨f4, f5, f6⟩ := psm.facts fun l hl => (ok l hl).2.2.2
          obtain ⟨_, t1, t2, t3, t4⟩ := mk_repr f4 (by omega) (by omega)
          generalize hd2 : PyData.tuple ((ls.map fun q => (false, q)).map mkD) = d2 at t1 t2 t3 t4
          repeat (first | (with_reducible refine st_tC ?_) | (with_reducible refine st_tOp ?_) | ((with_reducible apply st_n); rfl; rfl; (first | trivial | (show _ ≤ _; omega) | (show _ < _; omega) | (show _ ∨ _; omega) | assumption | exact ⟨by assumption, by omega⟩ | exact ⟨W30.one, by omega⟩ | fail); rfl) | (with_reducible refine st_i0 rfl rfl rfl ?_) | ((with_reducible refine st_i rfl rfl ?_ rfl ?_); first | omega | exact ⟨by decide, by decide, by decide⟩ | exact .inl ⟨by decide, by decide⟩ | exact .inl ⟨by omega, by omega⟩ | exact .inr ⟨by omega, by omega⟩ | fail) | ((fail_if_success refine Exists.intro (α := Nat → Nat → L2.St → Hp → Prop) ?_ ?_); (fail_if_success refine Exists.intro (α := L2.St → Hp → Prop) ?_ ?_); (fail_if_success refine Exists.intro (α := Nat → L2.St → Hp → Prop) ?_ ?_); apply Exists.intro) | ((refine And.intro ?_ ?_); first | with_reducible rfl | with_reducible assumption | rfl | ((with_reducible apply SqL.of); assumption) | ((with_reducible apply SqT.of); assumption) | ((with_reducible apply OwnC.cl); assumption) | (with_reducible exact isI_int _) | exact within_args | (with_reducible exact upd_same) | ((with_reducible apply Mid.o); assumption) | ((with_reducible apply Mid.t); assumption) | exact .inl ⟨rfl, _, SqL.of (by assumption)⟩ | (with_reducible exact ⟨_, SqT.of (by assumption)⟩) | (with_reducible exact ⟨_, SqL.of (by assumption)⟩) | omega | exact Nat.le_of_ble_eq_true rfl | exact nat9 (by omega) | exact ⟨_, rfl⟩ | (show _ ≤ sizeLine; decide) | exact ⟨by decide, by decide, by decide⟩ | exact .inl ⟨by decide, by decide⟩ | exact .inl ⟨by omega, by omega⟩ | exact .inr ⟨by omega, by omega⟩ | assumption | fail) | ((with_reducible refine iteF' ?_ ?_); first | rfl | exact decide_eq_false (by omega) | exact in_no (by omega) (by omega) | exact in_no (by omega) (by assumption) | (simp <;> fail) | fail) | ((with_reducible refine iteT' ?_ ?_); first | rfl | exact decide_eq_true (by omega) | (simp <;> fail) | fail))
          refine .inr ⟨_, rfl, by omega, (fun i' ei => by rw [isp, ird] at ei; cases ei), fun ps' ep q2 us2 H12 nq2 S12 g_q2 pts => ?_⟩
          rw [isp, ird] at ep
          obtain rfl := Sum.inr.inj ep
          replace M := M.same S12; replace kt := kt.same S12; replace ps := ps.same S12
          replace g_it := S12 _ _ g_it
          clear ep nq2 S12
          have sqq := SqL.of (K := K) kt.g
          repeat (first | (refine ⟨q2, d2, rfl, hd2 ▸ Dp.tup (SqT.of g_q2) pts.mds.dp, t1, t2, t3, t4, ?_⟩) | (with_reducible refine st_tC ?_) | (with_reducible refine st_tOp ?_) | ((with_reducible apply st_n); rfl; rfl; (first | trivial | (show _ ≤ _; omega) | (show _ < _; omega) | (show _ ∨ _; omega) | assumption | exact ⟨by assumption, by omega⟩ | exact ⟨W30.one, by omega⟩ | fail); rfl) | (with_reducible refine st_i0 rfl rfl rfl ?_) | ((with_reducible refine st_i rfl rfl ?_ rfl ?_); first | omega | exact ⟨by decide, by decide, by decide⟩ | exact .inl ⟨by decide, by decide⟩ | exact .inl ⟨by omega, by omega⟩ | exact .inr ⟨by omega, by omega⟩ | fail) | ((fail_if_success refine Exists.intro (α := Nat → Nat → L2.St → Hp → Prop) ?_ ?_); (fail_if_success refine Exists.intro (α := L2.St → Hp → Prop) ?_ ?_); (fail_if_success refine Exists.intro (α := Nat → L2.St → Hp → Prop) ?_ ?_); apply Exists.intro) | ((refine And.intro ?_ ?_); first | with_reducible rfl | with_reducible assumption | rfl | ((with_reducible apply SqL.of); assumption) | ((with_reducible apply SqT.of); assumption) | ((with_reducible apply OwnC.cl); assumption) | (with_reducible exact isI_int _) | exact within_args | (with_reducible exact upd_same) | ((with_reducible apply Mid.o); assumption) | ((with_reducible apply Mid.t); assumption) | exact .inl ⟨rfl, _, SqL.of (by assumption)⟩ | (with_reducible exact ⟨_, SqT.of (by assumption)⟩) | (with_reducible exact ⟨_, SqL.of (by assumption)⟩) | omega | exact Nat.le_of_ble_eq_true rfl | exact nat9 (by omega) | exact ⟨_, rfl⟩ | (show _ ≤ sizeLine; decide) | exact ⟨by decide, by decide, by decide⟩ | exact .inl ⟨by decide, by decide⟩ | exact .inl ⟨by omega, by omega⟩ | exact .inr ⟨by omega, by omega⟩ | assumption | fail) | ((with_reducible refine iteF' ?_ ?_); first | rfl | exact decide_eq_false (by omega) | exact in_no (by omega) (by omega) | exact in_no (by omega) (by assumption) | (simp <;> fail) | fail) | ((with_reducible refine iteT' ?_ ?_); first | rfl | exact decide_eq_true (by omega) | (simp <;> fail) | fail))
          refine ⟨⟨_, sqq⟩, ?_⟩
          intro Dn hDn
          have nDp := M.pD hDn
          have nDb := M.bD hDn
          refine lc_list (xs := us) (fun j H' => Same H12 H' ∧ ∃ us3, H' Dn = some (.lst us3) ∧ PTs H' us3 (ls.take j)) ⟨same_new hDn, [], upd_same, trivial⟩ (fun j H' _ h => SqL.of (h.1 _ _ kt.g)) ?_ ?_
          · rintro j y H13 hy ⟨S13, us3, gu, pu⟩
            obtain ⟨t, ph, rfl, hph, g_t⟩ := kt.pl.at hy
            have j5 := (List.getElem?_eq_some_iff.mp hph).1
            have lu := pu.len
            rw [List.length_take] at lu
            have gt2 := S13 _ _ g_t
            refine ⟨rfl, _, rfl, t, natV ph, rfl, .inl ⟨SqL.of gt2, fun tn htn => ?_⟩⟩
            have S14 := same_new (o := .tup (natV ph)) htn
            refine ⟨us3, S14 _ _ gu, by rw [sizeLine_eq]; omega, fun a o e => ?_, us3 ++ [V.ref tn], upd_same, ?_⟩
            · rw [upd_ne (ne_of_none e hDn)]
              exact S14 _ _ (S13 _ _ e)
            · rw [List.take_add_one, hph]
              refine PTs.app (us2 := [V.ref tn]) (ps2 := [ph]) ⟨⟨tn, rfl, ?_⟩, trivial⟩ (pu.mono fun t xs e => ?_)
              · rw [upd_ne (ne_of_none gu htn).symm]
                exact upd_same
              · rw [upd_ne (ne_of (S14 _ _ e) (S14 _ _ gu) (by intro z; cases z))]
                exact S14 _ _ e
          · rintro H13 ⟨S13, us3, gu, pu⟩
            rw [l5', List.take_length] at pu
            refine ⟨Dn, us3, rfl, .inl ⟨SqL.of gu, fun tn htn => ?_⟩⟩
            have S14 := same_new (o := .tup us3) htn
            have S15 := S13.trans S14
            have g_tn : (upd H13 tn (.tup us3)) tn = some (.tup us3) := upd_same
            have md5 := (pu.mono fun t xs e => S14 _ _ e).mds
            replace M := M.same S15; replace kt := kt.same S15; replace ps := ps.same S15
            replace g_it := S15 _ _ g_it
            generalize upd H13 tn _ = H14 at *
            repeat (first | (refine ⟨tn, d2, rfl, hd2 ▸ Dp.tup (SqT.of g_tn) md5.dp, t1, t2, t3, t4, ?_⟩) | (with_reducible refine st_tC ?_) | (with_reducible refine st_tOp ?_) | ((with_reducible apply st_n); rfl; rfl; (first | trivial | (show _ ≤ _; omega) | (show _ < _; omega) | (show _ ∨ _; omega) | assumption | exact ⟨by assumption, by omega⟩ | exact ⟨W30.one, by omega⟩ | fail); rfl) | (with_reducible refine st_i0 rfl rfl rfl ?_) | ((with_reducible refine st_i rfl rfl ?_ rfl ?_); first | omega | exact ⟨by decide, by decide, by decide⟩ | exact .inl ⟨by decide, by decide⟩ | exact .inl ⟨by omega, by omega⟩ | exact .inr ⟨by omega, by omega⟩ | fail) | ((fail_if_success refine Exists.intro (α := Nat → Nat → L2.St → Hp → Prop) ?_ ?_); (fail_if_success refine Exists.intro (α := L2.St → Hp → Prop) ?_ ?_); (fail_if_success refine Exists.intro (α := Nat → L2.St → Hp → Prop) ?_ ?_); apply Exists.intro) | ((refine And.intro ?_ ?_); first | with_reducible rfl | with_reducible assumption | rfl | ((with_reducible apply SqL.of); assumption) | ((with_reducible apply SqT.of); assumption) | ((with_reducible apply OwnC.cl); assumption) | (with_reducible exact isI_int _) | exact within_args | (with_reducible exact upd_same) | ((with_reducible apply Mid.o); assumption) | ((with_reducible apply Mid.t); assumption) | exact .inl ⟨rfl, _, SqL.of (by assumption)⟩ | (with_reducible exact ⟨_, SqT.of (by assumption)⟩) | (with_reducible exact ⟨_, SqL.of (by assumption)⟩) | omega | exact Nat.le_of_ble_eq_true rfl | exact nat9 (by omega) | exact ⟨_, rfl⟩ | (show _ ≤ sizeLine; decide) | exact ⟨by decide, by decide, by decide⟩ | exact .inl ⟨by decide, by decide⟩ | exact .inl ⟨by omega, by omega⟩ | exact .inr ⟨by omega, by omega⟩ | assumption | fail) | ((with_reducible refine iteF' ?_ ?_); first | rfl | exact decide_eq_false (by omega) | exact in_no (by omega) (by omega) | exact in_no (by omega) (by assumption) | (simp <;> fail) | fail) | ((with_reducible refine iteT' ?_ ?_); first | rfl | exact decide_eq_true (by omega) | (simp <;> fail) | fail))
            replace M := M.mono (show _ ≤ 400 * i + 210 + 18 * 0 by omega)
            clear kt ps pts md5 g_tn g_q2 dpP phl r1 r2 r3 r4 t1 t2 t3 t4 hd2 pu gu S13 S14 S15 htn hDn
            have jz : ∀ zs : List Str, wgt zs ≤ 390 → (zs.map (fun x => x.length)).sum + zs.length * (" " : Str).length ≤ 16777216 := fun zs h => by
              have e1 : (" " : Str).length = 1 := by decide +kernel
              unfold wgt at h
              rw [e1]
              omega
            refine for_range (n := 4) (fun j σ H' => Mid (TB2 Pa Pb) p b (400 * i + 210 + 18 * j) H' ∧ H' it = some (.lst (its.map V.str)) ∧ Hid (∃ u2 u3 u4 u5 u6 u8 : Option V, σ = [some (.ref a), some (.ref p), u2, u3, u4, u5, u6, some (.ref it), u8, none, none])) ⟨M, g_it, ⟨_, _, _, _, _, _, rfl⟩⟩ ?_ ?_
            · clear M g_it u2 u3 u4 u5 u6 u7 u8
              rintro j σ H4 j4 ⟨M, g_it, ⟨u2, u3, u4, u5, u6, u8, rfl⟩⟩
              repeat (first | (refine ⟨p, b, _, it, its, rfl, M.o, (by omega), np_it, g_it, (by omega), io, ?_⟩) | (with_reducible refine st_tC ?_) | (with_reducible refine st_tOp ?_) | ((with_reducible apply st_n); rfl; rfl; (first | trivial | (show _ ≤ _; omega) | (show _ < _; omega) | (show _ ∨ _; omega) | assumption | exact ⟨by assumption, by omega⟩ | exact ⟨W30.one, by omega⟩ | fail); rfl) | (with_reducible refine st_i0 rfl rfl rfl ?_) | ((with_reducible refine st_i rfl rfl ?_ rfl ?_); first | omega | exact ⟨by decide, by decide, by decide⟩ | exact .inl ⟨by decide, by decide⟩ | exact .inl ⟨by omega, by omega⟩ | exact .inr ⟨by omega, by omega⟩ | fail) | ((fail_if_success refine Exists.intro (α := Nat → Nat → L2.St → Hp → Prop) ?_ ?_); (fail_if_success refine Exists.intro (α := L2.St → Hp → Prop) ?_ ?_); (fail_if_success refine Exists.intro (α := Nat → L2.St → Hp → Prop) ?_ ?_); apply Exists.intro) | ((refine And.intro ?_ ?_); first | with_reducible rfl | with_reducible assumption | rfl | ((with_reducible apply SqL.of); assumption) | ((with_reducible apply SqT.of); assumption) | ((with_reducible apply OwnC.cl); assumption) | (with_reducible exact isI_int _) | exact within_args | (with_reducible exact upd_same) | ((with_reducible apply Mid.o); assumption) | ((with_reducible apply Mid.t); assumption) | exact .inl ⟨rfl, _, SqL.of (by assumption)⟩ | (with_reducible exact ⟨_, SqT.of (by assumption)⟩) | (with_reducible exact ⟨_, SqL.of (by assumption)⟩) | omega | exact Nat.le_of_ble_eq_true rfl | exact nat9 (by omega) | exact ⟨_, rfl⟩ | (show _ ≤ sizeLine; decide) | exact ⟨by decide, by decide, by decide⟩ | exact .inl ⟨by decide, by decide⟩ | exact .inl ⟨by omega, by omega⟩ | exact .inr ⟨by omega, by omega⟩ | assumption | fail) | ((with_reducible refine iteF' ?_ ?_); first | rfl | exact decide_eq_false (by omega) | exact in_no (by omega) (by omega) | exact in_no (by omega) (by assumption) | (simp <;> fail) | fail) | ((with_reducible refine iteT' ?_ ?_); first | rfl | exact decide_eq_true (by omega) | (simp <;> fail) | fail))
              intro l1 z1 H5 nl1 g_l1 O5 B5 ok1 w1
              replace M := M.draw O5 B5
              replace g_it := B5 _ _ g_it np_it
              clear O5 B5
              have a1 := MN.asc_join z1 fun y hy => (ok1 y hy).1
              have b1 : (Txt.join " " z1).length ≤ 390 := by have := wgt_join z1; omega
              repeat (first | (with_reducible refine st_tC ?_) | (with_reducible refine st_tOp ?_) | ((with_reducible apply st_n); rfl; rfl; (first | trivial | (show _ ≤ _; omega) | (show _ < _; omega) | (show _ ∨ _; omega) | assumption | exact ⟨by assumption, by omega⟩ | exact ⟨W30.one, by omega⟩ | fail); rfl) | (with_reducible refine st_i0 rfl rfl rfl ?_) | ((with_reducible refine st_i rfl rfl ?_ rfl ?_); first | omega | exact ⟨by decide, by decide, by decide⟩ | exact .inl ⟨by decide, by decide⟩ | exact .inl ⟨by omega, by omega⟩ | exact .inr ⟨by omega, by omega⟩ | fail) | ((fail_if_success refine Exists.intro (α := Nat → Nat → L2.St → Hp → Prop) ?_ ?_); (fail_if_success refine Exists.intro (α := L2.St → Hp → Prop) ?_ ?_); (fail_if_success refine Exists.intro (α := Nat → L2.St → Hp → Prop) ?_ ?_); apply Exists.intro) | ((refine And.intro ?_ ?_); first | with_reducible rfl | with_reducible assumption | rfl | ((with_reducible apply SqL.of); assumption) | ((with_reducible apply SqT.of); assumption) | ((with_reducible apply OwnC.cl); assumption) | (with_reducible exact isI_int _) | exact within_args | (with_reducible exact upd_same) | ((with_reducible apply Mid.o); assumption) | ((with_reducible apply Mid.t); assumption) | exact .inl ⟨rfl, _, SqL.of (by assumption)⟩ | (with_reducible exact ⟨_, SqT.of (by assumption)⟩) | (with_reducible exact ⟨_, SqL.of (by assumption)⟩) | omega | exact Nat.le_of_ble_eq_true rfl | exact nat9 (by omega) | exact ⟨_, rfl⟩ | (show _ ≤ sizeLine; decide) | exact ⟨by decide, by decide, by decide⟩ | exact .inl ⟨by decide, by decide⟩ | exact .inl ⟨by omega, by omega⟩ | exact .inr ⟨by omega, by omega⟩ | assumption | fail) | ((with_reducible refine iteF' ?_ ?_); first | rfl | exact decide_eq_false (by omega) | exact in_no (by omega) (by omega) | exact in_no (by omega) (by assumption) | (simp <;> fail) | fail) | ((with_reducible refine iteT' ?_ ?_); first | rfl | exact decide_eq_true (by omega) | (simp <;> fail) | fail))
              refine ⟨.inl (SqL.of g_l1), jz z1 (by omega), ?_⟩
              repeat (first | (with_reducible refine st_tC ?_) | (with_reducible refine st_tOp ?_) | ((with_reducible apply st_n); rfl; rfl; (first | trivial | (show _ ≤ _; omega) | (show _ < _; omega) | (show _ ∨ _; omega) | assumption | exact ⟨by assumption, by omega⟩ | exact ⟨W30.one, by omega⟩ | fail); rfl) | (with_reducible refine st_i0 rfl rfl rfl ?_) | ((with_reducible refine st_i rfl rfl ?_ rfl ?_); first | omega | exact ⟨by decide, by decide, by decide⟩ | exact .inl ⟨by decide, by decide⟩ | exact .inl ⟨by omega, by omega⟩ | exact .inr ⟨by omega, by omega⟩ | fail) | ((fail_if_success refine Exists.intro (α := Nat → Nat → L2.St → Hp → Prop) ?_ ?_); (fail_if_success refine Exists.intro (α := L2.St → Hp → Prop) ?_ ?_); (fail_if_success refine Exists.intro (α := Nat → L2.St → Hp → Prop) ?_ ?_); apply Exists.intro) | ((refine And.intro ?_ ?_); first | with_reducible rfl | with_reducible assumption | rfl | ((with_reducible apply SqL.of); assumption) | ((with_reducible apply SqT.of); assumption) | ((with_reducible apply OwnC.cl); assumption) | (with_reducible exact isI_int _) | exact within_args | (with_reducible exact upd_same) | ((with_reducible apply Mid.o); assumption) | ((with_reducible apply Mid.t); assumption) | exact .inl ⟨rfl, _, SqL.of (by assumption)⟩ | (with_reducible exact ⟨_, SqT.of (by assumption)⟩) | (with_reducible exact ⟨_, SqL.of (by assumption)⟩) | omega | exact Nat.le_of_ble_eq_true rfl | exact nat9 (by omega) | exact ⟨_, rfl⟩ | (show _ ≤ sizeLine; decide) | exact ⟨by decide, by decide, by decide⟩ | exact .inl ⟨by decide, by decide⟩ | exact .inl ⟨by omega, by omega⟩ | exact .inr ⟨by omega, by omega⟩ | assumption | fail) | ((with_reducible refine iteF' ?_ ?_); first | rfl | exact decide_eq_false (by omega) | exact in_no (by omega) (by omega) | exact in_no (by omega) (by assumption) | (simp <;> fail) | fail) | ((with_reducible refine iteT' ?_ ?_); first | rfl | exact decide_eq_true (by omega) | (simp <;> fail) | fail))
              intro H6 ea Ta
              replace M := M.ext ea Ta
              replace g_it := ea _ _ g_it (fun _ z => by cases z)
              clear ea Ta g_l1
              repeat (first | (refine ⟨p, b, _, it, its, rfl, M.o, (by omega), np_it, g_it, (by omega), io, ?_⟩) | (with_reducible refine st_tC ?_) | (with_reducible refine st_tOp ?_) | ((with_reducible apply st_n); rfl; rfl; (first | trivial | (show _ ≤ _; omega) | (show _ < _; omega) | (show _ ∨ _; omega) | assumption | exact ⟨by assumption, by omega⟩ | exact ⟨W30.one, by omega⟩ | fail); rfl) | (with_reducible refine st_i0 rfl rfl rfl ?_) | ((with_reducible refine st_i rfl rfl ?_ rfl ?_); first | omega | exact ⟨by decide, by decide, by decide⟩ | exact .inl ⟨by decide, by decide⟩ | exact .inl ⟨by omega, by omega⟩ | exact .inr ⟨by omega, by omega⟩ | fail) | ((fail_if_success refine Exists.intro (α := Nat → Nat → L2.St → Hp → Prop) ?_ ?_); (fail_if_success refine Exists.intro (α := L2.St → Hp → Prop) ?_ ?_); (fail_if_success refine Exists.intro (α := Nat → L2.St → Hp → Prop) ?_ ?_); apply Exists.intro) | ((refine And.intro ?_ ?_); first | with_reducible rfl | with_reducible assumption | rfl | ((with_reducible apply SqL.of); assumption) | ((with_reducible apply SqT.of); assumption) | ((with_reducible apply OwnC.cl); assumption) | (with_reducible exact isI_int _) | exact within_args | (with_reducible exact upd_same) | ((with_reducible apply Mid.o); assumption) | ((with_reducible apply Mid.t); assumption) | exact .inl ⟨rfl, _, SqL.of (by assumption)⟩ | (with_reducible exact ⟨_, SqT.of (by assumption)⟩) | (with_reducible exact ⟨_, SqL.of (by assumption)⟩) | omega | exact Nat.le_of_ble_eq_true rfl | exact nat9 (by omega) | exact ⟨_, rfl⟩ | (show _ ≤ sizeLine; decide) | exact ⟨by decide, by decide, by decide⟩ | exact .inl ⟨by decide, by decide⟩ | exact .inl ⟨by omega, by omega⟩ | exact .inr ⟨by omega, by omega⟩ | assumption | fail) | ((with_reducible refine iteF' ?_ ?_); first | rfl | exact decide_eq_false (by omega) | exact in_no (by omega) (by omega) | exact in_no (by omega) (by assumption) | (simp <;> fail) | fail) | ((with_reducible refine iteT' ?_ ?_); first | rfl | exact decide_eq_true (by omega) | (simp <;> fail) | fail))
              intro l2 z2 H7 nl2 g_l2 O7 B7 ok2 w2
              replace M := M.draw O7 B7
              replace g_it := B7 _ _ g_it np_it
              clear O7 B7
              repeat (first | (refine ⟨p, b, _, l2, z2, rfl, M.o, (by omega), nl2, g_l2, (by omega), ok2, ?_⟩) | (with_reducible refine st_tC ?_) | (with_reducible refine st_tOp ?_) | ((with_reducible apply st_n); rfl; rfl; (first | trivial | (show _ ≤ _; omega) | (show _ < _; omega) | (show _ ∨ _; omega) | assumption | exact ⟨by assumption, by omega⟩ | exact ⟨W30.one, by omega⟩ | fail); rfl) | (with_reducible refine st_i0 rfl rfl rfl ?_) | ((with_reducible refine st_i rfl rfl ?_ rfl ?_); first | omega | exact ⟨by decide, by decide, by decide⟩ | exact .inl ⟨by decide, by decide⟩ | exact .inl ⟨by omega, by omega⟩ | exact .inr ⟨by omega, by omega⟩ | fail) | ((fail_if_success refine Exists.intro (α := Nat → Nat → L2.St → Hp → Prop) ?_ ?_); (fail_if_success refine Exists.intro (α := L2.St → Hp → Prop) ?_ ?_); (fail_if_success refine Exists.intro (α := Nat → L2.St → Hp → Prop) ?_ ?_); apply Exists.intro) | ((refine And.intro ?_ ?_); first | with_reducible rfl | with_reducible assumption | rfl | ((with_reducible apply SqL.of); assumption) | ((with_reducible apply SqT.of); assumption) | ((with_reducible apply OwnC.cl); assumption) | (with_reducible exact isI_int _) | exact within_args | (with_reducible exact upd_same) | ((with_reducible apply Mid.o); assumption) | ((with_reducible apply Mid.t); assumption) | exact .inl ⟨rfl, _, SqL.of (by assumption)⟩ | (with_reducible exact ⟨_, SqT.of (by assumption)⟩) | (with_reducible exact ⟨_, SqL.of (by assumption)⟩) | omega | exact Nat.le_of_ble_eq_true rfl | exact nat9 (by omega) | exact ⟨_, rfl⟩ | (show _ ≤ sizeLine; decide) | exact ⟨by decide, by decide, by decide⟩ | exact .inl ⟨by decide, by decide⟩ | exact .inl ⟨by omega, by omega⟩ | exact .inr ⟨by omega, by omega⟩ | assumption | fail) | ((with_reducible refine iteF' ?_ ?_); first | rfl | exact decide_eq_false (by omega) | exact in_no (by omega) (by omega) | exact in_no (by omega) (by assumption) | (simp <;> fail) | fail) | ((with_reducible refine iteT' ?_ ?_); first | rfl | exact decide_eq_true (by omega) | (simp <;> fail) | fail))
              intro l3 z3 H8 nl3 g_l3 O8 B8 ok3 w3
              replace M := M.draw O8 B8
              replace g_it := B8 _ _ g_it np_it
              clear O8 B8 g_l2
              have a3 := MN.asc_join z3 fun y hy => (ok3 y hy).1
              have b3 : (Txt.join " " z3).length ≤ 390 := by have := wgt_join z3; omega
              repeat (first | (with_reducible refine st_tC ?_) | (with_reducible refine st_tOp ?_) | ((with_reducible apply st_n); rfl; rfl; (first | trivial | (show _ ≤ _; omega) | (show _ < _; omega) | (show _ ∨ _; omega) | assumption | exact ⟨by assumption, by omega⟩ | exact ⟨W30.one, by omega⟩ | fail); rfl) | (with_reducible refine st_i0 rfl rfl rfl ?_) | ((with_reducible refine st_i rfl rfl ?_ rfl ?_); first | omega | exact ⟨by decide, by decide, by decide⟩ | exact .inl ⟨by decide, by decide⟩ | exact .inl ⟨by omega, by omega⟩ | exact .inr ⟨by omega, by omega⟩ | fail) | ((fail_if_success refine Exists.intro (α := Nat → Nat → L2.St → Hp → Prop) ?_ ?_); (fail_if_success refine Exists.intro (α := L2.St → Hp → Prop) ?_ ?_); (fail_if_success refine Exists.intro (α := Nat → L2.St → Hp → Prop) ?_ ?_); apply Exists.intro) | ((refine And.intro ?_ ?_); first | with_reducible rfl | with_reducible assumption | rfl | ((with_reducible apply SqL.of); assumption) | ((with_reducible apply SqT.of); assumption) | ((with_reducible apply OwnC.cl); assumption) | (with_reducible exact isI_int _) | exact within_args | (with_reducible exact upd_same) | ((with_reducible apply Mid.o); assumption) | ((with_reducible apply Mid.t); assumption) | exact .inl ⟨rfl, _, SqL.of (by assumption)⟩ | (with_reducible exact ⟨_, SqT.of (by assumption)⟩) | (with_reducible exact ⟨_, SqL.of (by assumption)⟩) | omega | exact Nat.le_of_ble_eq_true rfl | exact nat9 (by omega) | exact ⟨_, rfl⟩ | (show _ ≤ sizeLine; decide) | exact ⟨by decide, by decide, by decide⟩ | exact .inl ⟨by decide, by decide⟩ | exact .inl ⟨by omega, by omega⟩ | exact .inr ⟨by omega, by omega⟩ | assumption | fail) | ((with_reducible refine iteF' ?_ ?_); first | rfl | exact decide_eq_false (by omega) | exact in_no (by omega) (by omega) | exact in_no (by omega) (by assumption) | (simp <;> fail) | fail) | ((with_reducible refine iteT' ?_ ?_); first | rfl | exact decide_eq_true (by omega) | (simp <;> fail) | fail))
              refine ⟨.inl (SqL.of g_l3), jz z3 (by omega), ?_⟩
              repeat (first | (with_reducible refine st_tC ?_) | (with_reducible refine st_tOp ?_) | ((with_reducible apply st_n); rfl; rfl; (first | trivial | (show _ ≤ _; omega) | (show _ < _; omega) | (show _ ∨ _; omega) | assumption | exact ⟨by assumption, by omega⟩ | exact ⟨W30.one, by omega⟩ | fail); rfl) | (with_reducible refine st_i0 rfl rfl rfl ?_) | ((with_reducible refine st_i rfl rfl ?_ rfl ?_); first | omega | exact ⟨by decide, by decide, by decide⟩ | exact .inl ⟨by decide, by decide⟩ | exact .inl ⟨by omega, by omega⟩ | exact .inr ⟨by omega, by omega⟩ | fail) | ((fail_if_success refine Exists.intro (α := Nat → Nat → L2.St → Hp → Prop) ?_ ?_); (fail_if_success refine Exists.intro (α := L2.St → Hp → Prop) ?_ ?_); (fail_if_success refine Exists.intro (α := Nat → L2.St → Hp → Prop) ?_ ?_); apply Exists.intro) | ((refine And.intro ?_ ?_); first | with_reducible rfl | with_reducible assumption | rfl | ((with_reducible apply SqL.of); assumption) | ((with_reducible apply SqT.of); assumption) | ((with_reducible apply OwnC.cl); assumption) | (with_reducible exact isI_int _) | exact within_args | (with_reducible exact upd_same) | ((with_reducible apply Mid.o); assumption) | ((with_reducible apply Mid.t); assumption) | exact .inl ⟨rfl, _, SqL.of (by assumption)⟩ | (with_reducible exact ⟨_, SqT.of (by assumption)⟩) | (with_reducible exact ⟨_, SqL.of (by assumption)⟩) | omega | exact Nat.le_of_ble_eq_true rfl | exact nat9 (by omega) | exact ⟨_, rfl⟩ | (show _ ≤ sizeLine; decide) | exact ⟨by decide, by decide, by decide⟩ | exact .inl ⟨by decide, by decide⟩ | exact .inl ⟨by omega, by omega⟩ | exact .inr ⟨by omega, by omega⟩ | assumption | fail) | ((with_reducible refine iteF' ?_ ?_); first | rfl | exact decide_eq_false (by omega) | exact in_no (by omega) (by omega) | exact in_no (by omega) (by assumption) | (simp <;> fail) | fail) | ((with_reducible refine iteT' ?_ ?_); first | rfl | exact decide_eq_true (by omega) | (simp <;> fail) | fail))
              intro H9 ea Ta
              replace M := M.ext ea Ta
              replace g_it := ea _ _ g_it (fun _ z => by cases z)
              clear ea Ta g_l3
              repeat (first | (with_reducible refine st_tC ?_) | (with_reducible refine st_tOp ?_) | ((with_reducible apply st_n); rfl; rfl; (first | trivial | (show _ ≤ _; omega) | (show _ < _; omega) | (show _ ∨ _; omega) | assumption | exact ⟨by assumption, by omega⟩ | exact ⟨W30.one, by omega⟩ | fail); rfl) | (with_reducible refine st_i0 rfl rfl rfl ?_) | ((with_reducible refine st_i rfl rfl ?_ rfl ?_); first | omega | exact ⟨by decide, by decide, by decide⟩ | exact .inl ⟨by decide, by decide⟩ | exact .inl ⟨by omega, by omega⟩ | exact .inr ⟨by omega, by omega⟩ | fail) | ((fail_if_success refine Exists.intro (α := Nat → Nat → L2.St → Hp → Prop) ?_ ?_); (fail_if_success refine Exists.intro (α := L2.St → Hp → Prop) ?_ ?_); (fail_if_success refine Exists.intro (α := Nat → L2.St → Hp → Prop) ?_ ?_); apply Exists.intro) | ((refine And.intro ?_ ?_); first | with_reducible rfl | with_reducible assumption | rfl | ((with_reducible apply SqL.of); assumption) | ((with_reducible apply SqT.of); assumption) | ((with_reducible apply OwnC.cl); assumption) | (with_reducible exact isI_int _) | exact within_args | (with_reducible exact upd_same) | ((with_reducible apply Mid.o); assumption) | ((with_reducible apply Mid.t); assumption) | exact .inl ⟨rfl, _, SqL.of (by assumption)⟩ | (with_reducible exact ⟨_, SqT.of (by assumption)⟩) | (with_reducible exact ⟨_, SqL.of (by assumption)⟩) | omega | exact Nat.le_of_ble_eq_true rfl | exact nat9 (by omega) | exact ⟨_, rfl⟩ | (show _ ≤ sizeLine; decide) | exact ⟨by decide, by decide, by decide⟩ | exact .inl ⟨by decide, by decide⟩ | exact .inl ⟨by omega, by omega⟩ | exact .inr ⟨by omega, by omega⟩ | assumption | fail) | ((with_reducible refine iteF' ?_ ?_); first | rfl | exact decide_eq_false (by omega) | exact in_no (by omega) (by omega) | exact in_no (by omega) (by assumption) | (simp <;> fail) | fail) | ((with_reducible refine iteT' ?_ ?_); first | rfl | exact decide_eq_true (by omega) | (simp <;> fail) | fail))
              exact ⟨_, _, _, _, _, _, rfl⟩
            · clear M g_it u2 u3 u4 u5 u6 u7 u8
              rintro σ H4 ⟨M, g_it, ⟨u2, u3, u4, u5, u6, u8, rfl⟩⟩
              exact ⟨M.mono (by omega), _, _, _, _, _, _, _, rfl⟩
      · rintro σ H2 ⟨M, u2, u3, u4, u5, u6, u7, u8, rfl⟩
        clear S1 O M1 hS hPa hPb hp hb
        repeat (first | (with_reducible refine st_tC ?_) | (with_reducible refine st_tOp ?_) | ((with_reducible apply st_n); rfl; rfl; (first | trivial | (show _ ≤ _; omega) | (show _ < _; omega) | (show _ ∨ _; omega) | assumption | exact ⟨by assumption, by omega⟩ | exact ⟨W30.one, by omega⟩ | fail); rfl) | (with_reducible refine st_i0 rfl rfl rfl ?_) | ((with_reducible refine st_i rfl rfl ?_ rfl ?_); first | omega | exact ⟨by decide, by decide, by decide⟩ | exact .inl ⟨by decide, by decide⟩ | exact .inl ⟨by omega, by omega⟩ | exact .inr ⟨by omega, by omega⟩ | fail) | ((fail_if_success refine Exists.intro (α := Nat → Nat → L2.St → Hp → Prop) ?_ ?_); (fail_if_success refine Exists.intro (α := L2.St → Hp → Prop) ?_ ?_); (fail_if_success refine Exists.intro (α := Nat → L2.St → Hp → Prop) ?_ ?_); apply Exists.intro) | ((refine And.intro ?_ ?_); first | with_reducible rfl | with_reducible assumption | rfl | ((with_reducible apply SqL.of); assumption) | ((with_reducible apply SqT.of); assumption) | ((with_reducible apply OwnC.cl); assumption) | (with_reducible exact isI_int _) | exact within_args | (with_reducible exact upd_same) | ((with_reducible apply Mid.o); assumption) | ((with_reducible apply Mid.t); assumption) | exact .inl ⟨rfl, _, SqL.of (by assumption)⟩ | (with_reducible exact ⟨_, SqT.of (by assumption)⟩) | (with_reducible exact ⟨_, SqL.of (by assumption)⟩) | omega | exact Nat.le_of_ble_eq_true rfl | exact nat9 (by omega) | exact ⟨_, rfl⟩ | (show _ ≤ sizeLine; decide) | exact ⟨by decide, by decide, by decide⟩ | exact .inl ⟨by decide, by decide⟩ | exact .inl ⟨by omega, by omega⟩ | exact .inr ⟨by omega, by omega⟩ | assumption | fail) | ((with_reducible refine iteF' ?_ ?_); first | rfl | exact decide_eq_false (by omega) | exact in_no (by omega) (by omega) | exact in_no (by omega) (by assumption) | (simp <;> fail) | fail) | ((with_reducible refine iteT' ?_ ?_); first | rfl | exact decide_eq_true (by omega) | (simp <;> fail) | fail))
        intro e1 h_e1; have np_e1 := M.pD h_e1; have nb_e1 := M.bD h_e1; generalize hE : upd _ e1 _ = H3; obtain ⟨S_e1, g_e1⟩ := new_facts h_e1 hE; clear hE; replace M := M.same S_e1
        repeat (first | (with_reducible refine st_tC ?_) | (with_reducible refine st_tOp ?_) | ((with_reducible apply st_n); rfl; rfl; (first | trivial | (show _ ≤ _; omega) | (show _ < _; omega) | (show _ ∨ _; omega) | assumption | exact ⟨by assumption, by omega⟩ | exact ⟨W30.one, by omega⟩ | fail); rfl) | (with_reducible refine st_i0 rfl rfl rfl ?_) | ((with_reducible refine st_i rfl rfl ?_ rfl ?_); first | omega | exact ⟨by decide, by decide, by decide⟩ | exact .inl ⟨by decide, by decide⟩ | exact .inl ⟨by omega, by omega⟩ | exact .inr ⟨by omega, by omega⟩ | fail) | ((fail_if_success refine Exists.intro (α := Nat → Nat → L2.St → Hp → Prop) ?_ ?_); (fail_if_success refine Exists.intro (α := L2.St → Hp → Prop) ?_ ?_); (fail_if_success refine Exists.intro (α := Nat → L2.St → Hp → Prop) ?_ ?_); apply Exists.intro) | ((refine And.intro ?_ ?_); first | with_reducible rfl | with_reducible assumption | rfl | ((with_reducible apply SqL.of); assumption) | ((with_reducible apply SqT.of); assumption) | ((with_reducible apply OwnC.cl); assumption) | (with_reducible exact isI_int _) | exact within_args | (with_reducible exact upd_same) | ((with_reducible apply Mid.o); assumption) | ((with_reducible apply Mid.t); assumption) | exact .inl ⟨rfl, _, SqL.of (by assumption)⟩ | (with_reducible exact ⟨_, SqT.of (by assumption)⟩) | (with_reducible exact ⟨_, SqL.of (by assumption)⟩) | omega | exact Nat.le_of_ble_eq_true rfl | exact nat9 (by omega) | exact ⟨_, rfl⟩ | (show _ ≤ sizeLine; decide) | exact ⟨by decide, by decide, by decide⟩ | exact .inl ⟨by decide, by decide⟩ | exact .inl ⟨by omega, by omega⟩ | exact .inr ⟨by omega, by omega⟩ | assumption | fail) | ((with_reducible refine iteF' ?_ ?_); first | rfl | exact decide_eq_false (by omega) | exact in_no (by omega) (by omega) | exact in_no (by omega) (by assumption) | (simp <;> fail) | fail) | ((with_reducible refine iteT' ?_ ?_); first | rfl | exact decide_eq_true (by omega) | (simp <;> fail) | fail))
        intro o1 h_o1; have np_o1 := M.pD h_o1; have nb_o1 := M.bD h_o1; generalize hE : upd _ o1 _ = H4; obtain ⟨S_o1, g_o1⟩ := new_facts h_o1 hE; clear hE; replace M := M.same S_o1; replace g_e1 := S_o1 _ _ g_e1
        repeat (first | (with_reducible refine st_tC ?_) | (with_reducible refine st_tOp ?_) | ((with_reducible apply st_n); rfl; rfl; (first | trivial | (show _ ≤ _; omega) | (show _ < _; omega) | (show _ ∨ _; omega) | assumption | exact ⟨by assumption, by omega⟩ | exact ⟨W30.one, by omega⟩ | fail); rfl) | (with_reducible refine st_i0 rfl rfl rfl ?_) | ((with_reducible refine st_i rfl rfl ?_ rfl ?_); first | omega | exact ⟨by decide, by decide, by decide⟩ | exact .inl ⟨by decide, by decide⟩ | exact .inl ⟨by omega, by omega⟩ | exact .inr ⟨by omega, by omega⟩ | fail) | ((fail_if_success refine Exists.intro (α := Nat → Nat → L2.St → Hp → Prop) ?_ ?_); (fail_if_success refine Exists.intro (α := L2.St → Hp → Prop) ?_ ?_); (fail_if_success refine Exists.intro (α := Nat → L2.St → Hp → Prop) ?_ ?_); apply Exists.intro) | ((refine And.intro ?_ ?_); first | with_reducible rfl | with_reducible assumption | rfl | ((with_reducible apply SqL.of); assumption) | ((with_reducible apply SqT.of); assumption) | ((with_reducible apply OwnC.cl); assumption) | (with_reducible exact isI_int _) | exact within_args | (with_reducible exact upd_same) | ((with_reducible apply Mid.o); assumption) | ((with_reducible apply Mid.t); assumption) | exact .inl ⟨rfl, _, SqL.of (by assumption)⟩ | (with_reducible exact ⟨_, SqT.of (by assumption)⟩) | (with_reducible exact ⟨_, SqL.of (by assumption)⟩) | omega | exact Nat.le_of_ble_eq_true rfl | exact nat9 (by omega) | exact ⟨_, rfl⟩ | (show _ ≤ sizeLine; decide) | exact ⟨by decide, by decide, by decide⟩ | exact .inl ⟨by decide, by decide⟩ | exact .inl ⟨by omega, by omega⟩ | exact .inr ⟨by omega, by omega⟩ | assumption | fail) | ((with_reducible refine iteF' ?_ ?_); first | rfl | exact decide_eq_false (by omega) | exact in_no (by omega) (by omega) | exact in_no (by omega) (by assumption) | (simp <;> fail) | fail) | ((with_reducible refine iteT' ?_ ?_); first | rfl | exact decide_eq_true (by omega) | (simp <;> fail) | fail))
        intro e2 h_e2; have np_e2 := M.pD h_e2; have nb_e2 := M.bD h_e2; generalize hE : upd _ e2 _ = H5; obtain ⟨S_e2, g_e2⟩ := new_facts h_e2 hE; clear hE; replace M := M.same S_e2; replace g_e1 := S_e2 _ _ g_e1; replace g_o1 := S_e2 _ _ g_o1
        repeat (first | (with_reducible refine st_tC ?_) | (with_reducible refine st_tOp ?_) | ((with_reducible apply st_n); rfl; rfl; (first | trivial | (show _ ≤ _; omega) | (show _ < _; omega) | (show _ ∨ _; omega) | assumption | exact ⟨by assumption, by omega⟩ | exact ⟨W30.one, by omega⟩ | fail); rfl) | (with_reducible refine st_i0 rfl rfl rfl ?_) | ((with_reducible refine st_i rfl rfl ?_ rfl ?_); first | omega | exact ⟨by decide, by decide, by decide⟩ | exact .inl ⟨by decide, by decide⟩ | exact .inl ⟨by omega, by omega⟩ | exact .inr ⟨by omega, by omega⟩ | fail) | ((fail_if_success refine Exists.intro (α := Nat → Nat → L2.St → Hp → Prop) ?_ ?_); (fail_if_success refine Exists.intro (α := L2.St → Hp → Prop) ?_ ?_); (fail_if_success refine Exists.intro (α := Nat → L2.St → Hp → Prop) ?_ ?_); apply Exists.intro) | ((refine And.intro ?_ ?_); first | with_reducible rfl | with_reducible assumption | rfl | ((with_reducible apply SqL.of); assumption) | ((with_reducible apply SqT.of); assumption) | ((with_reducible apply OwnC.cl); assumption) | (with_reducible exact isI_int _) | exact within_args | (with_reducible exact upd_same) | ((with_reducible apply Mid.o); assumption) | ((with_reducible apply Mid.t); assumption) | exact .inl ⟨rfl, _, SqL.of (by assumption)⟩ | (with_reducible exact ⟨_, SqT.of (by assumption)⟩) | (with_reducible exact ⟨_, SqL.of (by assumption)⟩) | omega | exact Nat.le_of_ble_eq_true rfl | exact nat9 (by omega) | exact ⟨_, rfl⟩ | (show _ ≤ sizeLine; decide) | exact ⟨by decide, by decide, by decide⟩ | exact .inl ⟨by decide, by decide⟩ | exact .inl ⟨by omega, by omega⟩ | exact .inr ⟨by omega, by omega⟩ | assumption | fail) | ((with_reducible refine iteF' ?_ ?_); first | rfl | exact decide_eq_false (by omega) | exact in_no (by omega) (by omega) | exact in_no (by omega) (by assumption) | (simp <;> fail) | fail) | ((with_reducible refine iteT' ?_ ?_); first | rfl | exact decide_eq_true (by omega) | (simp <;> fail) | fail))
        intro o2 h_o2; have np_o2 := M.pD h_o2; have nb_o2 := M.bD h_o2; generalize hE : upd _ o2 _ = H6; obtain ⟨S_o2, g_o2⟩ := new_facts h_o2 hE; clear hE; replace M := M.same S_o2; replace g_e1 := S_o2 _ _ g_e1; replace g_o1 := S_o2 _ _ g_o1; replace g_e2 := S_o2 _ _ g_e2
        repeat (first | (with_reducible refine st_tC ?_) | (with_reducible refine st_tOp ?_) | ((with_reducible apply st_n); rfl; rfl; (first | trivial | (show _ ≤ _; omega) | (show _ < _; omega) | (show _ ∨ _; omega) | assumption | exact ⟨by assumption, by omega⟩ | exact ⟨W30.one, by omega⟩ | fail); rfl) | (with_reducible refine st_i0 rfl rfl rfl ?_) | ((with_reducible refine st_i rfl rfl ?_ rfl ?_); first | omega | exact ⟨by decide, by decide, by decide⟩ | exact .inl ⟨by decide, by decide⟩ | exact .inl ⟨by omega, by omega⟩ | exact .inr ⟨by omega, by omega⟩ | fail) | ((fail_if_success refine Exists.intro (α := Nat → Nat → L2.St → Hp → Prop) ?_ ?_); (fail_if_success refine Exists.intro (α := L2.St → Hp → Prop) ?_ ?_); (fail_if_success refine Exists.intro (α := Nat → L2.St → Hp → Prop) ?_ ?_); apply Exists.intro) | ((refine And.intro ?_ ?_); first | with_reducible rfl | with_reducible assumption | rfl | ((with_reducible apply SqL.of); assumption) | ((with_reducible apply SqT.of); assumption) | ((with_reducible apply OwnC.cl); assumption) | (with_reducible exact isI_int _) | exact within_args | (with_reducible exact upd_same) | ((with_reducible apply Mid.o); assumption) | ((with_reducible apply Mid.t); assumption) | exact .inl ⟨rfl, _, SqL.of (by assumption)⟩ | (with_reducible exact ⟨_, SqT.of (by assumption)⟩) | (with_reducible exact ⟨_, SqL.of (by assumption)⟩) | omega | exact Nat.le_of_ble_eq_true rfl | exact nat9 (by omega) | exact ⟨_, rfl⟩ | (show _ ≤ sizeLine; decide) | exact ⟨by decide, by decide, by decide⟩ | exact .inl ⟨by decide, by decide⟩ | exact .inl ⟨by omega, by omega⟩ | exact .inr ⟨by omega, by omega⟩ | assumption | fail) | ((with_reducible refine iteF' ?_ ?_); first | rfl | exact decide_eq_false (by omega) | exact in_no (by omega) (by omega) | exact in_no (by omega) (by assumption) | (simp <;> fail) | fail) | ((with_reducible refine iteT' ?_ ?_); first | rfl | exact decide_eq_true (by omega) | (simp <;> fail) | fail))
        intro e3 h_e3; have np_e3 := M.pD h_e3; have nb_e3 := M.bD h_e3; generalize hE : upd _ e3 _ = H7; obtain ⟨S_e3, g_e3⟩ := new_facts h_e3 hE; clear hE; replace M := M.same S_e3; replace g_e1 := S_e3 _ _ g_e1; replace g_o1 := S_e3 _ _ g_o1; replace g_e2 := S_e3 _ _ g_e2; replace g_o2 := S_e3 _ _ g_o2
        replace g_e3 : H7 e3 = some (.lst [V.int (-1)]) := g_e3
        repeat (first | (with_reducible refine st_tC ?_) | (with_reducible refine st_tOp ?_) | ((with_reducible apply st_n); rfl; rfl; (first | trivial | (show _ ≤ _; omega) | (show _ < _; omega) | (show _ ∨ _; omega) | assumption | exact ⟨by assumption, by omega⟩ | exact ⟨W30.one, by omega⟩ | fail); rfl) | (with_reducible refine st_i0 rfl rfl rfl ?_) | ((with_reducible refine st_i rfl rfl ?_ rfl ?_); first | omega | exact ⟨by decide, by decide, by decide⟩ | exact .inl ⟨by decide, by decide⟩ | exact .inl ⟨by omega, by omega⟩ | exact .inr ⟨by omega, by omega⟩ | fail) | ((fail_if_success refine Exists.intro (α := Nat → Nat → L2.St → Hp → Prop) ?_ ?_); (fail_if_success refine Exists.intro (α := L2.St → Hp → Prop) ?_ ?_); (fail_if_success refine Exists.intro (α := Nat → L2.St → Hp → Prop) ?_ ?_); apply Exists.intro) | ((refine And.intro ?_ ?_); first | with_reducible rfl | with_reducible assumption | rfl | ((with_reducible apply SqL.of); assumption) | ((with_reducible apply SqT.of); assumption) | ((with_reducible apply OwnC.cl); assumption) | (with_reducible exact isI_int _) | exact within_args | (with_reducible exact upd_same) | ((with_reducible apply Mid.o); assumption) | ((with_reducible apply Mid.t); assumption) | exact .inl ⟨rfl, _, SqL.of (by assumption)⟩ | (with_reducible exact ⟨_, SqT.of (by assumption)⟩) | (with_reducible exact ⟨_, SqL.of (by assumption)⟩) | omega | exact Nat.le_of_ble_eq_true rfl | exact nat9 (by omega) | exact ⟨_, rfl⟩ | (show _ ≤ sizeLine; decide) | exact ⟨by decide, by decide, by decide⟩ | exact .inl ⟨by decide, by decide⟩ | exact .inl ⟨by omega, by omega⟩ | exact .inr ⟨by omega, by omega⟩ | assumption | fail) | ((with_reducible refine iteF' ?_ ?_); first | rfl | exact decide_eq_false (by omega) | exact in_no (by omega) (by omega) | exact in_no (by omega) (by assumption) | (simp <;> fail) | fail) | ((with_reducible refine iteT' ?_ ?_); first | rfl | exact decide_eq_true (by omega) | (simp <;> fail) | fail))
        intro o3 h_o3; have np_o3 := M.pD h_o3; have nb_o3 := M.bD h_o3; generalize hE : upd _ o3 _ = H8; obtain ⟨S_o3, g_o3⟩ := new_facts h_o3 hE; clear hE; replace M := M.same S_o3; replace g_e1 := S_o3 _ _ g_e1; replace g_o1 := S_o3 _ _ g_o1; replace g_e2 := S_o3 _ _ g_e2; replace g_o2 := S_o3 _ _ g_o2; replace g_e3 := S_o3 _ _ g_e3
        repeat (first | (with_reducible refine st_tC ?_) | (with_reducible refine st_tOp ?_) | ((with_reducible apply st_n); rfl; rfl; (first | trivial | (show _ ≤ _; omega) | (show _ < _; omega) | (show _ ∨ _; omega) | assumption | exact ⟨by assumption, by omega⟩ | exact ⟨W30.one, by omega⟩ | fail); rfl) | (with_reducible refine st_i0 rfl rfl rfl ?_) | ((with_reducible refine st_i rfl rfl ?_ rfl ?_); first | omega | exact ⟨by decide, by decide, by decide⟩ | exact .inl ⟨by decide, by decide⟩ | exact .inl ⟨by omega, by omega⟩ | exact .inr ⟨by omega, by omega⟩ | fail) | ((fail_if_success refine Exists.intro (α := Nat → Nat → L2.St → Hp → Prop) ?_ ?_); (fail_if_success refine Exists.intro (α := L2.St → Hp → Prop) ?_ ?_); (fail_if_success refine Exists.intro (α := Nat → L2.St → Hp → Prop) ?_ ?_); apply Exists.intro) | ((refine And.intro ?_ ?_); first | with_reducible rfl | with_reducible assumption | rfl | ((with_reducible apply SqL.of); assumption) | ((with_reducible apply SqT.of); assumption) | ((with_reducible apply OwnC.cl); assumption) | (with_reducible exact isI_int _) | exact within_args | (with_reducible exact upd_same) | ((with_reducible apply Mid.o); assumption) | ((with_reducible apply Mid.t); assumption) | exact .inl ⟨rfl, _, SqL.of (by assumption)⟩ | (with_reducible exact ⟨_, SqT.of (by assumption)⟩) | (with_reducible exact ⟨_, SqL.of (by assumption)⟩) | omega | exact Nat.le_of_ble_eq_true rfl | exact nat9 (by omega) | exact ⟨_, rfl⟩ | (show _ ≤ sizeLine; decide) | exact ⟨by decide, by decide, by decide⟩ | exact .inl ⟨by decide, by decide⟩ | exact .inl ⟨by omega, by omega⟩ | exact .inr ⟨by omega, by omega⟩ | assumption | fail) | ((with_reducible refine iteF' ?_ ?_); first | rfl | exact decide_eq_false (by omega) | exact in_no (by omega) (by omega) | exact in_no (by omega) (by assumption) | (simp <;> fail) | fail) | ((with_reducible refine iteT' ?_ ?_); first | rfl | exact decide_eq_true (by omega) | (simp <;> fail) | fail))
        intro e4 h_e4; have np_e4 := M.pD h_e4; have nb_e4 := M.bD h_e4; generalize hE : upd _ e4 _ = H9; obtain ⟨S_e4, g_e4⟩ := new_facts h_e4 hE; clear hE; replace M := M.same S_e4; replace g_e1 := S_e4 _ _ g_e1; replace g_o1 := S_e4 _ _ g_o1; replace g_e2 := S_e4 _ _ g_e2; replace g_o2 := S_e4 _ _ g_o2; replace g_e3 := S_e4 _ _ g_e3; replace g_o3 := S_e4 _ _ g_o3
        repeat (first | (with_reducible refine st_tC ?_) | (with_reducible refine st_tOp ?_) | ((with_reducible apply st_n); rfl; rfl; (first | trivial | (show _ ≤ _; omega) | (show _ < _; omega) | (show _ ∨ _; omega) | assumption | exact ⟨by assumption, by omega⟩ | exact ⟨W30.one, by omega⟩ | fail); rfl) | (with_reducible refine st_i0 rfl rfl rfl ?_) | ((with_reducible refine st_i rfl rfl ?_ rfl ?_); first | omega | exact ⟨by decide, by decide, by decide⟩ | exact .inl ⟨by decide, by decide⟩ | exact .inl ⟨by omega, by omega⟩ | exact .inr ⟨by omega, by omega⟩ | fail) | ((fail_if_success refine Exists.intro (α := Nat → Nat → L2.St → Hp → Prop) ?_ ?_); (fail_if_success refine Exists.intro (α := L2.St → Hp → Prop) ?_ ?_); (fail_if_success refine Exists.intro (α := Nat → L2.St → Hp → Prop) ?_ ?_); apply Exists.intro) | ((refine And.intro ?_ ?_); first | with_reducible rfl | with_reducible assumption | rfl | ((with_reducible apply SqL.of); assumption) | ((with_reducible apply SqT.of); assumption) | ((with_reducible apply OwnC.cl); assumption) | (with_reducible exact isI_int _) | exact within_args | (with_reducible exact upd_same) | ((with_reducible apply Mid.o); assumption) | ((with_reducible apply Mid.t); assumption) | exact .inl ⟨rfl, _, SqL.of (by assumption)⟩ | (with_reducible exact ⟨_, SqT.of (by assumption)⟩) | (with_reducible exact ⟨_, SqL.of (by assumption)⟩) | omega | exact Nat.le_of_ble_eq_true rfl | exact nat9 (by omega) | exact ⟨_, rfl⟩ | (show _ ≤ sizeLine; decide) | exact ⟨by decide, by decide, by decide⟩ | exact .inl ⟨by decide, by decide⟩ | exact .inl ⟨by omega, by omega⟩ | exact .inr ⟨by omega, by omega⟩ | assumption | fail) | ((with_reducible refine iteF' ?_ ?_); first | rfl | exact decide_eq_false (by omega) | exact in_no (by omega) (by omega) | exact in_no (by omega) (by assumption) | (simp <;> fail) | fail) | ((with_reducible refine iteT' ?_ ?_); first | rfl | exact decide_eq_true (by omega) | (simp <;> fail) | fail))
        intro o4 h_o4; have np_o4 := M.pD h_o4; have nb_o4 := M.bD h_o4; generalize hE : upd _ o4 _ = H10; obtain ⟨S_o4, g_o4⟩ := new_facts h_o4 hE; clear hE; replace M := M.same S_o4; replace g_e1 := S_o4 _ _ g_e1; replace g_o1 := S_o4 _ _ g_o1; replace g_e2 := S_o4 _ _ g_e2; replace g_o2 := S_o4 _ _ g_o2; replace g_e3 := S_o4 _ _ g_e3; replace g_o3 := S_o4 _ _ g_o3; replace g_e4 := S_o4 _ _ g_e4
        repeat (first | (with_reducible refine st_tC ?_) | (with_reducible refine st_tOp ?_) | ((with_reducible apply st_n); rfl; rfl; (first | trivial | (show _ ≤ _; omega) | (show _ < _; omega) | (show _ ∨ _; omega) | assumption | exact ⟨by assumption, by omega⟩ | exact ⟨W30.one, by omega⟩ | fail); rfl) | (with_reducible refine st_i0 rfl rfl rfl ?_) | ((with_reducible refine st_i rfl rfl ?_ rfl ?_); first | omega | exact ⟨by decide, by decide, by decide⟩ | exact .inl ⟨by decide, by decide⟩ | exact .inl ⟨by omega, by omega⟩ | exact .inr ⟨by omega, by omega⟩ | fail) | ((fail_if_success refine Exists.intro (α := Nat → Nat → L2.St → Hp → Prop) ?_ ?_); (fail_if_success refine Exists.intro (α := L2.St → Hp → Prop) ?_ ?_); (fail_if_success refine Exists.intro (α := Nat → L2.St → Hp → Prop) ?_ ?_); apply Exists.intro) | ((refine And.intro ?_ ?_); first | with_reducible rfl | with_reducible assumption | rfl | ((with_reducible apply SqL.of); assumption) | ((with_reducible apply SqT.of); assumption) | ((with_reducible apply OwnC.cl); assumption) | (with_reducible exact isI_int _) | exact within_args | (with_reducible exact upd_same) | ((with_reducible apply Mid.o); assumption) | ((with_reducible apply Mid.t); assumption) | exact .inl ⟨rfl, _, SqL.of (by assumption)⟩ | (with_reducible exact ⟨_, SqT.of (by assumption)⟩) | (with_reducible exact ⟨_, SqL.of (by assumption)⟩) | omega | exact Nat.le_of_ble_eq_true rfl | exact nat9 (by omega) | exact ⟨_, rfl⟩ | (show _ ≤ sizeLine; decide) | exact ⟨by decide, by decide, by decide⟩ | exact .inl ⟨by decide, by decide⟩ | exact .inl ⟨by omega, by omega⟩ | exact .inr ⟨by omega, by omega⟩ | assumption | fail) | ((with_reducible refine iteF' ?_ ?_); first | rfl | exact decide_eq_false (by omega) | exact in_no (by omega) (by omega) | exact in_no (by omega) (by assumption) | (simp <;> fail) | fail) | ((with_reducible refine iteT' ?_ ?_); first | rfl | exact decide_eq_true (by omega) | (simp <;> fail) | fail))
        intro o5 h_o5; have np_o5 := M.pD h_o5; have nb_o5 := M.bD h_o5; generalize hE : upd _ o5 _ = H11; obtain ⟨S_o5, g_o5⟩ := new_facts h_o5 hE; clear hE; replace M := M.same S_o5; replace g_e1 := S_o5 _ _ g_e1; replace g_o1 := S_o5 _ _ g_o1; replace g_e2 := S_o5 _ _ g_e2; replace g_o2 := S_o5 _ _ g_o2; replace g_e3 := S_o5 _ _ g_e3; replace g_o3 := S_o5 _ _ g_o3; replace g_e4 := S_o5 _ _ g_e4; replace g_o4 := S_o5 _ _ g_o4
        repeat (first | (with_reducible refine st_tC ?_) | (with_reducible refine st_tOp ?_) | ((with_reducible apply st_n); rfl; rfl; (first | trivial | (show _ ≤ _; omega) | (show _ < _; omega) | (show _ ∨ _; omega) | assumption | exact ⟨by assumption, by omega⟩ | exact ⟨W30.one, by omega⟩ | fail); rfl) | (with_reducible refine st_i0 rfl rfl rfl ?_) | ((with_reducible refine st_i rfl rfl ?_ rfl ?_); first | omega | exact ⟨by decide, by decide, by decide⟩ | exact .inl ⟨by decide, by decide⟩ | exact .inl ⟨by omega, by omega⟩ | exact .inr ⟨by omega, by omega⟩ | fail) | ((fail_if_success refine Exists.intro (α := Nat → Nat → L2.St → Hp → Prop) ?_ ?_); (fail_if_success refine Exists.intro (α := L2.St → Hp → Prop) ?_ ?_); (fail_if_success refine Exists.intro (α := Nat → L2.St → Hp → Prop) ?_ ?_); apply Exists.intro) | ((refine And.intro ?_ ?_); first | with_reducible rfl | with_reducible assumption | rfl | ((with_reducible apply SqL.of); assumption) | ((with_reducible apply SqT.of); assumption) | ((with_reducible apply OwnC.cl); assumption) | (with_reducible exact isI_int _) | exact within_args | (with_reducible exact upd_same) | ((with_reducible apply Mid.o); assumption) | ((with_reducible apply Mid.t); assumption) | exact .inl ⟨rfl, _, SqL.of (by assumption)⟩ | (with_reducible exact ⟨_, SqT.of (by assumption)⟩) | (with_reducible exact ⟨_, SqL.of (by assumption)⟩) | omega | exact Nat.le_of_ble_eq_true rfl | exact nat9 (by omega) | exact ⟨_, rfl⟩ | (show _ ≤ sizeLine; decide) | exact ⟨by decide, by decide, by decide⟩ | exact .inl ⟨by decide, by decide⟩ | exact .inl ⟨by omega, by omega⟩ | exact .inr ⟨by omega, by omega⟩ | assumption | fail) | ((with_reducible refine iteF' ?_ ?_); first | rfl | exact decide_eq_false (by omega) | exact in_no (by omega) (by omega) | exact in_no (by omega) (by assumption) | (simp <;> fail) | fail) | ((with_reducible refine iteT' ?_ ?_); first | rfl | exact decide_eq_true (by omega) | (simp <;> fail) | fail))
        intro o6 h_o6; have np_o6 := M.pD h_o6; have nb_o6 := M.bD h_o6; generalize hE : upd _ o6 _ = H12; obtain ⟨S_o6, g_o6⟩ := new_facts h_o6 hE; clear hE; replace M := M.same S_o6; replace g_e1 := S_o6 _ _ g_e1; replace g_o1 := S_o6 _ _ g_o1; replace g_e2 := S_o6 _ _ g_e2; replace g_o2 := S_o6 _ _ g_o2; replace g_e3 := S_o6 _ _ g_e3; replace g_o3 := S_o6 _ _ g_o3; replace g_e4 := S_o6 _ _ g_e4; replace g_o4 := S_o6 _ _ g_o4; replace g_o5 := S_o6 _ _ g_o5
        repeat (first | (with_reducible refine st_tC ?_) | (with_reducible refine st_tOp ?_) | ((with_reducible apply st_n); rfl; rfl; (first | trivial | (show _ ≤ _; omega) | (show _ < _; omega) | (show _ ∨ _; omega) | assumption | exact ⟨by assumption, by omega⟩ | exact ⟨W30.one, by omega⟩ | fail); rfl) | (with_reducible refine st_i0 rfl rfl rfl ?_) | ((with_reducible refine st_i rfl rfl ?_ rfl ?_); first | omega | exact ⟨by decide, by decide, by decide⟩ | exact .inl ⟨by decide, by decide⟩ | exact .inl ⟨by omega, by omega⟩ | exact .inr ⟨by omega, by omega⟩ | fail) | ((fail_if_success refine Exists.intro (α := Nat → Nat → L2.St → Hp → Prop) ?_ ?_); (fail_if_success refine Exists.intro (α := L2.St → Hp → Prop) ?_ ?_); (fail_if_success refine Exists.intro (α := Nat → L2.St → Hp → Prop) ?_ ?_); apply Exists.intro) | ((refine And.intro ?_ ?_); first | with_reducible rfl | with_reducible assumption | rfl | ((with_reducible apply SqL.of); assumption) | ((with_reducible apply SqT.of); assumption) | ((with_reducible apply OwnC.cl); assumption) | (with_reducible exact isI_int _) | exact within_args | (with_reducible exact upd_same) | ((with_reducible apply Mid.o); assumption) | ((with_reducible apply Mid.t); assumption) | exact .inl ⟨rfl, _, SqL.of (by assumption)⟩ | (with_reducible exact ⟨_, SqT.of (by assumption)⟩) | (with_reducible exact ⟨_, SqL.of (by assumption)⟩) | omega | exact Nat.le_of_ble_eq_true rfl | exact nat9 (by omega) | exact ⟨_, rfl⟩ | (show _ ≤ sizeLine; decide) | exact ⟨by decide, by decide, by decide⟩ | exact .inl ⟨by decide, by decide⟩ | exact .inl ⟨by omega, by omega⟩ | exact .inr ⟨by omega, by omega⟩ | assumption | fail) | ((with_reducible refine iteF' ?_ ?_); first | rfl | exact decide_eq_false (by omega) | exact in_no (by omega) (by omega) | exact in_no (by omega) (by assumption) | (simp <;> fail) | fail) | ((with_reducible refine iteT' ?_ ?_); first | rfl | exact decide_eq_true (by omega) | (simp <;> fail) | fail))
        intro e7 h_e7; have np_e7 := M.pD h_e7; have nb_e7 := M.bD h_e7; generalize hE : upd _ e7 _ = H13; obtain ⟨S_e7, g_e7⟩ := new_facts h_e7 hE; clear hE; replace M := M.same S_e7; replace g_e1 := S_e7 _ _ g_e1; replace g_o1 := S_e7 _ _ g_o1; replace g_e2 := S_e7 _ _ g_e2; replace g_o2 := S_e7 _ _ g_o2; replace g_e3 := S_e7 _ _ g_e3; replace g_o3 := S_e7 _ _ g_o3; replace g_e4 := S_e7 _ _ g_e4; replace g_o4 := S_e7 _ _ g_o4; replace g_o5 := S_e7 _ _ g_o5; replace g_o6 := S_e7 _ _ g_o6
        repeat (first | (with_reducible refine st_tC ?_) | (with_reducible refine st_tOp ?_) | ((with_reducible apply st_n); rfl; rfl; (first | trivial | (show _ ≤ _; omega) | (show _ < _; omega) | (show _ ∨ _; omega) | assumption | exact ⟨by assumption, by omega⟩ | exact ⟨W30.one, by omega⟩ | fail); rfl) | (with_reducible refine st_i0 rfl rfl rfl ?_) | ((with_reducible refine st_i rfl rfl ?_ rfl ?_); first | omega | exact ⟨by decide, by decide, by decide⟩ | exact .inl ⟨by decide, by decide⟩ | exact .inl ⟨by omega, by omega⟩ | exact .inr ⟨by omega, by omega⟩ | fail) | ((fail_if_success refine Exists.intro (α := Nat → Nat → L2.St → Hp → Prop) ?_ ?_); (fail_if_success refine Exists.intro (α := L2.St → Hp → Prop) ?_ ?_); (fail_if_success refine Exists.intro (α := Nat → L2.St → Hp → Prop) ?_ ?_); apply Exists.intro) | ((refine And.intro ?_ ?_); first | with_reducible rfl | with_reducible assumption | rfl | ((with_reducible apply SqL.of); assumption) | ((with_reducible apply SqT.of); assumption) | ((with_reducible apply OwnC.cl); assumption) | (with_reducible exact isI_int _) | exact within_args | (with_reducible exact upd_same) | ((with_reducible apply Mid.o); assumption) | ((with_reducible apply Mid.t); assumption) | exact .inl ⟨rfl, _, SqL.of (by assumption)⟩ | (with_reducible exact ⟨_, SqT.of (by assumption)⟩) | (with_reducible exact ⟨_, SqL.of (by assumption)⟩) | omega | exact Nat.le_of_ble_eq_true rfl | exact nat9 (by omega) | exact ⟨_, rfl⟩ | (show _ ≤ sizeLine; decide) | exact ⟨by decide, by decide, by decide⟩ | exact .inl ⟨by decide, by decide⟩ | exact .inl ⟨by omega, by omega⟩ | exact .inr ⟨by omega, by omega⟩ | assumption | fail) | ((with_reducible refine iteF' ?_ ?_); first | rfl | exact decide_eq_false (by omega) | exact in_no (by omega) (by omega) | exact in_no (by omega) (by assumption) | (simp <;> fail) | fail) | ((with_reducible refine iteT' ?_ ?_); first | rfl | exact decide_eq_true (by omega) | (simp <;> fail) | fail))
        intro o7 h_o7; have np_o7 := M.pD h_o7; have nb_o7 := M.bD h_o7; generalize hE : upd _ o7 _ = H14; obtain ⟨S_o7, g_o7⟩ := new_facts h_o7 hE; clear hE; replace M := M.same S_o7; replace g_e1 := S_o7 _ _ g_e1; replace g_o1 := S_o7 _ _ g_o1; replace g_e2 := S_o7 _ _ g_e2; replace g_o2 := S_o7 _ _ g_o2; replace g_e3 := S_o7 _ _ g_e3; replace g_o3 := S_o7 _ _ g_o3; replace g_e4 := S_o7 _ _ g_e4; replace g_o4 := S_o7 _ _ g_o4; replace g_o5 := S_o7 _ _ g_o5; replace g_o6 := S_o7 _ _ g_o6; replace g_e7 := S_o7 _ _ g_e7
        repeat (first | (with_reducible refine st_tC ?_) | (with_reducible refine st_tOp ?_) | ((with_reducible apply st_n); rfl; rfl; (first | trivial | (show _ ≤ _; omega) | (show _ < _; omega) | (show _ ∨ _; omega) | assumption | exact ⟨by assumption, by omega⟩ | exact ⟨W30.one, by omega⟩ | fail); rfl) | (with_reducible refine st_i0 rfl rfl rfl ?_) | ((with_reducible refine st_i rfl rfl ?_ rfl ?_); first | omega | exact ⟨by decide, by decide, by decide⟩ | exact .inl ⟨by decide, by decide⟩ | exact .inl ⟨by omega, by omega⟩ | exact .inr ⟨by omega, by omega⟩ | fail) | ((fail_if_success refine Exists.intro (α := Nat → Nat → L2.St → Hp → Prop) ?_ ?_); (fail_if_success refine Exists.intro (α := L2.St → Hp → Prop) ?_ ?_); (fail_if_success refine Exists.intro (α := Nat → L2.St → Hp → Prop) ?_ ?_); apply Exists.intro) | ((refine And.intro ?_ ?_); first | with_reducible rfl | with_reducible assumption | rfl | ((with_reducible apply SqL.of); assumption) | ((with_reducible apply SqT.of); assumption) | ((with_reducible apply OwnC.cl); assumption) | (with_reducible exact isI_int _) | exact within_args | (with_reducible exact upd_same) | ((with_reducible apply Mid.o); assumption) | ((with_reducible apply Mid.t); assumption) | exact .inl ⟨rfl, _, SqL.of (by assumption)⟩ | (with_reducible exact ⟨_, SqT.of (by assumption)⟩) | (with_reducible exact ⟨_, SqL.of (by assumption)⟩) | omega | exact Nat.le_of_ble_eq_true rfl | exact nat9 (by omega) | exact ⟨_, rfl⟩ | (show _ ≤ sizeLine; decide) | exact ⟨by decide, by decide, by decide⟩ | exact .inl ⟨by decide, by decide⟩ | exact .inl ⟨by omega, by omega⟩ | exact .inr ⟨by omega, by omega⟩ | assumption | fail) | ((with_reducible refine iteF' ?_ ?_); first | rfl | exact decide_eq_false (by omega) | exact in_no (by omega) (by omega) | exact in_no (by omega) (by assumption) | (simp <;> fail) | fail) | ((with_reducible refine iteT' ?_ ?_); first | rfl | exact decide_eq_true (by omega) | (simp <;> fail) | fail))
        intro e8 h_e8; have np_e8 := M.pD h_e8; have nb_e8 := M.bD h_e8; generalize hE : upd _ e8 _ = H15; obtain ⟨S_e8, g_e8⟩ := new_facts h_e8 hE; clear hE; replace M := M.same S_e8; replace g_e1 := S_e8 _ _ g_e1; replace g_o1 := S_e8 _ _ g_o1; replace g_e2 := S_e8 _ _ g_e2; replace g_o2 := S_e8 _ _ g_o2; replace g_e3 := S_e8 _ _ g_e3; replace g_o3 := S_e8 _ _ g_o3; replace g_e4 := S_e8 _ _ g_e4; replace g_o4 := S_e8 _ _ g_o4; replace g_o5 := S_e8 _ _ g_o5; replace g_o6 := S_e8 _ _ g_o6; replace g_e7 := S_e8 _ _ g_e7; replace g_o7 := S_e8 _ _ g_o7
        repeat (first | (with_reducible refine st_tC ?_) | (with_reducible refine st_tOp ?_) | ((with_reducible apply st_n); rfl; rfl; (first | trivial | (show _ ≤ _; omega) | (show _ < _; omega) | (show _ ∨ _; omega) | assumption | exact ⟨by assumption, by omega⟩ | exact ⟨W30.one, by omega⟩ | fail); rfl) | (with_reducible refine st_i0 rfl rfl rfl ?_) | ((with_reducible refine st_i rfl rfl ?_ rfl ?_); first | omega | exact ⟨by decide, by decide, by decide⟩ | exact .inl ⟨by decide, by decide⟩ | exact .inl ⟨by omega, by omega⟩ | exact .inr ⟨by omega, by omega⟩ | fail) | ((fail_if_success refine Exists.intro (α := Nat → Nat → L2.St → Hp → Prop) ?_ ?_); (fail_if_success refine Exists.intro (α := L2.St → Hp → Prop) ?_ ?_); (fail_if_success refine Exists.intro (α := Nat → L2.St → Hp → Prop) ?_ ?_); apply Exists.intro) | ((refine And.intro ?_ ?_); first | with_reducible rfl | with_reducible assumption | rfl | ((with_reducible apply SqL.of); assumption) | ((with_reducible apply SqT.of); assumption) | ((with_reducible apply OwnC.cl); assumption) | (with_reducible exact isI_int _) | exact within_args | (with_reducible exact upd_same) | ((with_reducible apply Mid.o); assumption) | ((with_reducible apply Mid.t); assumption) | exact .inl ⟨rfl, _, SqL.of (by assumption)⟩ | (with_reducible exact ⟨_, SqT.of (by assumption)⟩) | (with_reducible exact ⟨_, SqL.of (by assumption)⟩) | omega | exact Nat.le_of_ble_eq_true rfl | exact nat9 (by omega) | exact ⟨_, rfl⟩ | (show _ ≤ sizeLine; decide) | exact ⟨by decide, by decide, by decide⟩ | exact .inl ⟨by decide, by decide⟩ | exact .inl ⟨by omega, by omega⟩ | exact .inr ⟨by omega, by omega⟩ | assumption | fail) | ((with_reducible refine iteF' ?_ ?_); first | rfl | exact decide_eq_false (by omega) | exact in_no (by omega) (by omega) | exact in_no (by omega) (by assumption) | (simp <;> fail) | fail) | ((with_reducible refine iteT' ?_ ?_); first | rfl | exact decide_eq_true (by omega) | (simp <;> fail) | fail))
        intro o8 h_o8; have np_o8 := M.pD h_o8; have nb_o8 := M.bD h_o8; generalize hE : upd _ o8 _ = H16; obtain ⟨S_o8, g_o8⟩ := new_facts h_o8 hE; clear hE; replace M := M.same S_o8; replace g_e1 := S_o8 _ _ g_e1; replace g_o1 := S_o8 _ _ g_o1; replace g_e2 := S_o8 _ _ g_e2; replace g_o2 := S_o8 _ _ g_o2; replace g_e3 := S_o8 _ _ g_e3; replace g_o3 := S_o8 _ _ g_o3; replace g_e4 := S_o8 _ _ g_e4; replace g_o4 := S_o8 _ _ g_o4; replace g_o5 := S_o8 _ _ g_o5; replace g_o6 := S_o8 _ _ g_o6; replace g_e7 := S_o8 _ _ g_e7; replace g_o7 := S_o8 _ _ g_o7; replace g_e8 := S_o8 _ _ g_e8
        repeat (first | (with_reducible refine st_tC ?_) | (with_reducible refine st_tOp ?_) | ((with_reducible apply st_n); rfl; rfl; (first | trivial | (show _ ≤ _; omega) | (show _ < _; omega) | (show _ ∨ _; omega) | assumption | exact ⟨by assumption, by omega⟩ | exact ⟨W30.one, by omega⟩ | fail); rfl) | (with_reducible refine st_i0 rfl rfl rfl ?_) | ((with_reducible refine st_i rfl rfl ?_ rfl ?_); first | omega | exact ⟨by decide, by decide, by decide⟩ | exact .inl ⟨by decide, by decide⟩ | exact .inl ⟨by omega, by omega⟩ | exact .inr ⟨by omega, by omega⟩ | fail) | ((fail_if_success refine Exists.intro (α := Nat → Nat → L2.St → Hp → Prop) ?_ ?_); (fail_if_success refine Exists.intro (α := L2.St → Hp → Prop) ?_ ?_); (fail_if_success refine Exists.intro (α := Nat → L2.St → Hp → Prop) ?_ ?_); apply Exists.intro) | ((refine And.intro ?_ ?_); first | with_reducible rfl | with_reducible assumption | rfl | ((with_reducible apply SqL.of); assumption) | ((with_reducible apply SqT.of); assumption) | ((with_reducible apply OwnC.cl); assumption) | (with_reducible exact isI_int _) | exact within_args | (with_reducible exact upd_same) | ((with_reducible apply Mid.o); assumption) | ((with_reducible apply Mid.t); assumption) | exact .inl ⟨rfl, _, SqL.of (by assumption)⟩ | (with_reducible exact ⟨_, SqT.of (by assumption)⟩) | (with_reducible exact ⟨_, SqL.of (by assumption)⟩) | omega | exact Nat.le_of_ble_eq_true rfl | exact nat9 (by omega) | exact ⟨_, rfl⟩ | (show _ ≤ sizeLine; decide) | exact ⟨by decide, by decide, by decide⟩ | exact .inl ⟨by decide, by decide⟩ | exact .inl ⟨by omega, by omega⟩ | exact .inr ⟨by omega, by omega⟩ | assumption | fail) | ((with_reducible refine iteF' ?_ ?_); first | rfl | exact decide_eq_false (by omega) | exact in_no (by omega) (by omega) | exact in_no (by omega) (by assumption) | (simp <;> fail) | fail) | ((with_reducible refine iteT' ?_ ?_); first | rfl | exact decide_eq_true (by omega) | (simp <;> fail) | fail))
        intro e9 h_e9; have np_e9 := M.pD h_e9; have nb_e9 := M.bD h_e9; generalize hE : upd _ e9 _ = H17; obtain ⟨S_e9, g_e9⟩ := new_facts h_e9 hE; clear hE; replace M := M.same S_e9; replace g_e1 := S_e9 _ _ g_e1; replace g_o1 := S_e9 _ _ g_o1; replace g_e2 := S_e9 _ _ g_e2; replace g_o2 := S_e9 _ _ g_o2; replace g_e3 := S_e9 _ _ g_e3; replace g_o3 := S_e9 _ _ g_o3; replace g_e4 := S_e9 _ _ g_e4; replace g_o4 := S_e9 _ _ g_o4; replace g_o5 := S_e9 _ _ g_o5; replace g_o6 := S_e9 _ _ g_o6; replace g_e7 := S_e9 _ _ g_e7; replace g_o7 := S_e9 _ _ g_o7; replace g_e8 := S_e9 _ _ g_e8; replace g_o8 := S_e9 _ _ g_o8
        repeat (first | (with_reducible refine st_tC ?_) | (with_reducible refine st_tOp ?_) | ((with_reducible apply st_n); rfl; rfl; (first | trivial | (show _ ≤ _; omega) | (show _ < _; omega) | (show _ ∨ _; omega) | assumption | exact ⟨by assumption, by omega⟩ | exact ⟨W30.one, by omega⟩ | fail); rfl) | (with_reducible refine st_i0 rfl rfl rfl ?_) | ((with_reducible refine st_i rfl rfl ?_ rfl ?_); first | omega | exact ⟨by decide, by decide, by decide⟩ | exact .inl ⟨by decide, by decide⟩ | exact .inl ⟨by omega, by omega⟩ | exact .inr ⟨by omega, by omega⟩ | fail) | ((fail_if_success refine Exists.intro (α := Nat → Nat → L2.St → Hp → Prop) ?_ ?_); (fail_if_success refine Exists.intro (α := L2.St → Hp → Prop) ?_ ?_); (fail_if_success refine Exists.intro (α := Nat → L2.St → Hp → Prop) ?_ ?_); apply Exists.intro) | ((refine And.intro ?_ ?_); first | with_reducible rfl | with_reducible assumption | rfl | ((with_reducible apply SqL.of); assumption) | ((with_reducible apply SqT.of); assumption) | ((with_reducible apply OwnC.cl); assumption) | (with_reducible exact isI_int _) | exact within_args | (with_reducible exact upd_same) | ((with_reducible apply Mid.o); assumption) | ((with_reducible apply Mid.t); assumption) | exact .inl ⟨rfl, _, SqL.of (by assumption)⟩ | (with_reducible exact ⟨_, SqT.of (by assumption)⟩) | (with_reducible exact ⟨_, SqL.of (by assumption)⟩) | omega | exact Nat.le_of_ble_eq_true rfl | exact nat9 (by omega) | exact ⟨_, rfl⟩ | (show _ ≤ sizeLine; decide) | exact ⟨by decide, by decide, by decide⟩ | exact .inl ⟨by decide, by decide⟩ | exact .inl ⟨by omega, by omega⟩ | exact .inr ⟨by omega, by omega⟩ | assumption | fail) | ((with_reducible refine iteF' ?_ ?_); first | rfl | exact decide_eq_false (by omega) | exact in_no (by omega) (by omega) | exact in_no (by omega) (by assumption) | (simp <;> fail) | fail) | ((with_reducible refine iteT' ?_ ?_); first | rfl | exact decide_eq_true (by omega) | (simp <;> fail) | fail))
        intro o9 h_o9; have np_o9 := M.pD h_o9; have nb_o9 := M.bD h_o9; generalize hE : upd _ o9 _ = H18; obtain ⟨S_o9, g_o9⟩ := new_facts h_o9 hE; clear hE; replace M := M.same S_o9; replace g_e1 := S_o9 _ _ g_e1; replace g_o1 := S_o9 _ _ g_o1; replace g_e2 := S_o9 _ _ g_e2; replace g_o2 := S_o9 _ _ g_o2; replace g_e3 := S_o9 _ _ g_e3; replace g_o3 := S_o9 _ _ g_o3; replace g_e4 := S_o9 _ _ g_e4; replace g_o4 := S_o9 _ _ g_o4; replace g_o5 := S_o9 _ _ g_o5; replace g_o6 := S_o9 _ _ g_o6; replace g_e7 := S_o9 _ _ g_e7; replace g_o7 := S_o9 _ _ g_o7; replace g_e8 := S_o9 _ _ g_e8; replace g_o8 := S_o9 _ _ g_o8; replace g_e9 := S_o9 _ _ g_e9
        repeat (first | (with_reducible refine st_tC ?_) | (with_reducible refine st_tOp ?_) | ((with_reducible apply st_n); rfl; rfl; (first | trivial | (show _ ≤ _; omega) | (show _ < _; omega) | (show _ ∨ _; omega) | assumption | exact ⟨by assumption, by omega⟩ | exact ⟨W30.one, by omega⟩ | fail); rfl) | (with_reducible refine st_i0 rfl rfl rfl ?_) | ((with_reducible refine st_i rfl rfl ?_ rfl ?_); first | omega | exact ⟨by decide, by decide, by decide⟩ | exact .inl ⟨by decide, by decide⟩ | exact .inl ⟨by omega, by omega⟩ | exact .inr ⟨by omega, by omega⟩ | fail) | ((fail_if_success refine Exists.intro (α := Nat → Nat → L2.St → Hp → Prop) ?_ ?_); (fail_if_success refine Exists.intro (α := L2.St → Hp → Prop) ?_ ?_); (fail_if_success refine Exists.intro (α := Nat → L2.St → Hp → Prop) ?_ ?_); apply Exists.intro) | ((refine And.intro ?_ ?_); first | with_reducible rfl | with_reducible assumption | rfl | ((with_reducible apply SqL.of); assumption) | ((with_reducible apply SqT.of); assumption) | ((with_reducible apply OwnC.cl); assumption) | (with_reducible exact isI_int _) | exact within_args | (with_reducible exact upd_same) | ((with_reducible apply Mid.o); assumption) | ((with_reducible apply Mid.t); assumption) | exact .inl ⟨rfl, _, SqL.of (by assumption)⟩ | (with_reducible exact ⟨_, SqT.of (by assumption)⟩) | (with_reducible exact ⟨_, SqL.of (by assumption)⟩) | omega | exact Nat.le_of_ble_eq_true rfl | exact nat9 (by omega) | exact ⟨_, rfl⟩ | (show _ ≤ sizeLine; decide) | exact ⟨by decide, by decide, by decide⟩ | exact .inl ⟨by decide, by decide⟩ | exact .inl ⟨by omega, by omega⟩ | exact .inr ⟨by omega, by omega⟩ | assumption | fail) | ((with_reducible refine iteF' ?_ ?_); first | rfl | exact decide_eq_false (by omega) | exact in_no (by omega) (by omega) | exact in_no (by omega) (by assumption) | (simp <;> fail) | fail) | ((with_reducible refine iteT' ?_ ?_); first | rfl | exact decide_eq_true (by omega) | (simp <;> fail) | fail))
        intro e10 h_e10; have np_e10 := M.pD h_e10; have nb_e10 := M.bD h_e10; generalize hE : upd _ e10 _ = H19; obtain ⟨S_e10, g_e10⟩ := new_facts h_e10 hE; clear hE; replace M := M.same S_e10; replace g_e1 := S_e10 _ _ g_e1; replace g_o1 := S_e10 _ _ g_o1; replace g_e2 := S_e10 _ _ g_e2; replace g_o2 := S_e10 _ _ g_o2; replace g_e3 := S_e10 _ _ g_e3; replace g_o3 := S_e10 _ _ g_o3; replace g_e4 := S_e10 _ _ g_e4; replace g_o4 := S_e10 _ _ g_o4; replace g_o5 := S_e10 _ _ g_o5; replace g_o6 := S_e10 _ _ g_o6; replace g_e7 := S_e10 _ _ g_e7; replace g_o7 := S_e10 _ _ g_o7; replace g_e8 := S_e10 _ _ g_e8; replace g_o8 := S_e10 _ _ g_o8; replace g_e9 := S_e10 _ _ g_e9; replace g_o9 := S_e10 _ _ g_o9
        repeat (first | (with_reducible refine st_tC ?_) | (with_reducible refine st_tOp ?_) | ((with_reducible apply st_n); rfl; rfl; (first | trivial | (show _ ≤ _; omega) | (show _ < _; omega) | (show _ ∨ _; omega) | assumption | exact ⟨by assumption, by omega⟩ | exact ⟨W30.one, by omega⟩ | fail); rfl) | (with_reducible refine st_i0 rfl rfl rfl ?_) | ((with_reducible refine st_i rfl rfl ?_ rfl ?_); first | omega | exact ⟨by decide, by decide, by decide⟩ | exact .inl ⟨by decide, by decide⟩ | exact .inl ⟨by omega, by omega⟩ | exact .inr ⟨by omega, by omega⟩ | fail) | ((fail_if_success refine Exists.intro (α := Nat → Nat → L2.St → Hp → Prop) ?_ ?_); (fail_if_success refine Exists.intro (α := L2.St → Hp → Prop) ?_ ?_); (fail_if_success refine Exists.intro (α := Nat → L2.St → Hp → Prop) ?_ ?_); apply Exists.intro) | ((refine And.intro ?_ ?_); first | with_reducible rfl | with_reducible assumption | rfl | ((with_reducible apply SqL.of); assumption) | ((with_reducible apply SqT.of); assumption) | ((with_reducible apply OwnC.cl); assumption) | (with_reducible exact isI_int _) | exact within_args | (with_reducible exact upd_same) | ((with_reducible apply Mid.o); assumption) | ((with_reducible apply Mid.t); assumption) | exact .inl ⟨rfl, _, SqL.of (by assumption)⟩ | (with_reducible exact ⟨_, SqT.of (by assumption)⟩) | (with_reducible exact ⟨_, SqL.of (by assumption)⟩) | omega | exact Nat.le_of_ble_eq_true rfl | exact nat9 (by omega) | exact ⟨_, rfl⟩ | (show _ ≤ sizeLine; decide) | exact ⟨by decide, by decide, by decide⟩ | exact .inl ⟨by decide, by decide⟩ | exact .inl ⟨by omega, by omega⟩ | exact .inr ⟨by omega, by omega⟩ | assumption | fail) | ((with_reducible refine iteF' ?_ ?_); first | rfl | exact decide_eq_false (by omega) | exact in_no (by omega) (by omega) | exact in_no (by omega) (by assumption) | (simp <;> fail) | fail) | ((with_reducible refine iteT' ?_ ?_); first | rfl | exact decide_eq_true (by omega) | (simp <;> fail) | fail))
        intro e11 h_e11; have np_e11 := M.pD h_e11; have nb_e11 := M.bD h_e11; generalize hE : upd _ e11 _ = H20; obtain ⟨S_e11, g_e11⟩ := new_facts h_e11 hE; clear hE; replace M := M.same S_e11; replace g_e1 := S_e11 _ _ g_e1; replace g_o1 := S_e11 _ _ g_o1; replace g_e2 := S_e11 _ _ g_e2; replace g_o2 := S_e11 _ _ g_o2; replace g_e3 := S_e11 _ _ g_e3; replace g_o3 := S_e11 _ _ g_o3; replace g_e4 := S_e11 _ _ g_e4; replace g_o4 := S_e11 _ _ g_o4; replace g_o5 := S_e11 _ _ g_o5; replace g_o6 := S_e11 _ _ g_o6; replace g_e7 := S_e11 _ _ g_e7; replace g_o7 := S_e11 _ _ g_o7; replace g_e8 := S_e11 _ _ g_e8; replace g_o8 := S_e11 _ _ g_o8; replace g_e9 := S_e11 _ _ g_e9; replace g_o9 := S_e11 _ _ g_o9; replace g_e10 := S_e11 _ _ g_e10
        repeat (first | (with_reducible refine st_tC ?_) | (with_reducible refine st_tOp ?_) | ((with_reducible apply st_n); rfl; rfl; (first | trivial | (show _ ≤ _; omega) | (show _ < _; omega) | (show _ ∨ _; omega) | assumption | exact ⟨by assumption, by omega⟩ | exact ⟨W30.one, by omega⟩ | fail); rfl) | (with_reducible refine st_i0 rfl rfl rfl ?_) | ((with_reducible refine st_i rfl rfl ?_ rfl ?_); first | omega | exact ⟨by decide, by decide, by decide⟩ | exact .inl ⟨by decide, by decide⟩ | exact .inl ⟨by omega, by omega⟩ | exact .inr ⟨by omega, by omega⟩ | fail) | ((fail_if_success refine Exists.intro (α := Nat → Nat → L2.St → Hp → Prop) ?_ ?_); (fail_if_success refine Exists.intro (α := L2.St → Hp → Prop) ?_ ?_); (fail_if_success refine Exists.intro (α := Nat → L2.St → Hp → Prop) ?_ ?_); apply Exists.intro) | ((refine And.intro ?_ ?_); first | with_reducible rfl | with_reducible assumption | rfl | ((with_reducible apply SqL.of); assumption) | ((with_reducible apply SqT.of); assumption) | ((with_reducible apply OwnC.cl); assumption) | (with_reducible exact isI_int _) | exact within_args | (with_reducible exact upd_same) | ((with_reducible apply Mid.o); assumption) | ((with_reducible apply Mid.t); assumption) | exact .inl ⟨rfl, _, SqL.of (by assumption)⟩ | (with_reducible exact ⟨_, SqT.of (by assumption)⟩) | (with_reducible exact ⟨_, SqL.of (by assumption)⟩) | omega | exact Nat.le_of_ble_eq_true rfl | exact nat9 (by omega) | exact ⟨_, rfl⟩ | (show _ ≤ sizeLine; decide) | exact ⟨by decide, by decide, by decide⟩ | exact .inl ⟨by decide, by decide⟩ | exact .inl ⟨by omega, by omega⟩ | exact .inr ⟨by omega, by omega⟩ | assumption | fail) | ((with_reducible refine iteF' ?_ ?_); first | rfl | exact decide_eq_false (by omega) | exact in_no (by omega) (by omega) | exact in_no (by omega) (by assumption) | (simp <;> fail) | fail) | ((with_reducible refine iteT' ?_ ?_); first | rfl | exact decide_eq_true (by omega) | (simp <;> fail) | fail))
        intro o10 h_o10; have np_o10 := M.pD h_o10; have nb_o10 := M.bD h_o10; generalize hE : upd _ o10 _ = H21; obtain ⟨S_o10, g_o10⟩ := new_facts h_o10 hE; clear hE; replace M := M.same S_o10; replace g_e1 := S_o10 _ _ g_e1; replace g_o1 := S_o10 _ _ g_o1; replace g_e2 := S_o10 _ _ g_e2; replace g_o2 := S_o10 _ _ g_o2; replace g_e3 := S_o10 _ _ g_e3; replace g_o3 := S_o10 _ _ g_o3; replace g_e4 := S_o10 _ _ g_e4; replace g_o4 := S_o10 _ _ g_o4; replace g_o5 := S_o10 _ _ g_o5; replace g_o6 := S_o10 _ _ g_o6; replace g_e7 := S_o10 _ _ g_e7; replace g_o7 := S_o10 _ _ g_o7; replace g_e8 := S_o10 _ _ g_e8; replace g_o8 := S_o10 _ _ g_o8; replace g_e9 := S_o10 _ _ g_e9; replace g_o9 := S_o10 _ _ g_o9; replace g_e10 := S_o10 _ _ g_e10; replace g_e11 := S_o10 _ _ g_e11
        repeat (first | (with_reducible refine st_tC ?_) | (with_reducible refine st_tOp ?_) | ((with_reducible apply st_n); rfl; rfl; (first | trivial | (show _ ≤ _; omega) | (show _ < _; omega) | (show _ ∨ _; omega) | assumption | exact ⟨by assumption, by omega⟩ | exact ⟨W30.one, by omega⟩ | fail); rfl) | (with_reducible refine st_i0 rfl rfl rfl ?_) | ((with_reducible refine st_i rfl rfl ?_ rfl ?_); first | omega | exact ⟨by decide, by decide, by decide⟩ | exact .inl ⟨by decide, by decide⟩ | exact .inl ⟨by omega, by omega⟩ | exact .inr ⟨by omega, by omega⟩ | fail) | ((fail_if_success refine Exists.intro (α := Nat → Nat → L2.St → Hp → Prop) ?_ ?_); (fail_if_success refine Exists.intro (α := L2.St → Hp → Prop) ?_ ?_); (fail_if_success refine Exists.intro (α := Nat → L2.St → Hp → Prop) ?_ ?_); apply Exists.intro) | ((refine And.intro ?_ ?_); first | with_reducible rfl | with_reducible assumption | rfl | ((with_reducible apply SqL.of); assumption) | ((with_reducible apply SqT.of); assumption) | ((with_reducible apply OwnC.cl); assumption) | (with_reducible exact isI_int _) | exact within_args | (with_reducible exact upd_same) | ((with_reducible apply Mid.o); assumption) | ((with_reducible apply Mid.t); assumption) | exact .inl ⟨rfl, _, SqL.of (by assumption)⟩ | (with_reducible exact ⟨_, SqT.of (by assumption)⟩) | (with_reducible exact ⟨_, SqL.of (by assumption)⟩) | omega | exact Nat.le_of_ble_eq_true rfl | exact nat9 (by omega) | exact ⟨_, rfl⟩ | (show _ ≤ sizeLine; decide) | exact ⟨by decide, by decide, by decide⟩ | exact .inl ⟨by decide, by decide⟩ | exact .inl ⟨by omega, by omega⟩ | exact .inr ⟨by omega, by omega⟩ | assumption | fail) | ((with_reducible refine iteF' ?_ ?_); first | rfl | exact decide_eq_false (by omega) | exact in_no (by omega) (by omega) | exact in_no (by omega) (by assumption) | (simp <;> fail) | fail) | ((with_reducible refine iteT' ?_ ?_); first | rfl | exact decide_eq_true (by omega) | (simp <;> fail) | fail))
        intro lo h_lo; have np_lo := M.pD h_lo; have nb_lo := M.bD h_lo; generalize hE : upd _ lo _ = H22; obtain ⟨S_lo, g_lo⟩ := new_facts h_lo hE; clear hE; replace M := M.same S_lo; replace g_e1 := S_lo _ _ g_e1; replace g_o1 := S_lo _ _ g_o1; replace g_e2 := S_lo _ _ g_e2; replace g_o2 := S_lo _ _ g_o2; replace g_e3 := S_lo _ _ g_e3; replace g_o3 := S_lo _ _ g_o3; replace g_e4 := S_lo _ _ g_e4; replace g_o4 := S_lo _ _ g_o4; replace g_o5 := S_lo _ _ g_o5; replace g_o6 := S_lo _ _ g_o6; replace g_e7 := S_lo _ _ g_e7; replace g_o7 := S_lo _ _ g_o7; replace g_e8 := S_lo _ _ g_e8; replace g_o8 := S_lo _ _ g_o8; replace g_e9 := S_lo _ _ g_e9; replace g_o9 := S_lo _ _ g_o9; replace g_e10 := S_lo _ _ g_e10; replace g_e11 := S_lo _ _ g_e11; replace g_o10 := S_lo _ _ g_o10
        repeat (first | (with_reducible refine st_tC ?_) | (with_reducible refine st_tOp ?_) | ((with_reducible apply st_n); rfl; rfl; (first | trivial | (show _ ≤ _; omega) | (show _ < _; omega) | (show _ ∨ _; omega) | assumption | exact ⟨by assumption, by omega⟩ | exact ⟨W30.one, by omega⟩ | fail); rfl) | (with_reducible refine st_i0 rfl rfl rfl ?_) | ((with_reducible refine st_i rfl rfl ?_ rfl ?_); first | omega | exact ⟨by decide, by decide, by decide⟩ | exact .inl ⟨by decide, by decide⟩ | exact .inl ⟨by omega, by omega⟩ | exact .inr ⟨by omega, by omega⟩ | fail) | ((fail_if_success refine Exists.intro (α := Nat → Nat → L2.St → Hp → Prop) ?_ ?_); (fail_if_success refine Exists.intro (α := L2.St → Hp → Prop) ?_ ?_); (fail_if_success refine Exists.intro (α := Nat → L2.St → Hp → Prop) ?_ ?_); apply Exists.intro) | ((refine And.intro ?_ ?_); first | with_reducible rfl | with_reducible assumption | rfl | ((with_reducible apply SqL.of); assumption) | ((with_reducible apply SqT.of); assumption) | ((with_reducible apply OwnC.cl); assumption) | (with_reducible exact isI_int _) | exact within_args | (with_reducible exact upd_same) | ((with_reducible apply Mid.o); assumption) | ((with_reducible apply Mid.t); assumption) | exact .inl ⟨rfl, _, SqL.of (by assumption)⟩ | (with_reducible exact ⟨_, SqT.of (by assumption)⟩) | (with_reducible exact ⟨_, SqL.of (by assumption)⟩) | omega | exact Nat.le_of_ble_eq_true rfl | exact nat9 (by omega) | exact ⟨_, rfl⟩ | (show _ ≤ sizeLine; decide) | exact ⟨by decide, by decide, by decide⟩ | exact .inl ⟨by decide, by decide⟩ | exact .inl ⟨by omega, by omega⟩ | exact .inr ⟨by omega, by omega⟩ | assumption | fail) | ((with_reducible refine iteF' ?_ ?_); first | rfl | exact decide_eq_false (by omega) | exact in_no (by omega) (by omega) | exact in_no (by omega) (by assumption) | (simp <;> fail) | fail) | ((with_reducible refine iteT' ?_ ?_); first | rfl | exact decide_eq_true (by omega) | (simp <;> fail) | fail))
        intro j_none none H23 e_none O_none B_none; replace g_e1 := B_none _ _ g_e1 np_e1; replace g_o1 := B_none _ _ g_o1 np_o1; replace g_e2 := B_none _ _ g_e2 np_e2; replace g_o2 := B_none _ _ g_o2 np_o2; replace g_e3 := B_none _ _ g_e3 np_e3; replace g_o3 := B_none _ _ g_o3 np_o3; replace g_e4 := B_none _ _ g_e4 np_e4; replace g_o4 := B_none _ _ g_o4 np_o4; replace g_o5 := B_none _ _ g_o5 np_o5; replace g_o6 := B_none _ _ g_o6 np_o6; replace g_e7 := B_none _ _ g_e7 np_e7; replace g_o7 := B_none _ _ g_o7 np_o7; replace g_e8 := B_none _ _ g_e8 np_e8; replace g_o8 := B_none _ _ g_o8 np_o8; replace g_e9 := B_none _ _ g_e9 np_e9; replace g_o9 := B_none _ _ g_o9 np_o9; replace g_e10 := B_none _ _ g_e10 np_e10; replace g_e11 := B_none _ _ g_e11 np_e11; replace g_o10 := B_none _ _ g_o10 np_o10; replace M := M.draw O_none B_none; clear O_none B_none
        have badN : ∀ H', KpS p H23 H' → Phs (cxOf CX0 P w K mg base ["script", "quarry", "turn", "phases", "passed", "phase", "kept", "items", "bend", "none", "odd"] "law" (defScope s_law) f (.ref c) A outer s H E).nox.K H' none false := by
          intro H' kp
          have m := List.mem_of_getElem? e_none
          replace g_e1 := kp.k _ _ g_e1 np_e1 (fun _ z => nomatch z)
          replace g_o1 := kp.k _ _ g_o1 np_o1 (fun _ z => nomatch z)
          replace g_e2 := kp.k _ _ g_e2 np_e2 (fun _ z => nomatch z)
          replace g_o2 := kp.k _ _ g_o2 np_o2 (fun _ z => nomatch z)
          replace g_e3 := kp.k _ _ g_e3 np_e3 (fun _ z => nomatch z)
          replace g_o3 := kp.k _ _ g_o3 np_o3 (fun _ z => nomatch z)
          replace g_e4 := kp.k _ _ g_e4 np_e4 (fun _ z => nomatch z)
          replace g_o4 := kp.k _ _ g_o4 np_o4 (fun _ z => nomatch z)
          replace g_o5 := kp.k _ _ g_o5 np_o5 (fun _ z => nomatch z)
          replace g_o6 := kp.k _ _ g_o6 np_o6 (fun _ z => nomatch z)
          replace g_e7 := kp.k _ _ g_e7 np_e7 (fun _ z => nomatch z)
          replace g_o7 := kp.k _ _ g_o7 np_o7 (fun _ z => nomatch z)
          replace g_e8 := kp.k _ _ g_e8 np_e8 (fun _ z => nomatch z)
          replace g_o8 := kp.k _ _ g_o8 np_o8 (fun _ z => nomatch z)
          replace g_e9 := kp.k _ _ g_e9 np_e9 (fun _ z => nomatch z)
          replace g_o9 := kp.k _ _ g_o9 np_o9 (fun _ z => nomatch z)
          replace g_e10 := kp.k _ _ g_e10 np_e10 (fun _ z => nomatch z)
          replace g_e11 := kp.k _ _ g_e11 np_e11 (fun _ z => nomatch z)
          replace g_o10 := kp.k _ _ g_o10 np_o10 (fun _ z => nomatch z)
          clear e_none
          simp only [List.mem_cons, List.not_mem_nil, or_false] at m
          rcases m with rfl | rfl | rfl | rfl | rfl | rfl | rfl | rfl | rfl | rfl | rfl | rfl | rfl
          · exact phs_not fun _ _ => isL_non
          · exact phs_not fun _ _ => isL_int _
          · exact phs_not fun _ _ => isL_str _
          · exact phs_one g_o1 (phb_empty g_e1)
          · exact phs_one g_o2 (phb_dup g_e2)
          · exact phs_one g_o3 (phb_one g_e3 (fun _ _ => isI_int _) (by decide))
          · exact phs_one g_o4 (phb_one g_e4 (fun _ _ => isI_bl _) rfl)
          · exact phs_one g_o5 (phb_not fun _ _ => isL_int _)
          · exact phs_not fun _ S => isL_dK (S _ _ g_o6)
          · exact phs_two g_o7 (phb_zero g_e7) (phb_not fun _ _ => isL_non)
          · exact phs_one g_o8 (phb_one g_e8 (fun _ _ => isI_int _) (by decide))
          · exact phs_one g_o9 (phb_one g_e9 (fun _ _ => isI_str _) rfl)
          · exact phs_two g_o10 (phb_zero g_e10) (phb_empty g_e11)
        have kp : KpS p H23 H23 := .refl
        clear e_none j_none g_e1 S_e1 h_e1 np_e1 nb_e1 g_o1 S_o1 h_o1 np_o1 nb_o1 g_e2 S_e2 h_e2 np_e2 nb_e2 g_o2 S_o2 h_o2 np_o2 nb_o2 g_e3 S_e3 h_e3 np_e3 nb_e3 g_o3 S_o3 h_o3 np_o3 nb_o3 g_e4 S_e4 h_e4 np_e4 nb_e4 g_o4 S_o4 h_o4 np_o4 nb_o4 g_o5 S_o5 h_o5 np_o5 nb_o5 g_o6 S_o6 h_o6 np_o6 nb_o6 g_e7 S_e7 h_e7 np_e7 nb_e7 g_o7 S_o7 h_o7 np_o7 nb_o7 g_e8 S_e8 h_e8 np_e8 nb_e8 g_o8 S_o8 h_o8 np_o8 nb_o8 g_e9 S_e9 h_e9 np_e9 nb_e9 g_o9 S_o9 h_o9 np_o9 nb_o9 g_e10 S_e10 h_e10 np_e10 nb_e10 g_e11 S_e11 h_e11 np_e11 nb_e11 g_o10 S_o10 h_o10 np_o10 nb_o10 g_lo S_lo h_lo np_lo nb_lo
        repeat (first | (with_reducible refine st_tC ?_) | (with_reducible refine st_tOp ?_) | ((with_reducible apply st_n); rfl; rfl; (first | trivial | (show _ ≤ _; omega) | (show _ < _; omega) | (show _ ∨ _; omega) | assumption | exact ⟨by assumption, by omega⟩ | exact ⟨W30.one, by omega⟩ | fail); rfl) | (with_reducible refine st_i0 rfl rfl rfl ?_) | ((with_reducible refine st_i rfl rfl ?_ rfl ?_); first | omega | exact ⟨by decide, by decide, by decide⟩ | exact .inl ⟨by decide, by decide⟩ | exact .inl ⟨by omega, by omega⟩ | exact .inr ⟨by omega, by omega⟩ | fail) | ((fail_if_success refine Exists.intro (α := Nat → Nat → L2.St → Hp → Prop) ?_ ?_); (fail_if_success refine Exists.intro (α := L2.St → Hp → Prop) ?_ ?_); (fail_if_success refine Exists.intro (α := Nat → L2.St → Hp → Prop) ?_ ?_); apply Exists.intro) | ((refine And.intro ?_ ?_); first | with_reducible rfl | with_reducible assumption | rfl | ((with_reducible apply SqL.of); assumption) | ((with_reducible apply SqT.of); assumption) | ((with_reducible apply OwnC.cl); assumption) | (with_reducible exact isI_int _) | exact within_args | (with_reducible exact upd_same) | ((with_reducible apply Mid.o); assumption) | ((with_reducible apply Mid.t); assumption) | exact .inl ⟨rfl, _, SqL.of (by assumption)⟩ | (with_reducible exact ⟨_, SqT.of (by assumption)⟩) | (with_reducible exact ⟨_, SqL.of (by assumption)⟩) | omega | exact Nat.le_of_ble_eq_true rfl | exact nat9 (by omega) | exact ⟨_, rfl⟩ | (show _ ≤ sizeLine; decide) | exact ⟨by decide, by decide, by decide⟩ | exact .inl ⟨by decide, by decide⟩ | exact .inl ⟨by omega, by omega⟩ | exact .inr ⟨by omega, by omega⟩ | assumption | fail) | ((with_reducible refine iteF' ?_ ?_); first | rfl | exact decide_eq_false (by omega) | exact in_no (by omega) (by omega) | exact in_no (by omega) (by assumption) | (simp <;> fail) | fail) | ((with_reducible refine iteT' ?_ ?_); first | rfl | exact decide_eq_true (by omega) | (simp <;> fail) | fail))
        intro i1 h_i1; have np_i1 := M.pD h_i1; have nb_i1 := M.bD h_i1; generalize hE : upd _ i1 _ = H24; obtain ⟨S_i1, g_i1⟩ := new_facts h_i1 hE; clear hE; replace M := M.same S_i1; replace kp := kp.same S_i1
        repeat (first | (with_reducible refine st_tC ?_) | (with_reducible refine st_tOp ?_) | ((with_reducible apply st_n); rfl; rfl; (first | trivial | (show _ ≤ _; omega) | (show _ < _; omega) | (show _ ∨ _; omega) | assumption | exact ⟨by assumption, by omega⟩ | exact ⟨W30.one, by omega⟩ | fail); rfl) | (with_reducible refine st_i0 rfl rfl rfl ?_) | ((with_reducible refine st_i rfl rfl ?_ rfl ?_); first | omega | exact ⟨by decide, by decide, by decide⟩ | exact .inl ⟨by decide, by decide⟩ | exact .inl ⟨by omega, by omega⟩ | exact .inr ⟨by omega, by omega⟩ | fail) | ((fail_if_success refine Exists.intro (α := Nat → Nat → L2.St → Hp → Prop) ?_ ?_); (fail_if_success refine Exists.intro (α := L2.St → Hp → Prop) ?_ ?_); (fail_if_success refine Exists.intro (α := Nat → L2.St → Hp → Prop) ?_ ?_); apply Exists.intro) | ((refine And.intro ?_ ?_); first | with_reducible rfl | with_reducible assumption | rfl | ((with_reducible apply SqL.of); assumption) | ((with_reducible apply SqT.of); assumption) | ((with_reducible apply OwnC.cl); assumption) | (with_reducible exact isI_int _) | exact within_args | (with_reducible exact upd_same) | ((with_reducible apply Mid.o); assumption) | ((with_reducible apply Mid.t); assumption) | exact .inl ⟨rfl, _, SqL.of (by assumption)⟩ | (with_reducible exact ⟨_, SqT.of (by assumption)⟩) | (with_reducible exact ⟨_, SqL.of (by assumption)⟩) | omega | exact Nat.le_of_ble_eq_true rfl | exact nat9 (by omega) | exact ⟨_, rfl⟩ | (show _ ≤ sizeLine; decide) | exact ⟨by decide, by decide, by decide⟩ | exact .inl ⟨by decide, by decide⟩ | exact .inl ⟨by omega, by omega⟩ | exact .inr ⟨by omega, by omega⟩ | assumption | fail) | ((with_reducible refine iteF' ?_ ?_); first | rfl | exact decide_eq_false (by omega) | exact in_no (by omega) (by omega) | exact in_no (by omega) (by assumption) | (simp <;> fail) | fail) | ((with_reducible refine iteT' ?_ ?_); first | rfl | exact decide_eq_true (by omega) | (simp <;> fail) | fail))
        intro i2 h_i2; have np_i2 := M.pD h_i2; have nb_i2 := M.bD h_i2; generalize hE : upd _ i2 _ = H25; obtain ⟨S_i2, g_i2⟩ := new_facts h_i2 hE; clear hE; replace M := M.same S_i2; replace kp := kp.same S_i2; replace g_i1 := S_i2 _ _ g_i1
        repeat (first | (with_reducible refine st_tC ?_) | (with_reducible refine st_tOp ?_) | ((with_reducible apply st_n); rfl; rfl; (first | trivial | (show _ ≤ _; omega) | (show _ < _; omega) | (show _ ∨ _; omega) | assumption | exact ⟨by assumption, by omega⟩ | exact ⟨W30.one, by omega⟩ | fail); rfl) | (with_reducible refine st_i0 rfl rfl rfl ?_) | ((with_reducible refine st_i rfl rfl ?_ rfl ?_); first | omega | exact ⟨by decide, by decide, by decide⟩ | exact .inl ⟨by decide, by decide⟩ | exact .inl ⟨by omega, by omega⟩ | exact .inr ⟨by omega, by omega⟩ | fail) | ((fail_if_success refine Exists.intro (α := Nat → Nat → L2.St → Hp → Prop) ?_ ?_); (fail_if_success refine Exists.intro (α := L2.St → Hp → Prop) ?_ ?_); (fail_if_success refine Exists.intro (α := Nat → L2.St → Hp → Prop) ?_ ?_); apply Exists.intro) | ((refine And.intro ?_ ?_); first | with_reducible rfl | with_reducible assumption | rfl | ((with_reducible apply SqL.of); assumption) | ((with_reducible apply SqT.of); assumption) | ((with_reducible apply OwnC.cl); assumption) | (with_reducible exact isI_int _) | exact within_args | (with_reducible exact upd_same) | ((with_reducible apply Mid.o); assumption) | ((with_reducible apply Mid.t); assumption) | exact .inl ⟨rfl, _, SqL.of (by assumption)⟩ | (with_reducible exact ⟨_, SqT.of (by assumption)⟩) | (with_reducible exact ⟨_, SqL.of (by assumption)⟩) | omega | exact Nat.le_of_ble_eq_true rfl | exact nat9 (by omega) | exact ⟨_, rfl⟩ | (show _ ≤ sizeLine; decide) | exact ⟨by decide, by decide, by decide⟩ | exact .inl ⟨by decide, by decide⟩ | exact .inl ⟨by omega, by omega⟩ | exact .inr ⟨by omega, by omega⟩ | assumption | fail) | ((with_reducible refine iteF' ?_ ?_); first | rfl | exact decide_eq_false (by omega) | exact in_no (by omega) (by omega) | exact in_no (by omega) (by assumption) | (simp <;> fail) | fail) | ((with_reducible refine iteT' ?_ ?_); first | rfl | exact decide_eq_true (by omega) | (simp <;> fail) | fail))
        intro i3 h_i3; have np_i3 := M.pD h_i3; have nb_i3 := M.bD h_i3; generalize hE : upd _ i3 _ = H26; obtain ⟨S_i3, g_i3⟩ := new_facts h_i3 hE; clear hE; replace M := M.same S_i3; replace kp := kp.same S_i3; replace g_i1 := S_i3 _ _ g_i1; replace g_i2 := S_i3 _ _ g_i2
        repeat (first | (with_reducible refine st_tC ?_) | (with_reducible refine st_tOp ?_) | ((with_reducible apply st_n); rfl; rfl; (first | trivial | (show _ ≤ _; omega) | (show _ < _; omega) | (show _ ∨ _; omega) | assumption | exact ⟨by assumption, by omega⟩ | exact ⟨W30.one, by omega⟩ | fail); rfl) | (with_reducible refine st_i0 rfl rfl rfl ?_) | ((with_reducible refine st_i rfl rfl ?_ rfl ?_); first | omega | exact ⟨by decide, by decide, by decide⟩ | exact .inl ⟨by decide, by decide⟩ | exact .inl ⟨by omega, by omega⟩ | exact .inr ⟨by omega, by omega⟩ | fail) | ((fail_if_success refine Exists.intro (α := Nat → Nat → L2.St → Hp → Prop) ?_ ?_); (fail_if_success refine Exists.intro (α := L2.St → Hp → Prop) ?_ ?_); (fail_if_success refine Exists.intro (α := Nat → L2.St → Hp → Prop) ?_ ?_); apply Exists.intro) | ((refine And.intro ?_ ?_); first | with_reducible rfl | with_reducible assumption | rfl | ((with_reducible apply SqL.of); assumption) | ((with_reducible apply SqT.of); assumption) | ((with_reducible apply OwnC.cl); assumption) | (with_reducible exact isI_int _) | exact within_args | (with_reducible exact upd_same) | ((with_reducible apply Mid.o); assumption) | ((with_reducible apply Mid.t); assumption) | exact .inl ⟨rfl, _, SqL.of (by assumption)⟩ | (with_reducible exact ⟨_, SqT.of (by assumption)⟩) | (with_reducible exact ⟨_, SqL.of (by assumption)⟩) | omega | exact Nat.le_of_ble_eq_true rfl | exact nat9 (by omega) | exact ⟨_, rfl⟩ | (show _ ≤ sizeLine; decide) | exact ⟨by decide, by decide, by decide⟩ | exact .inl ⟨by decide, by decide⟩ | exact .inl ⟨by omega, by omega⟩ | exact .inr ⟨by omega, by omega⟩ | assumption | fail) | ((with_reducible refine iteF' ?_ ?_); first | rfl | exact decide_eq_false (by omega) | exact in_no (by omega) (by omega) | exact in_no (by omega) (by assumption) | (simp <;> fail) | fail) | ((with_reducible refine iteT' ?_ ?_); first | rfl | exact decide_eq_true (by omega) | (simp <;> fail) | fail))
        intro i4 h_i4; have np_i4 := M.pD h_i4; have nb_i4 := M.bD h_i4; generalize hE : upd _ i4 _ = H27; obtain ⟨S_i4, g_i4⟩ := new_facts h_i4 hE; clear hE; replace M := M.same S_i4; replace kp := kp.same S_i4; replace g_i1 := S_i4 _ _ g_i1; replace g_i2 := S_i4 _ _ g_i2; replace g_i3 := S_i4 _ _ g_i3
        repeat (first | (with_reducible refine st_tC ?_) | (with_reducible refine st_tOp ?_) | ((with_reducible apply st_n); rfl; rfl; (first | trivial | (show _ ≤ _; omega) | (show _ < _; omega) | (show _ ∨ _; omega) | assumption | exact ⟨by assumption, by omega⟩ | exact ⟨W30.one, by omega⟩ | fail); rfl) | (with_reducible refine st_i0 rfl rfl rfl ?_) | ((with_reducible refine st_i rfl rfl ?_ rfl ?_); first | omega | exact ⟨by decide, by decide, by decide⟩ | exact .inl ⟨by decide, by decide⟩ | exact .inl ⟨by omega, by omega⟩ | exact .inr ⟨by omega, by omega⟩ | fail) | ((fail_if_success refine Exists.intro (α := Nat → Nat → L2.St → Hp → Prop) ?_ ?_); (fail_if_success refine Exists.intro (α := L2.St → Hp → Prop) ?_ ?_); (fail_if_success refine Exists.intro (α := Nat → L2.St → Hp → Prop) ?_ ?_); apply Exists.intro) | ((refine And.intro ?_ ?_); first | with_reducible rfl | with_reducible assumption | rfl | ((with_reducible apply SqL.of); assumption) | ((with_reducible apply SqT.of); assumption) | ((with_reducible apply OwnC.cl); assumption) | (with_reducible exact isI_int _) | exact within_args | (with_reducible exact upd_same) | ((with_reducible apply Mid.o); assumption) | ((with_reducible apply Mid.t); assumption) | exact .inl ⟨rfl, _, SqL.of (by assumption)⟩ | (with_reducible exact ⟨_, SqT.of (by assumption)⟩) | (with_reducible exact ⟨_, SqL.of (by assumption)⟩) | omega | exact Nat.le_of_ble_eq_true rfl | exact nat9 (by omega) | exact ⟨_, rfl⟩ | (show _ ≤ sizeLine; decide) | exact ⟨by decide, by decide, by decide⟩ | exact .inl ⟨by decide, by decide⟩ | exact .inl ⟨by omega, by omega⟩ | exact .inr ⟨by omega, by omega⟩ | assumption | fail) | ((with_reducible refine iteF' ?_ ?_); first | rfl | exact decide_eq_false (by omega) | exact in_no (by omega) (by omega) | exact in_no (by omega) (by assumption) | (simp <;> fail) | fail) | ((with_reducible refine iteT' ?_ ?_); first | rfl | exact decide_eq_true (by omega) | (simp <;> fail) | fail))
        intro lo h_lo; have np_lo := M.pD h_lo; have nb_lo := M.bD h_lo; generalize hE : upd _ lo _ = H28; obtain ⟨S_lo, g_lo⟩ := new_facts h_lo hE; clear hE; replace M := M.same S_lo; replace kp := kp.same S_lo; replace g_i1 := S_lo _ _ g_i1; replace g_i2 := S_lo _ _ g_i2; replace g_i3 := S_lo _ _ g_i3; replace g_i4 := S_lo _ _ g_i4
        repeat (first | (with_reducible refine st_tC ?_) | (with_reducible refine st_tOp ?_) | ((with_reducible apply st_n); rfl; rfl; (first | trivial | (show _ ≤ _; omega) | (show _ < _; omega) | (show _ ∨ _; omega) | assumption | exact ⟨by assumption, by omega⟩ | exact ⟨W30.one, by omega⟩ | fail); rfl) | (with_reducible refine st_i0 rfl rfl rfl ?_) | ((with_reducible refine st_i rfl rfl ?_ rfl ?_); first | omega | exact ⟨by decide, by decide, by decide⟩ | exact .inl ⟨by decide, by decide⟩ | exact .inl ⟨by omega, by omega⟩ | exact .inr ⟨by omega, by omega⟩ | fail) | ((fail_if_success refine Exists.intro (α := Nat → Nat → L2.St → Hp → Prop) ?_ ?_); (fail_if_success refine Exists.intro (α := L2.St → Hp → Prop) ?_ ?_); (fail_if_success refine Exists.intro (α := Nat → L2.St → Hp → Prop) ?_ ?_); apply Exists.intro) | ((refine And.intro ?_ ?_); first | with_reducible rfl | with_reducible assumption | rfl | ((with_reducible apply SqL.of); assumption) | ((with_reducible apply SqT.of); assumption) | ((with_reducible apply OwnC.cl); assumption) | (with_reducible exact isI_int _) | exact within_args | (with_reducible exact upd_same) | ((with_reducible apply Mid.o); assumption) | ((with_reducible apply Mid.t); assumption) | exact .inl ⟨rfl, _, SqL.of (by assumption)⟩ | (with_reducible exact ⟨_, SqT.of (by assumption)⟩) | (with_reducible exact ⟨_, SqL.of (by assumption)⟩) | omega | exact Nat.le_of_ble_eq_true rfl | exact nat9 (by omega) | exact ⟨_, rfl⟩ | (show _ ≤ sizeLine; decide) | exact ⟨by decide, by decide, by decide⟩ | exact .inl ⟨by decide, by decide⟩ | exact .inl ⟨by omega, by omega⟩ | exact .inr ⟨by omega, by omega⟩ | assumption | fail) | ((with_reducible refine iteF' ?_ ?_); first | rfl | exact decide_eq_false (by omega) | exact in_no (by omega) (by omega) | exact in_no (by omega) (by assumption) | (simp <;> fail) | fail) | ((with_reducible refine iteT' ?_ ?_); first | rfl | exact decide_eq_true (by omega) | (simp <;> fail) | fail))
        intro j_odd odd H29 e_odd O_odd B_odd; obtain ⟨_, _, _, hpX, _⟩ := id M.o; replace kp := kp.but B_odd hpX; replace g_i1 := B_odd _ _ g_i1 np_i1; replace g_i2 := B_odd _ _ g_i2 np_i2; replace g_i3 := B_odd _ _ g_i3 np_i3; replace g_i4 := B_odd _ _ g_i4 np_i4; replace M := M.draw O_odd B_odd; clear O_odd B_odd
        have badS : ∀ H', KpS p H29 H' → NotS (cxOf CX0 P w K mg base ["script", "quarry", "turn", "phases", "passed", "phase", "kept", "items", "bend", "none", "odd"] "law" (defScope s_law) f (.ref c) A outer s H E).nox.K H' odd := by
          intro H' kp
          have m := List.mem_of_getElem? e_odd
          replace g_i1 := kp.k _ _ g_i1 np_i1 (fun _ z => nomatch z)
          replace g_i2 := kp.k _ _ g_i2 np_i2 (fun _ z => nomatch z)
          replace g_i4 := kp.k _ _ g_i4 np_i4 (fun _ z => nomatch z)
          clear e_odd
          simp only [List.mem_cons, List.not_mem_nil, or_false] at m
          rcases m with rfl | rfl | rfl | rfl | rfl | rfl
          · exact ⟨_, .base .non, kit_ty (by decide +kernel)⟩
          · exact ⟨_, .base (.int _), kit_ty (by decide +kernel)⟩
          · exact ⟨_, .base (.lst g_i1), kit_ty (by decide +kernel)⟩
          · exact ⟨_, .base (.tup g_i2), kit_ty (by decide +kernel)⟩
          · exact ⟨_, .base (.bl _), kit_ty (by decide +kernel)⟩
          · exact ⟨_, .base (.lst g_i4), kit_ty (by decide +kernel)⟩
        have kq : KpS p H29 H29 := .refl
        clear e_odd j_odd g_i1 S_i1 h_i1 np_i1 nb_i1 g_i2 S_i2 h_i2 np_i2 nb_i2 g_i3 S_i3 h_i3 np_i3 nb_i3 g_i4 S_i4 h_i4 np_i4 nb_i4 g_lo S_lo h_lo np_lo nb_lo
        repeat (first | (with_reducible refine st_tC ?_) | (with_reducible refine st_tOp ?_) | ((with_reducible apply st_n); rfl; rfl; (first | trivial | (show _ ≤ _; omega) | (show _ < _; omega) | (show _ ∨ _; omega) | assumption | exact ⟨by assumption, by omega⟩ | exact ⟨W30.one, by omega⟩ | fail); rfl) | (with_reducible refine st_i0 rfl rfl rfl ?_) | ((with_reducible refine st_i rfl rfl ?_ rfl ?_); first | omega | exact ⟨by decide, by decide, by decide⟩ | exact .inl ⟨by decide, by decide⟩ | exact .inl ⟨by omega, by omega⟩ | exact .inr ⟨by omega, by omega⟩ | fail) | ((fail_if_success refine Exists.intro (α := Nat → Nat → L2.St → Hp → Prop) ?_ ?_); (fail_if_success refine Exists.intro (α := L2.St → Hp → Prop) ?_ ?_); (fail_if_success refine Exists.intro (α := Nat → L2.St → Hp → Prop) ?_ ?_); apply Exists.intro) | ((refine And.intro ?_ ?_); first | with_reducible rfl | with_reducible assumption | rfl | ((with_reducible apply SqL.of); assumption) | ((with_reducible apply SqT.of); assumption) | ((with_reducible apply OwnC.cl); assumption) | (with_reducible exact isI_int _) | exact within_args | (with_reducible exact upd_same) | ((with_reducible apply Mid.o); assumption) | ((with_reducible apply Mid.t); assumption) | exact .inl ⟨rfl, _, SqL.of (by assumption)⟩ | (with_reducible exact ⟨_, SqT.of (by assumption)⟩) | (with_reducible exact ⟨_, SqL.of (by assumption)⟩) | omega | exact Nat.le_of_ble_eq_true rfl | exact nat9 (by omega) | exact ⟨_, rfl⟩ | (show _ ≤ sizeLine; decide) | exact ⟨by decide, by decide, by decide⟩ | exact .inl ⟨by decide, by decide⟩ | exact .inl ⟨by omega, by omega⟩ | exact .inr ⟨by omega, by omega⟩ | assumption | fail) | ((with_reducible refine iteF' ?_ ?_); first | rfl | exact decide_eq_false (by omega) | exact in_no (by omega) (by omega) | exact in_no (by omega) (by assumption) | (simp <;> fail) | fail) | ((with_reducible refine iteT' ?_ ?_); first | rfl | exact decide_eq_true (by omega) | (simp <;> fail) | fail))
        intro Ha ea Ta
        replace M := M.ext ea Ta
        replace kp := kp.ext ea
        replace kq := kq.ext ea
        repeat (first | (with_reducible refine st_tC ?_) | (with_reducible refine st_tOp ?_) | ((with_reducible apply st_n); rfl; rfl; (first | trivial | (show _ ≤ _; omega) | (show _ < _; omega) | (show _ ∨ _; omega) | assumption | exact ⟨by assumption, by omega⟩ | exact ⟨W30.one, by omega⟩ | fail); rfl) | (with_reducible refine st_i0 rfl rfl rfl ?_) | ((with_reducible refine st_i rfl rfl ?_ rfl ?_); first | omega | exact ⟨by decide, by decide, by decide⟩ | exact .inl ⟨by decide, by decide⟩ | exact .inl ⟨by omega, by omega⟩ | exact .inr ⟨by omega, by omega⟩ | fail) | ((fail_if_success refine Exists.intro (α := Nat → Nat → L2.St → Hp → Prop) ?_ ?_); (fail_if_success refine Exists.intro (α := L2.St → Hp → Prop) ?_ ?_); (fail_if_success refine Exists.intro (α := Nat → L2.St → Hp → Prop) ?_ ?_); apply Exists.intro) | ((refine And.intro ?_ ?_); first | with_reducible rfl | with_reducible assumption | rfl | ((with_reducible apply SqL.of); assumption) | ((with_reducible apply SqT.of); assumption) | ((with_reducible apply OwnC.cl); assumption) | (with_reducible exact isI_int _) | exact within_args | (with_reducible exact upd_same) | ((with_reducible apply Mid.o); assumption) | ((with_reducible apply Mid.t); assumption) | exact .inl ⟨rfl, _, SqL.of (by assumption)⟩ | (with_reducible exact ⟨_, SqT.of (by assumption)⟩) | (with_reducible exact ⟨_, SqL.of (by assumption)⟩) | omega | exact Nat.le_of_ble_eq_true rfl | exact nat9 (by omega) | exact ⟨_, rfl⟩ | (show _ ≤ sizeLine; decide) | exact ⟨by decide, by decide, by decide⟩ | exact .inl ⟨by decide, by decide⟩ | exact .inl ⟨by omega, by omega⟩ | exact .inr ⟨by omega, by omega⟩ | assumption | fail) | ((with_reducible refine iteF' ?_ ?_); first | rfl | exact decide_eq_false (by omega) | exact in_no (by omega) (by omega) | exact in_no (by omega) (by assumption) | (simp <;> fail) | fail) | ((with_reducible refine iteT' ?_ ?_); first | rfl | exact decide_eq_true (by omega) | (simp <;> fail) | fail))
        refine .inl ⟨badN _ kp, fun Hb Sb dd hdd => ⟨dd, rfl, .inl ⟨rfl, _, upd_same, fun t1 Hc Sc g_t1 => ?_⟩⟩⟩
        have Sd := (Sb.trans (same_new (o := .xd [(("part" : Str), .str "phases")]) hdd)).trans Sc
        replace M := M.same Sd; replace kq := kq.same Sd
        clear Sd Sc Sb hdd ea Ta kp badN
        repeat (first | (with_reducible refine st_tC ?_) | (with_reducible refine st_tOp ?_) | ((with_reducible apply st_n); rfl; rfl; (first | trivial | (show _ ≤ _; omega) | (show _ < _; omega) | (show _ ∨ _; omega) | assumption | exact ⟨by assumption, by omega⟩ | exact ⟨W30.one, by omega⟩ | fail); rfl) | (with_reducible refine st_i0 rfl rfl rfl ?_) | ((with_reducible refine st_i rfl rfl ?_ rfl ?_); first | omega | exact ⟨by decide, by decide, by decide⟩ | exact .inl ⟨by decide, by decide⟩ | exact .inl ⟨by omega, by omega⟩ | exact .inr ⟨by omega, by omega⟩ | fail) | ((fail_if_success refine Exists.intro (α := Nat → Nat → L2.St → Hp → Prop) ?_ ?_); (fail_if_success refine Exists.intro (α := L2.St → Hp → Prop) ?_ ?_); (fail_if_success refine Exists.intro (α := Nat → L2.St → Hp → Prop) ?_ ?_); apply Exists.intro) | ((refine And.intro ?_ ?_); first | with_reducible rfl | with_reducible assumption | rfl | ((with_reducible apply SqL.of); assumption) | ((with_reducible apply SqT.of); assumption) | ((with_reducible apply OwnC.cl); assumption) | (with_reducible exact isI_int _) | exact within_args | (with_reducible exact upd_same) | ((with_reducible apply Mid.o); assumption) | ((with_reducible apply Mid.t); assumption) | exact .inl ⟨rfl, _, SqL.of (by assumption)⟩ | (with_reducible exact ⟨_, SqT.of (by assumption)⟩) | (with_reducible exact ⟨_, SqL.of (by assumption)⟩) | omega | exact Nat.le_of_ble_eq_true rfl | exact nat9 (by omega) | exact ⟨_, rfl⟩ | (show _ ≤ sizeLine; decide) | exact ⟨by decide, by decide, by decide⟩ | exact .inl ⟨by decide, by decide⟩ | exact .inl ⟨by omega, by omega⟩ | exact .inr ⟨by omega, by omega⟩ | assumption | fail) | ((with_reducible refine iteF' ?_ ?_); first | rfl | exact decide_eq_false (by omega) | exact in_no (by omega) (by omega) | exact in_no (by omega) (by assumption) | (simp <;> fail) | fail) | ((with_reducible refine iteT' ?_ ?_); first | rfl | exact decide_eq_true (by omega) | (simp <;> fail) | fail))
        intro t2 h_t2; have np_t2 := M.pD h_t2; have nb_t2 := M.bD h_t2; generalize hE : upd _ t2 _ = H30; obtain ⟨S_t2, g_t2⟩ := new_facts h_t2 hE; clear hE; replace M := M.same S_t2; replace kq := kq.same S_t2; replace g_t1 := S_t2 _ _ g_t1
        have sh1 : SeqAt.shaped (.tuple [.str "phases", .str "phases"]) = true := by decide +kernel
        refine ⟨.tuple [.str "phases", .str "phases"], .tuple [.str "phases", .str "phases"], Dp.tup (SqT.of g_t1) (.cons (.str _) (.cons (.str _) .nil)), Dp.tup (SqT.of g_t2) (.cons (.str _) (.cons (.str _) .nil)), sh1, sh1, _, rfl, ?_⟩
        rw [SeqAt.eqv_refl _ (SeqAt.canLay_of_shaped sh1)]
        refine iteF' rfl ?_
        clear g_t1 g_t2 S_t2 h_t2 np_t2 nb_t2
        repeat (first | (with_reducible refine st_tC ?_) | (with_reducible refine st_tOp ?_) | ((with_reducible apply st_n); rfl; rfl; (first | trivial | (show _ ≤ _; omega) | (show _ < _; omega) | (show _ ∨ _; omega) | assumption | exact ⟨by assumption, by omega⟩ | exact ⟨W30.one, by omega⟩ | fail); rfl) | (with_reducible refine st_i0 rfl rfl rfl ?_) | ((with_reducible refine st_i rfl rfl ?_ rfl ?_); first | omega | exact ⟨by decide, by decide, by decide⟩ | exact .inl ⟨by decide, by decide⟩ | exact .inl ⟨by omega, by omega⟩ | exact .inr ⟨by omega, by omega⟩ | fail) | ((fail_if_success refine Exists.intro (α := Nat → Nat → L2.St → Hp → Prop) ?_ ?_); (fail_if_success refine Exists.intro (α := L2.St → Hp → Prop) ?_ ?_); (fail_if_success refine Exists.intro (α := Nat → L2.St → Hp → Prop) ?_ ?_); apply Exists.intro) | ((refine And.intro ?_ ?_); first | with_reducible rfl | with_reducible assumption | rfl | ((with_reducible apply SqL.of); assumption) | ((with_reducible apply SqT.of); assumption) | ((with_reducible apply OwnC.cl); assumption) | (with_reducible exact isI_int _) | exact within_args | (with_reducible exact upd_same) | ((with_reducible apply Mid.o); assumption) | ((with_reducible apply Mid.t); assumption) | exact .inl ⟨rfl, _, SqL.of (by assumption)⟩ | (with_reducible exact ⟨_, SqT.of (by assumption)⟩) | (with_reducible exact ⟨_, SqL.of (by assumption)⟩) | omega | exact Nat.le_of_ble_eq_true rfl | exact nat9 (by omega) | exact ⟨_, rfl⟩ | (show _ ≤ sizeLine; decide) | exact ⟨by decide, by decide, by decide⟩ | exact .inl ⟨by decide, by decide⟩ | exact .inl ⟨by omega, by omega⟩ | exact .inr ⟨by omega, by omega⟩ | assumption | fail) | ((with_reducible refine iteF' ?_ ?_); first | rfl | exact decide_eq_false (by omega) | exact in_no (by omega) (by omega) | exact in_no (by omega) (by assumption) | (simp <;> fail) | fail) | ((with_reducible refine iteT' ?_ ?_); first | rfl | exact decide_eq_true (by omega) | (simp <;> fail) | fail))
        intro Hd ea Ta
        replace M := M.ext ea Ta
        replace kq := kq.ext ea
        repeat (first | (with_reducible refine st_tC ?_) | (with_reducible refine st_tOp ?_) | ((with_reducible apply st_n); rfl; rfl; (first | trivial | (show _ ≤ _; omega) | (show _ < _; omega) | (show _ ∨ _; omega) | assumption | exact ⟨by assumption, by omega⟩ | exact ⟨W30.one, by omega⟩ | fail); rfl) | (with_reducible refine st_i0 rfl rfl rfl ?_) | ((with_reducible refine st_i rfl rfl ?_ rfl ?_); first | omega | exact ⟨by decide, by decide, by decide⟩ | exact .inl ⟨by decide, by decide⟩ | exact .inl ⟨by omega, by omega⟩ | exact .inr ⟨by omega, by omega⟩ | fail) | ((fail_if_success refine Exists.intro (α := Nat → Nat → L2.St → Hp → Prop) ?_ ?_); (fail_if_success refine Exists.intro (α := L2.St → Hp → Prop) ?_ ?_); (fail_if_success refine Exists.intro (α := Nat → L2.St → Hp → Prop) ?_ ?_); apply Exists.intro) | ((refine And.intro ?_ ?_); first | with_reducible rfl | with_reducible assumption | rfl | ((with_reducible apply SqL.of); assumption) | ((with_reducible apply SqT.of); assumption) | ((with_reducible apply OwnC.cl); assumption) | (with_reducible exact isI_int _) | exact within_args | (with_reducible exact upd_same) | ((with_reducible apply Mid.o); assumption) | ((with_reducible apply Mid.t); assumption) | exact .inl ⟨rfl, _, SqL.of (by assumption)⟩ | (with_reducible exact ⟨_, SqT.of (by assumption)⟩) | (with_reducible exact ⟨_, SqL.of (by assumption)⟩) | omega | exact Nat.le_of_ble_eq_true rfl | exact nat9 (by omega) | exact ⟨_, rfl⟩ | (show _ ≤ sizeLine; decide) | exact ⟨by decide, by decide, by decide⟩ | exact .inl ⟨by decide, by decide⟩ | exact .inl ⟨by omega, by omega⟩ | exact .inr ⟨by omega, by omega⟩ | assumption | fail) | ((with_reducible refine iteF' ?_ ?_); first | rfl | exact decide_eq_false (by omega) | exact in_no (by omega) (by omega) | exact in_no (by omega) (by assumption) | (simp <;> fail) | fail) | ((with_reducible refine iteT' ?_ ?_); first | rfl | exact decide_eq_true (by omega) | (simp <;> fail) | fail))
        refine .inl ⟨badS _ kq, fun dd hdd => ⟨dd, rfl, .inr ⟨rfl, 0, 0, upd_same, fun t3 He Se g_t3 => ?_⟩⟩⟩
        repeat (first | (with_reducible refine st_tC ?_) | (with_reducible refine st_tOp ?_) | ((with_reducible apply st_n); rfl; rfl; (first | trivial | (show _ ≤ _; omega) | (show _ < _; omega) | (show _ ∨ _; omega) | assumption | exact ⟨by assumption, by omega⟩ | exact ⟨W30.one, by omega⟩ | fail); rfl) | (with_reducible refine st_i0 rfl rfl rfl ?_) | ((with_reducible refine st_i rfl rfl ?_ rfl ?_); first | omega | exact ⟨by decide, by decide, by decide⟩ | exact .inl ⟨by decide, by decide⟩ | exact .inl ⟨by omega, by omega⟩ | exact .inr ⟨by omega, by omega⟩ | fail) | ((fail_if_success refine Exists.intro (α := Nat → Nat → L2.St → Hp → Prop) ?_ ?_); (fail_if_success refine Exists.intro (α := L2.St → Hp → Prop) ?_ ?_); (fail_if_success refine Exists.intro (α := Nat → L2.St → Hp → Prop) ?_ ?_); apply Exists.intro) | ((refine And.intro ?_ ?_); first | with_reducible rfl | with_reducible assumption | rfl | ((with_reducible apply SqL.of); assumption) | ((with_reducible apply SqT.of); assumption) | ((with_reducible apply OwnC.cl); assumption) | (with_reducible exact isI_int _) | exact within_args | (with_reducible exact upd_same) | ((with_reducible apply Mid.o); assumption) | ((with_reducible apply Mid.t); assumption) | exact .inl ⟨rfl, _, SqL.of (by assumption)⟩ | (with_reducible exact ⟨_, SqT.of (by assumption)⟩) | (with_reducible exact ⟨_, SqL.of (by assumption)⟩) | omega | exact Nat.le_of_ble_eq_true rfl | exact nat9 (by omega) | exact ⟨_, rfl⟩ | (show _ ≤ sizeLine; decide) | exact ⟨by decide, by decide, by decide⟩ | exact .inl ⟨by decide, by decide⟩ | exact .inl ⟨by omega, by omega⟩ | exact .inr ⟨by omega, by omega⟩ | assumption | fail) | ((with_reducible refine iteF' ?_ ?_); first | rfl | exact decide_eq_false (by omega) | exact in_no (by omega) (by omega) | exact in_no (by omega) (by assumption) | (simp <;> fail) | fail) | ((with_reducible refine iteT' ?_ ?_); first | rfl | exact decide_eq_true (by omega) | (simp <;> fail) | fail))
        intro t4 h_t4; generalize hE : upd _ t4 _ = H31; obtain ⟨S_t4, g_t4⟩ := new_facts h_t4 hE; clear hE; replace g_t3 := S_t4 _ _ g_t3
        have sh2 : SeqAt.shaped (.tuple [.str "text", .int 0, .int 0]) = true := by decide +kernel
        refine ⟨.tuple [.str "text", .int 0, .int 0], .tuple [.str "text", .int 0, .int 0], Dp.tup (SqT.of g_t3) (.cons (.str _) (.cons (.int _) (.cons (.int _) .nil))), Dp.tup (SqT.of g_t4) (.cons (.str _) (.cons (.int _) (.cons (.int _) .nil))), sh2, sh2, ?_⟩
        rw [SeqAt.eqv_refl _ (SeqAt.canLay_of_shaped sh2)]
        exact k _
    obtain ⟨t, h1, h2⟩ := t0
    exact ⟨t, h1.nox, h2⟩
end
end K46
namespace K46
open PySem PySem.Spec PyProof.Rows L2 OB SkE LamX ClX
theorem all_mk {l : PySem.W.OpenLaw} {w : World} {K : PySem.W.Frag} {h : Heap} {mg : Str → Option Value} {fa f_is_integer f_is_within f_is_list f_are_unlike f_is_lot f_is_phases f_need_phases f_items_of f_integer_of f_item_at f_integer_at f_need_end f_phases_text f_phases_read f__law_quarry f__law_chip f__law_pick f__law_mixed f__law_phases f__law_items f__law_is_bit f__law_stop f__law_bent f__law_heard f__law_text_right f_law CF C_BadPhases fi_BadPhases N_BadPhases C_BadText fi_BadText N_BadText c1 Pt1 c2 Pt2 : Addr} {cd_is_integer oc_is_integer kV_is_integer dc_is_integer pm_is_integer ct_is_integer cd_is_within oc_is_within kV_is_within dc_is_within pm_is_within ct_is_within cd_is_list oc_is_list kV_is_list dc_is_list pm_is_list ct_is_list cd_are_unlike oc_are_unlike kV_are_unlike dc_are_unlike pm_are_unlike ct_are_unlike cd_is_lot oc_is_lot kV_is_lot dc_is_lot pm_is_lot ct_is_lot cd_is_phases oc_is_phases kV_is_phases dc_is_phases pm_is_phases ct_is_phases cd_need_phases oc_need_phases kV_need_phases dc_need_phases pm_need_phases ct_need_phases cd_items_of oc_items_of kV_items_of dc_items_of pm_items_of ct_items_of cd_integer_of oc_integer_of kV_integer_of dc_integer_of pm_integer_of ct_integer_of cd_item_at oc_item_at kV_item_at dc_item_at pm_item_at ct_item_at cd_integer_at oc_integer_at kV_integer_at dc_integer_at pm_integer_at ct_integer_at cd_need_end oc_need_end kV_need_end dc_need_end pm_need_end ct_need_end cd_phases_text oc_phases_text kV_phases_text dc_phases_text pm_phases_text ct_phases_text cd_phases_read oc_phases_read kV_phases_read dc_phases_read pm_phases_read ct_phases_read cd__law_quarry oc__law_quarry kV__law_quarry dc__law_quarry pm__law_quarry ct__law_quarry cd__law_chip oc__law_chip kV__law_chip dc__law_chip pm__law_chip ct__law_chip cd__law_pick oc__law_pick kV__law_pick dc__law_pick pm__law_pick ct__law_pick cd__law_mixed oc__law_mixed kV__law_mixed dc__law_mixed pm__law_mixed ct__law_mixed cd__law_phases oc__law_phases kV__law_phases dc__law_phases pm__law_phases ct__law_phases cd__law_items oc__law_items kV__law_items dc__law_items pm__law_items ct__law_items cd__law_is_bit oc__law_is_bit kV__law_is_bit dc__law_is_bit pm__law_is_bit ct__law_is_bit cd__law_stop oc__law_stop kV__law_stop dc__law_stop pm__law_stop ct__law_stop cd__law_bent oc__law_bent kV__law_bent dc__law_bent pm__law_bent ct__law_bent cd__law_heard oc__law_heard kV__law_heard dc__law_heard pm__law_heard ct__law_heard oc__law_text_right kV__law_text_right dc__law_text_right pm__law_text_right ct__law_text_right oc_law kV_law dc_law pm_law ct_law oi_BadPhases kVi_BadPhases dci_BadPhases pmi_BadPhases cti_BadPhases cdi_BadPhases oi_BadText kVi_BadText dci_BadText pmi_BadText cti_BadText cdi_BadText : Value} {od_is_integer an_is_integer od_is_within an_is_within od_is_list an_is_list od_are_unlike an_are_unlike od_is_lot an_is_lot od_is_phases an_is_phases od_need_phases an_need_phases od_items_of an_items_of od_integer_of an_integer_of od_item_at an_item_at od_integer_at an_integer_at od_need_end an_need_end od_phases_text an_phases_text od_phases_read an_phases_read od__law_quarry an__law_quarry od__law_chip an__law_chip od__law_pick an__law_pick od__law_mixed an__law_mixed od__law_phases an__law_phases od__law_items an__law_items od__law_is_bit an__law_is_bit od__law_stop an__law_stop od__law_bent an__law_bent od__law_heard an__law_heard od__law_text_right an__law_text_right od_law an_law odi_BadPhases ani_BadPhases dd_BadPhases odi_BadText ani_BadText dd_BadText odC1 odC2 : Option Addr} {sl_is_integer sl_is_within sl_is_list sl_are_unlike sl_is_lot sl_is_phases sl_need_phases sl_items_of sl_integer_of sl_item_at sl_integer_at sl_need_end sl_phases_text sl_phases_read sl__law_quarry sl__law_chip sl__law_pick sl__law_mixed sl__law_phases sl__law_items sl__law_is_bit sl__law_stop sl__law_bent sl__law_heard sl__law_text_right sl_law sli_BadPhases sli_BadText slC1 slC2 : Array (Option Value)} {vsC1 vsC2 : Array Value} {t_MOST_BIT t_MOST_DIGITS t_BAR t_NO_PHASE : Tok} {nm_BadPhases q_BadPhases : Str} {bs_BadPhases sub_BadPhases : List Value} {sn_BadPhases : List Str} {ab_BadPhases : Bool} {col_BadPhases : Option Bool} {m0_BadPhases m1_BadPhases m2_BadPhases m3_BadPhases m5_BadPhases : Option Value} {nm_BadText q_BadText : Str} {bs_BadText sub_BadText : List Value} {sn_BadText : List Str} {ab_BadText : Bool} {col_BadText : Option Bool} {m0_BadText m1_BadText m2_BadText m3_BadText m5_BadText : Option Value}
    (X : K.In h) (G : h.Ns mainGlobals mg) (hfa : mg "law" = some (.ref fa))
    (a_is_integer : PySem.W.nsIn K mainGlobals "is_integer" = some (some (.ref f_is_integer)))
    (l_is_integer : K.lookup f_is_integer = some ⟨oc_is_integer, od_is_integer, .func (PySem.W.fnOf "is_integer" "is_integer" (defArgs s_is_integer) (defBody s_is_integer) (defScope s_is_integer) .none kV_is_integer dc_is_integer pm_is_integer an_is_integer cd_is_integer ct_is_integer), sl_is_integer⟩)
    (c_is_integer : PySem.W.codeIn K cd_is_integer "is_integer" = true)
    (k_is_integer : PySem.W.keepIn K (.ref f_is_integer) = true)
    (a_is_within : PySem.W.nsIn K mainGlobals "is_within" = some (some (.ref f_is_within)))
    (l_is_within : K.lookup f_is_within = some ⟨oc_is_within, od_is_within, .func (PySem.W.fnOf "is_within" "is_within" (defArgs s_is_within) (defBody s_is_within) (defScope s_is_within) .none kV_is_within dc_is_within pm_is_within an_is_within cd_is_within ct_is_within), sl_is_within⟩)
    (c_is_within : PySem.W.codeIn K cd_is_within "is_within" = true)
    (k_is_within : PySem.W.keepIn K (.ref f_is_within) = true)
    (a_is_list : PySem.W.nsIn K mainGlobals "is_list" = some (some (.ref f_is_list)))
    (l_is_list : K.lookup f_is_list = some ⟨oc_is_list, od_is_list, .func (PySem.W.fnOf "is_list" "is_list" (defArgs s_is_list) (defBody s_is_list) (defScope s_is_list) .none kV_is_list dc_is_list pm_is_list an_is_list cd_is_list ct_is_list), sl_is_list⟩)
    (c_is_list : PySem.W.codeIn K cd_is_list "is_list" = true)
    (k_is_list : PySem.W.keepIn K (.ref f_is_list) = true)
    (a_are_unlike : PySem.W.nsIn K mainGlobals "are_unlike" = some (some (.ref f_are_unlike)))
    (l_are_unlike : K.lookup f_are_unlike = some ⟨oc_are_unlike, od_are_unlike, .func (PySem.W.fnOf "are_unlike" "are_unlike" (defArgs s_are_unlike) (defBody s_are_unlike) (defScope s_are_unlike) .none kV_are_unlike dc_are_unlike pm_are_unlike an_are_unlike cd_are_unlike ct_are_unlike), sl_are_unlike⟩)
    (c_are_unlike : PySem.W.codeIn K cd_are_unlike "are_unlike" = true)
    (k_are_unlike : PySem.W.keepIn K (.ref f_are_unlike) = true)
    (a_is_lot : PySem.W.nsIn K mainGlobals "is_lot" = some (some (.ref f_is_lot)))
    (l_is_lot : K.lookup f_is_lot = some ⟨oc_is_lot, od_is_lot, .func (PySem.W.fnOf "is_lot" "is_lot" (defArgs s_is_lot) (defBody s_is_lot) (defScope s_is_lot) .none kV_is_lot dc_is_lot pm_is_lot an_is_lot cd_is_lot ct_is_lot), sl_is_lot⟩)
    (c_is_lot : PySem.W.codeIn K cd_is_lot "is_lot" = true)
    (k_is_lot : PySem.W.keepIn K (.ref f_is_lot) = true)
    (a_is_phases : PySem.W.nsIn K mainGlobals "is_phases" = some (some (.ref f_is_phases)))
    (l_is_phases : K.lookup f_is_phases = some ⟨oc_is_phases, od_is_phases, .func (PySem.W.fnOf "is_phases" "is_phases" (defArgs s_is_phases) (defBody s_is_phases) (defScope s_is_phases) .none kV_is_phases dc_is_phases pm_is_phases an_is_phases cd_is_phases ct_is_phases), sl_is_phases⟩)
    (c_is_phases : PySem.W.codeIn K cd_is_phases "is_phases" = true)
    (k_is_phases : PySem.W.keepIn K (.ref f_is_phases) = true)
    (a_need_phases : PySem.W.nsIn K mainGlobals "need_phases" = some (some (.ref f_need_phases)))
    (l_need_phases : K.lookup f_need_phases = some ⟨oc_need_phases, od_need_phases, .func (PySem.W.fnOf "need_phases" "need_phases" (defArgs s_need_phases) (defBody s_need_phases) (defScope s_need_phases) .none kV_need_phases dc_need_phases pm_need_phases an_need_phases cd_need_phases ct_need_phases), sl_need_phases⟩)
    (c_need_phases : PySem.W.codeIn K cd_need_phases "need_phases" = true)
    (k_need_phases : PySem.W.keepIn K (.ref f_need_phases) = true)
    (a_items_of : PySem.W.nsIn K mainGlobals "items_of" = some (some (.ref f_items_of)))
    (l_items_of : K.lookup f_items_of = some ⟨oc_items_of, od_items_of, .func (PySem.W.fnOf "items_of" "items_of" (defArgs s_items_of) (defBody s_items_of) (defScope s_items_of) .none kV_items_of dc_items_of pm_items_of an_items_of cd_items_of ct_items_of), sl_items_of⟩)
    (c_items_of : PySem.W.codeIn K cd_items_of "items_of" = true)
    (k_items_of : PySem.W.keepIn K (.ref f_items_of) = true)
    (a_integer_of : PySem.W.nsIn K mainGlobals "integer_of" = some (some (.ref f_integer_of)))
    (l_integer_of : K.lookup f_integer_of = some ⟨oc_integer_of, od_integer_of, .func (PySem.W.fnOf "integer_of" "integer_of" (defArgs s_integer_of) (defBody s_integer_of) (defScope s_integer_of) .none kV_integer_of dc_integer_of pm_integer_of an_integer_of cd_integer_of ct_integer_of), sl_integer_of⟩)
    (c_integer_of : PySem.W.codeIn K cd_integer_of "integer_of" = true)
    (k_integer_of : PySem.W.keepIn K (.ref f_integer_of) = true)
    (a_item_at : PySem.W.nsIn K mainGlobals "item_at" = some (some (.ref f_item_at)))
    (l_item_at : K.lookup f_item_at = some ⟨oc_item_at, od_item_at, .func (PySem.W.fnOf "item_at" "item_at" (defArgs s_item_at) (defBody s_item_at) (defScope s_item_at) .none kV_item_at dc_item_at pm_item_at an_item_at cd_item_at ct_item_at), sl_item_at⟩)
    (c_item_at : PySem.W.codeIn K cd_item_at "item_at" = true)
    (k_item_at : PySem.W.keepIn K (.ref f_item_at) = true)
    (a_integer_at : PySem.W.nsIn K mainGlobals "integer_at" = some (some (.ref f_integer_at)))
    (l_integer_at : K.lookup f_integer_at = some ⟨oc_integer_at, od_integer_at, .func (PySem.W.fnOf "integer_at" "integer_at" (defArgs s_integer_at) (defBody s_integer_at) (defScope s_integer_at) .none kV_integer_at dc_integer_at pm_integer_at an_integer_at cd_integer_at ct_integer_at), sl_integer_at⟩)
    (c_integer_at : PySem.W.codeIn K cd_integer_at "integer_at" = true)
    (k_integer_at : PySem.W.keepIn K (.ref f_integer_at) = true)
    (a_need_end : PySem.W.nsIn K mainGlobals "need_end" = some (some (.ref f_need_end)))
    (l_need_end : K.lookup f_need_end = some ⟨oc_need_end, od_need_end, .func (PySem.W.fnOf "need_end" "need_end" (defArgs s_need_end) (defBody s_need_end) (defScope s_need_end) .none kV_need_end dc_need_end pm_need_end an_need_end cd_need_end ct_need_end), sl_need_end⟩)
    (c_need_end : PySem.W.codeIn K cd_need_end "need_end" = true)
    (k_need_end : PySem.W.keepIn K (.ref f_need_end) = true)
    (a_phases_text : PySem.W.nsIn K mainGlobals "phases_text" = some (some (.ref f_phases_text)))
    (l_phases_text : K.lookup f_phases_text = some ⟨oc_phases_text, od_phases_text, .func (PySem.W.fnOf "phases_text" "phases_text" (defArgs s_phases_text) (defBody s_phases_text) (defScope s_phases_text) .none kV_phases_text dc_phases_text pm_phases_text an_phases_text cd_phases_text ct_phases_text), sl_phases_text⟩)
    (c_phases_text : PySem.W.codeIn K cd_phases_text "phases_text" = true)
    (k_phases_text : PySem.W.keepIn K (.ref f_phases_text) = true)
    (a_phases_read : PySem.W.nsIn K mainGlobals "phases_read" = some (some (.ref f_phases_read)))
    (l_phases_read : K.lookup f_phases_read = some ⟨oc_phases_read, od_phases_read, .func (PySem.W.fnOf "phases_read" "phases_read" (defArgs s_phases_read) (defBody s_phases_read) (defScope s_phases_read) .none kV_phases_read dc_phases_read pm_phases_read an_phases_read cd_phases_read ct_phases_read), sl_phases_read⟩)
    (c_phases_read : PySem.W.codeIn K cd_phases_read "phases_read" = true)
    (k_phases_read : PySem.W.keepIn K (.ref f_phases_read) = true)
    (a__law_quarry : PySem.W.nsIn K mainGlobals "_law_quarry" = some (some (.ref f__law_quarry)))
    (l__law_quarry : K.lookup f__law_quarry = some ⟨oc__law_quarry, od__law_quarry, .func (PySem.W.fnOf "_law_quarry" "_law_quarry" (defArgs s__law_quarry) (defBody s__law_quarry) (defScope s__law_quarry) .none kV__law_quarry dc__law_quarry pm__law_quarry an__law_quarry cd__law_quarry ct__law_quarry), sl__law_quarry⟩)
    (c__law_quarry : PySem.W.codeIn K cd__law_quarry "_law_quarry" = true)
    (k__law_quarry : PySem.W.keepIn K (.ref f__law_quarry) = true)
    (a__law_chip : PySem.W.nsIn K mainGlobals "_law_chip" = some (some (.ref f__law_chip)))
    (l__law_chip : K.lookup f__law_chip = some ⟨oc__law_chip, od__law_chip, .func (PySem.W.fnOf "_law_chip" "_law_chip" (defArgs s__law_chip) (defBody s__law_chip) (defScope s__law_chip) .none kV__law_chip dc__law_chip pm__law_chip an__law_chip cd__law_chip ct__law_chip), sl__law_chip⟩)
    (c__law_chip : PySem.W.codeIn K cd__law_chip "_law_chip" = true)
    (k__law_chip : PySem.W.keepIn K (.ref f__law_chip) = true)
    (a__law_pick : PySem.W.nsIn K mainGlobals "_law_pick" = some (some (.ref f__law_pick)))
    (l__law_pick : K.lookup f__law_pick = some ⟨oc__law_pick, od__law_pick, .func (PySem.W.fnOf "_law_pick" "_law_pick" (defArgs s__law_pick) (defBody s__law_pick) (defScope s__law_pick) .none kV__law_pick dc__law_pick pm__law_pick an__law_pick cd__law_pick ct__law_pick), sl__law_pick⟩)
    (c__law_pick : PySem.W.codeIn K cd__law_pick "_law_pick" = true)
    (k__law_pick : PySem.W.keepIn K (.ref f__law_pick) = true)
    (a__law_mixed : PySem.W.nsIn K mainGlobals "_law_mixed" = some (some (.ref f__law_mixed)))
    (l__law_mixed : K.lookup f__law_mixed = some ⟨oc__law_mixed, od__law_mixed, .func (PySem.W.fnOf "_law_mixed" "_law_mixed" (defArgs s__law_mixed) (defBody s__law_mixed) (defScope s__law_mixed) .none kV__law_mixed dc__law_mixed pm__law_mixed an__law_mixed cd__law_mixed ct__law_mixed), sl__law_mixed⟩)
    (c__law_mixed : PySem.W.codeIn K cd__law_mixed "_law_mixed" = true)
    (k__law_mixed : PySem.W.keepIn K (.ref f__law_mixed) = true)
    (a__law_phases : PySem.W.nsIn K mainGlobals "_law_phases" = some (some (.ref f__law_phases)))
    (l__law_phases : K.lookup f__law_phases = some ⟨oc__law_phases, od__law_phases, .func (PySem.W.fnOf "_law_phases" "_law_phases" (defArgs s__law_phases) (defBody s__law_phases) (defScope s__law_phases) .none kV__law_phases dc__law_phases pm__law_phases an__law_phases cd__law_phases ct__law_phases), sl__law_phases⟩)
    (c__law_phases : PySem.W.codeIn K cd__law_phases "_law_phases" = true)
    (k__law_phases : PySem.W.keepIn K (.ref f__law_phases) = true)
    (a__law_items : PySem.W.nsIn K mainGlobals "_law_items" = some (some (.ref f__law_items)))
    (l__law_items : K.lookup f__law_items = some ⟨oc__law_items, od__law_items, .func (PySem.W.fnOf "_law_items" "_law_items" (defArgs s__law_items) (defBody s__law_items) (defScope s__law_items) .none kV__law_items dc__law_items pm__law_items an__law_items cd__law_items ct__law_items), sl__law_items⟩)
    (c__law_items : PySem.W.codeIn K cd__law_items "_law_items" = true)
    (k__law_items : PySem.W.keepIn K (.ref f__law_items) = true)
    (a__law_is_bit : PySem.W.nsIn K mainGlobals "_law_is_bit" = some (some (.ref f__law_is_bit)))
    (l__law_is_bit : K.lookup f__law_is_bit = some ⟨oc__law_is_bit, od__law_is_bit, .func (PySem.W.fnOf "_law_is_bit" "_law_is_bit" (defArgs s__law_is_bit) (defBody s__law_is_bit) (defScope s__law_is_bit) .none kV__law_is_bit dc__law_is_bit pm__law_is_bit an__law_is_bit cd__law_is_bit ct__law_is_bit), sl__law_is_bit⟩)
    (c__law_is_bit : PySem.W.codeIn K cd__law_is_bit "_law_is_bit" = true)
    (k__law_is_bit : PySem.W.keepIn K (.ref f__law_is_bit) = true)
    (a__law_stop : PySem.W.nsIn K mainGlobals "_law_stop" = some (some (.ref f__law_stop)))
    (l__law_stop : K.lookup f__law_stop = some ⟨oc__law_stop, od__law_stop, .func (PySem.W.fnOf "_law_stop" "_law_stop" (defArgs s__law_stop) (defBody s__law_stop) (defScope s__law_stop) .none kV__law_stop dc__law_stop pm__law_stop an__law_stop cd__law_stop ct__law_stop), sl__law_stop⟩)
    (c__law_stop : PySem.W.codeIn K cd__law_stop "_law_stop" = true)
    (k__law_stop : PySem.W.keepIn K (.ref f__law_stop) = true)
    (a__law_bent : PySem.W.nsIn K mainGlobals "_law_bent" = some (some (.ref f__law_bent)))
    (l__law_bent : K.lookup f__law_bent = some ⟨oc__law_bent, od__law_bent, .func (PySem.W.fnOf "_law_bent" "_law_bent" (defArgs s__law_bent) (defBody s__law_bent) (defScope s__law_bent) .none kV__law_bent dc__law_bent pm__law_bent an__law_bent cd__law_bent ct__law_bent), sl__law_bent⟩)
    (c__law_bent : PySem.W.codeIn K cd__law_bent "_law_bent" = true)
    (k__law_bent : PySem.W.keepIn K (.ref f__law_bent) = true)
    (a__law_heard : PySem.W.nsIn K mainGlobals "_law_heard" = some (some (.ref f__law_heard)))
    (l__law_heard : K.lookup f__law_heard = some ⟨oc__law_heard, od__law_heard, .func (PySem.W.fnOf "_law_heard" "_law_heard" (defArgs s__law_heard) (defBody s__law_heard) (defScope s__law_heard) .none kV__law_heard dc__law_heard pm__law_heard an__law_heard cd__law_heard ct__law_heard), sl__law_heard⟩)
    (c__law_heard : PySem.W.codeIn K cd__law_heard "_law_heard" = true)
    (k__law_heard : PySem.W.keepIn K (.ref f__law_heard) = true)
    (a__law_text_right : PySem.W.nsIn K mainGlobals "_law_text_right" = some (some (.ref f__law_text_right)))
    (l__law_text_right : K.lookup f__law_text_right = some ⟨oc__law_text_right, od__law_text_right, .func (PySem.W.fnOf "_law_text_right" "_law_text_right" (defArgs s__law_text_right) (defBody s__law_text_right) (defScope s__law_text_right) .none kV__law_text_right dc__law_text_right pm__law_text_right an__law_text_right (.ref c1) ct__law_text_right), sl__law_text_right⟩)
    (c__law_text_right : PySem.W.codeIn K (.ref c1) "_law_text_right" = true)
    (k__law_text_right : PySem.W.keepIn K (.ref f__law_text_right) = true)
    (a_law : PySem.W.nsIn K mainGlobals "law" = some (some (.ref f_law)))
    (l_law : K.lookup f_law = some ⟨oc_law, od_law, .func (PySem.W.fnOf "law" "law" (defArgs s_law) (defBody s_law) (defScope s_law) .none kV_law dc_law pm_law an_law (.ref c2) ct_law), sl_law⟩)
    (c_law : PySem.W.codeIn K (.ref c2) "law" = true)
    (k_law : PySem.W.keepIn K (.ref f_law) = true)
    (aF : PySem.W.nsIn K mainGlobals "FlipError" = some (some (.ref CF)))
    (eF : PySem.W.subIn K (.ref CF) (.type "BaseException") = some true)
    (dF : PySem.W.hasDictIn K CF = true)
    (tF : PySem.W.typeIn K (.ref CF) = some (.type "type"))
    (a_BadPhases : PySem.W.nsIn K mainGlobals "BadPhases" = some (some (.ref C_BadPhases)))
    (x_BadPhases : K.lookup C_BadPhases = some (excClassObj nm_BadPhases q_BadPhases C_BadPhases N_BadPhases bs_BadPhases [.ref CF, .type "ValueError", .type "Exception", .type "BaseException", .type "object"] true sn_BadPhases sub_BadPhases ab_BadPhases col_BadPhases dd_BadPhases m0_BadPhases m1_BadPhases m2_BadPhases m3_BadPhases m5_BadPhases "ValueError.__new__"))
    (sa_BadPhases : PySem.W.findIn K (.ref C_BadPhases) "__setattr__" = some (some (.builtin "object.__setattr__")))
    (e_BadPhases : PySem.W.subIn K (.ref C_BadPhases) (.type "BaseException") = some true)
    (t_BadPhases : PySem.W.typeIn K (.ref C_BadPhases) = some (.type "type"))
    (k_BadPhases : PySem.W.keepIn K (.ref C_BadPhases) = true)
    (i_BadPhases : PySem.W.findIn K (.ref C_BadPhases) "__init__" = some (some (.ref fi_BadPhases)))
    (ti_BadPhases : PySem.W.typeIn K (.ref fi_BadPhases) = some (.type "function"))
    (li_BadPhases : K.lookup fi_BadPhases = some ⟨oi_BadPhases, odi_BadPhases, .func (PySem.W.fnOf "__init__" "BadPhases.__init__" (defArgs s_init_BadPhases) (defBody s_init_BadPhases) (defScope s_init_BadPhases) .none kVi_BadPhases dci_BadPhases pmi_BadPhases ani_BadPhases cdi_BadPhases cti_BadPhases), sli_BadPhases⟩)
    (ci_BadPhases : PySem.W.codeIn K cdi_BadPhases "BadPhases.__init__" = true)
    (ki_BadPhases : PySem.W.keepIn K (.ref fi_BadPhases) = true)
    (no_BadPhases_part : PySem.W.findIn K (.ref C_BadPhases) "part" = some none)
    (ga_BadPhases : PySem.W.findIn K (.ref C_BadPhases) "__getattribute__" = some (some (.builtin "BaseException.__getattribute__")))
    (gg_BadPhases : PySem.W.findIn K (.ref C_BadPhases) "__getattr__" = some none)
    (hd_BadPhases : PySem.W.hasDictIn K C_BadPhases = true)
    (ha_BadPhases : PySem.W.findIn K (.ref C_BadPhases) "__class__" = some (some (.builtin "object.__class__")))
    (hm_BadPhases : PySem.W.mroIn K C_BadPhases (.type "object") = some true)
    (sf_BadPhases : PySem.W.subIn K (.ref C_BadPhases) (.ref CF) = some true)
    (is_BadPhases : PySem.W.isClsIn K C_BadPhases = true)
    (z_BadPhases : PySem.W.subIn K (.type "NoneType") (.ref C_BadPhases) = some false)
    (a_BadText : PySem.W.nsIn K mainGlobals "BadText" = some (some (.ref C_BadText)))
    (x_BadText : K.lookup C_BadText = some (excClassObj nm_BadText q_BadText C_BadText N_BadText bs_BadText [.ref CF, .type "ValueError", .type "Exception", .type "BaseException", .type "object"] true sn_BadText sub_BadText ab_BadText col_BadText dd_BadText m0_BadText m1_BadText m2_BadText m3_BadText m5_BadText "ValueError.__new__"))
    (sa_BadText : PySem.W.findIn K (.ref C_BadText) "__setattr__" = some (some (.builtin "object.__setattr__")))
    (e_BadText : PySem.W.subIn K (.ref C_BadText) (.type "BaseException") = some true)
    (t_BadText : PySem.W.typeIn K (.ref C_BadText) = some (.type "type"))
    (k_BadText : PySem.W.keepIn K (.ref C_BadText) = true)
    (i_BadText : PySem.W.findIn K (.ref C_BadText) "__init__" = some (some (.ref fi_BadText)))
    (ti_BadText : PySem.W.typeIn K (.ref fi_BadText) = some (.type "function"))
    (li_BadText : K.lookup fi_BadText = some ⟨oi_BadText, odi_BadText, .func (PySem.W.fnOf "__init__" "BadText.__init__" (defArgs s_init_BadText) (defBody s_init_BadText) (defScope s_init_BadText) .none kVi_BadText dci_BadText pmi_BadText ani_BadText cdi_BadText cti_BadText), sli_BadText⟩)
    (ci_BadText : PySem.W.codeIn K cdi_BadText "BadText.__init__" = true)
    (ki_BadText : PySem.W.keepIn K (.ref fi_BadText) = true)
    (no_BadText_line : PySem.W.findIn K (.ref C_BadText) "line" = some none)
    (no_BadText_item : PySem.W.findIn K (.ref C_BadText) "item" = some none)
    (ga_BadText : PySem.W.findIn K (.ref C_BadText) "__getattribute__" = some (some (.builtin "BaseException.__getattribute__")))
    (gg_BadText : PySem.W.findIn K (.ref C_BadText) "__getattr__" = some none)
    (hd_BadText : PySem.W.hasDictIn K C_BadText = true)
    (ha_BadText : PySem.W.findIn K (.ref C_BadText) "__class__" = some (some (.builtin "object.__class__")))
    (hm_BadText : PySem.W.mroIn K C_BadText (.type "object") = some true)
    (sf_BadText : PySem.W.subIn K (.ref C_BadText) (.ref CF) = some true)
    (is_BadText : PySem.W.isClsIn K C_BadText = true)
    (z_BadText : PySem.W.subIn K (.type "NoneType") (.ref C_BadText) = some false)
    (sub_BadPhases_BadPhases : PySem.W.subIn K (.ref C_BadPhases) (.ref C_BadPhases) = some true)
    (sub_BadPhases_BadText : PySem.W.subIn K (.ref C_BadPhases) (.ref C_BadText) = some false)
    (sub_BadText_BadPhases : PySem.W.subIn K (.ref C_BadText) (.ref C_BadPhases) = some false)
    (sub_BadText_BadText : PySem.W.subIn K (.ref C_BadText) (.ref C_BadText) = some true)
    (spn : PySem.W.specialIn K (.builtin "object.__class__") "__get__" = some (some (.builtin "getset_descriptor.__get__")))
    (tkn : PySem.W.takesIn K (.builtin "object.__class__") = some true)
    (a_MOST_BIT : PySem.W.nsIn K mainGlobals "MOST_BIT" = some (some (.int 20000 t_MOST_BIT)))
    (a_MOST_DIGITS : PySem.W.nsIn K mainGlobals "MOST_DIGITS" = some (some (.int 140 t_MOST_DIGITS)))
    (a_BAR : PySem.W.nsIn K mainGlobals "BAR" = some (some (.str "|" t_BAR)))
    (a_NO_PHASE : PySem.W.nsIn K mainGlobals "NO_PHASE" = some (some (.str "-" t_NO_PHASE)))
    (n_abs : PySem.W.nsIn K mainGlobals "abs" = some none)
    (n_all : PySem.W.nsIn K mainGlobals "all" = some none)
    (n_bool : PySem.W.nsIn K mainGlobals "bool" = some none)
    (n_enumerate : PySem.W.nsIn K mainGlobals "enumerate" = some none)
    (n_int : PySem.W.nsIn K mainGlobals "int" = some none)
    (n_isinstance : PySem.W.nsIn K mainGlobals "isinstance" = some none)
    (n_len : PySem.W.nsIn K mainGlobals "len" = some none)
    (n_list : PySem.W.nsIn K mainGlobals "list" = some none)
    (n_range : PySem.W.nsIn K mainGlobals "range" = some none)
    (n_repr : PySem.W.nsIn K mainGlobals "repr" = some none)
    (n_set : PySem.W.nsIn K mainGlobals "set" = some none)
    (n_sorted : PySem.W.nsIn K mainGlobals "sorted" = some none)
    (n_str : PySem.W.nsIn K mainGlobals "str" = some none)
    (n_tuple : PySem.W.nsIn K mainGlobals "tuple" = some none)
    (l_code1 : K.lookup c1 = some ⟨.type "code", odC1, .fields vsC1, slC1⟩)
    (v111 : vsC1[11]? = some (.ref Pt1))
    (hdc1 : PySem.W.codeHdIn K c1 Pt1 = true)
    (kPt1 : K.lookup Pt1 = none)
    (hPt1 : h.get? Pt1 = some { cls := .none, data := .fields #[] })
    (l_code2 : K.lookup c2 = some ⟨.type "code", odC2, .fields vsC2, slC2⟩)
    (v112 : vsC2[11]? = some (.ref Pt2))
    (hdc2 : PySem.W.codeHdIn K c2 Pt2 = true)
    (kPt2 : K.lookup Pt2 = none)
    (hPt2 : h.get? Pt2 = some { cls := .none, data := .fields #[] })
    (nPt : Pt1 ≠ Pt2) :
    OB.LawG l w K CX0 16 63 "script" mg fa h := by
  have efa := hfa.symm.trans (PySem.W.mg_of X G a_law)
  cases efa
  have D_is_integer : Df K mg "is_integer" s_is_integer ["value"] f_is_integer _ := ⟨fun_mk (st := s_is_integer) l_is_integer c_is_integer k_is_integer, PySem.W.mg_of X G a_is_integer, (fun_mk (st := s_is_integer) l_is_integer c_is_integer k_is_integer).binds (ps := ["value"]) fun _ _ _ _ _ _ us hl => match us, hl with | [_], _ => rfl⟩
  have D_is_within : Df K mg "is_within" s_is_within ["value", "least", "most"] f_is_within _ := ⟨fun_mk (st := s_is_within) l_is_within c_is_within k_is_within, PySem.W.mg_of X G a_is_within, (fun_mk (st := s_is_within) l_is_within c_is_within k_is_within).binds (ps := ["value", "least", "most"]) fun _ _ _ _ _ _ us hl => match us, hl with | [_, _, _], _ => rfl⟩
  have D_is_list : Df K mg "is_list" s_is_list ["value"] f_is_list _ := ⟨fun_mk (st := s_is_list) l_is_list c_is_list k_is_list, PySem.W.mg_of X G a_is_list, (fun_mk (st := s_is_list) l_is_list c_is_list k_is_list).binds (ps := ["value"]) fun _ _ _ _ _ _ us hl => match us, hl with | [_], _ => rfl⟩
  have D_are_unlike : Df K mg "are_unlike" s_are_unlike ["value", "least", "most"] f_are_unlike _ := ⟨fun_mk (st := s_are_unlike) l_are_unlike c_are_unlike k_are_unlike, PySem.W.mg_of X G a_are_unlike, (fun_mk (st := s_are_unlike) l_are_unlike c_are_unlike k_are_unlike).binds (ps := ["value", "least", "most"]) fun _ _ _ _ _ _ us hl => match us, hl with | [_, _, _], _ => rfl⟩
  have D_is_lot : Df K mg "is_lot" s_is_lot ["value"] f_is_lot _ := ⟨fun_mk (st := s_is_lot) l_is_lot c_is_lot k_is_lot, PySem.W.mg_of X G a_is_lot, (fun_mk (st := s_is_lot) l_is_lot c_is_lot k_is_lot).binds (ps := ["value"]) fun _ _ _ _ _ _ us hl => match us, hl with | [_], _ => rfl⟩
  have D_is_phases : Df K mg "is_phases" s_is_phases ["value"] f_is_phases _ := ⟨fun_mk (st := s_is_phases) l_is_phases c_is_phases k_is_phases, PySem.W.mg_of X G a_is_phases, (fun_mk (st := s_is_phases) l_is_phases c_is_phases k_is_phases).binds (ps := ["value"]) fun _ _ _ _ _ _ us hl => match us, hl with | [_], _ => rfl⟩
  have D_need_phases : Df K mg "need_phases" s_need_phases ["value", "part"] f_need_phases _ := ⟨fun_mk (st := s_need_phases) l_need_phases c_need_phases k_need_phases, PySem.W.mg_of X G a_need_phases, (fun_mk (st := s_need_phases) l_need_phases c_need_phases k_need_phases).binds (ps := ["value", "part"]) fun _ _ _ _ _ _ us hl => match us, hl with | [_, _], _ => rfl⟩
  have D_items_of : Df K mg "items_of" s_items_of ["text"] f_items_of _ := ⟨fun_mk (st := s_items_of) l_items_of c_items_of k_items_of, PySem.W.mg_of X G a_items_of, (fun_mk (st := s_items_of) l_items_of c_items_of k_items_of).binds (ps := ["text"]) fun _ _ _ _ _ _ us hl => match us, hl with | [_], _ => rfl⟩
  have D_integer_of : Df K mg "integer_of" s_integer_of ["item"] f_integer_of _ := ⟨fun_mk (st := s_integer_of) l_integer_of c_integer_of k_integer_of, PySem.W.mg_of X G a_integer_of, (fun_mk (st := s_integer_of) l_integer_of c_integer_of k_integer_of).binds (ps := ["item"]) fun _ _ _ _ _ _ us hl => match us, hl with | [_], _ => rfl⟩
  have D_item_at : Df K mg "item_at" s_item_at ["items", "at"] f_item_at _ := ⟨fun_mk (st := s_item_at) l_item_at c_item_at k_item_at, PySem.W.mg_of X G a_item_at, (fun_mk (st := s_item_at) l_item_at c_item_at k_item_at).binds (ps := ["items", "at"]) fun _ _ _ _ _ _ us hl => match us, hl with | [_, _], _ => rfl⟩
  have D_integer_at : Df K mg "integer_at" s_integer_at ["items", "at", "least", "most"] f_integer_at _ := ⟨fun_mk (st := s_integer_at) l_integer_at c_integer_at k_integer_at, PySem.W.mg_of X G a_integer_at, (fun_mk (st := s_integer_at) l_integer_at c_integer_at k_integer_at).binds (ps := ["items", "at", "least", "most"]) fun _ _ _ _ _ _ us hl => match us, hl with | [_, _, _, _], _ => rfl⟩
  have D_need_end : Df K mg "need_end" s_need_end ["items", "at"] f_need_end _ := ⟨fun_mk (st := s_need_end) l_need_end c_need_end k_need_end, PySem.W.mg_of X G a_need_end, (fun_mk (st := s_need_end) l_need_end c_need_end k_need_end).binds (ps := ["items", "at"]) fun _ _ _ _ _ _ us hl => match us, hl with | [_, _], _ => rfl⟩
  have D_phases_text : Df K mg "phases_text" s_phases_text ["phases"] f_phases_text _ := ⟨fun_mk (st := s_phases_text) l_phases_text c_phases_text k_phases_text, PySem.W.mg_of X G a_phases_text, (fun_mk (st := s_phases_text) l_phases_text c_phases_text k_phases_text).binds (ps := ["phases"]) fun _ _ _ _ _ _ us hl => match us, hl with | [_], _ => rfl⟩
  have D_phases_read : Df K mg "phases_read" s_phases_read ["text"] f_phases_read _ := ⟨fun_mk (st := s_phases_read) l_phases_read c_phases_read k_phases_read, PySem.W.mg_of X G a_phases_read, (fun_mk (st := s_phases_read) l_phases_read c_phases_read k_phases_read).binds (ps := ["text"]) fun _ _ _ _ _ _ us hl => match us, hl with | [_], _ => rfl⟩
  have D__law_quarry : Df K mg "_law_quarry" s__law_quarry ["script"] f__law_quarry _ := ⟨fun_mk (st := s__law_quarry) l__law_quarry c__law_quarry k__law_quarry, PySem.W.mg_of X G a__law_quarry, (fun_mk (st := s__law_quarry) l__law_quarry c__law_quarry k__law_quarry).binds (ps := ["script"]) fun _ _ _ _ _ _ us hl => match us, hl with | [_], _ => rfl⟩
  have D__law_chip : Df K mg "_law_chip" s__law_chip ["quarry", "many"] f__law_chip _ := ⟨fun_mk (st := s__law_chip) l__law_chip c__law_chip k__law_chip, PySem.W.mg_of X G a__law_chip, (fun_mk (st := s__law_chip) l__law_chip c__law_chip k__law_chip).binds (ps := ["quarry", "many"]) fun _ _ _ _ _ _ us hl => match us, hl with | [_, _], _ => rfl⟩
  have D__law_pick : Df K mg "_law_pick" s__law_pick ["quarry", "some"] f__law_pick _ := ⟨fun_mk (st := s__law_pick) l__law_pick c__law_pick k__law_pick, PySem.W.mg_of X G a__law_pick, (fun_mk (st := s__law_pick) l__law_pick c__law_pick k__law_pick).binds (ps := ["quarry", "some"]) fun _ _ _ _ _ _ us hl => match us, hl with | [_, _], _ => rfl⟩
  have D__law_mixed : Df K mg "_law_mixed" s__law_mixed ["quarry", "some"] f__law_mixed _ := ⟨fun_mk (st := s__law_mixed) l__law_mixed c__law_mixed k__law_mixed, PySem.W.mg_of X G a__law_mixed, (fun_mk (st := s__law_mixed) l__law_mixed c__law_mixed k__law_mixed).binds (ps := ["quarry", "some"]) fun _ _ _ _ _ _ us hl => match us, hl with | [_, _], _ => rfl⟩
  have D__law_phases : Df K mg "_law_phases" s__law_phases ["quarry"] f__law_phases _ := ⟨fun_mk (st := s__law_phases) l__law_phases c__law_phases k__law_phases, PySem.W.mg_of X G a__law_phases, (fun_mk (st := s__law_phases) l__law_phases c__law_phases k__law_phases).binds (ps := ["quarry"]) fun _ _ _ _ _ _ us hl => match us, hl with | [_], _ => rfl⟩
  have D__law_items : Df K mg "_law_items" s__law_items ["phases"] f__law_items _ := ⟨fun_mk (st := s__law_items) l__law_items c__law_items k__law_items, PySem.W.mg_of X G a__law_items, (fun_mk (st := s__law_items) l__law_items c__law_items k__law_items).binds (ps := ["phases"]) fun _ _ _ _ _ _ us hl => match us, hl with | [_], _ => rfl⟩
  have D__law_is_bit : Df K mg "_law_is_bit" s__law_is_bit ["item"] f__law_is_bit _ := ⟨fun_mk (st := s__law_is_bit) l__law_is_bit c__law_is_bit k__law_is_bit, PySem.W.mg_of X G a__law_is_bit, (fun_mk (st := s__law_is_bit) l__law_is_bit c__law_is_bit k__law_is_bit).binds (ps := ["item"]) fun _ _ _ _ _ _ us hl => match us, hl with | [_], _ => rfl⟩
  have D__law_stop : Df K mg "_law_stop" s__law_stop ["items"] f__law_stop _ := ⟨fun_mk (st := s__law_stop) l__law_stop c__law_stop k__law_stop, PySem.W.mg_of X G a__law_stop, (fun_mk (st := s__law_stop) l__law_stop c__law_stop k__law_stop).binds (ps := ["items"]) fun _ _ _ _ _ _ us hl => match us, hl with | [_], _ => rfl⟩
  have D__law_bent : Df K mg "_law_bent" s__law_bent ["quarry", "items"] f__law_bent _ := ⟨fun_mk (st := s__law_bent) l__law_bent c__law_bent k__law_bent, PySem.W.mg_of X G a__law_bent, (fun_mk (st := s__law_bent) l__law_bent c__law_bent k__law_bent).binds (ps := ["quarry", "items"]) fun _ _ _ _ _ _ us hl => match us, hl with | [_, _], _ => rfl⟩
  have D__law_heard : Df K mg "_law_heard" s__law_heard ["ask"] f__law_heard _ := ⟨fun_mk (st := s__law_heard) l__law_heard c__law_heard k__law_heard, PySem.W.mg_of X G a__law_heard, (fun_mk (st := s__law_heard) l__law_heard c__law_heard k__law_heard).binds (ps := ["ask"]) fun _ _ _ _ _ _ us hl => match us, hl with | [_], _ => rfl⟩
  have D__law_text_right : Df K mg "_law_text_right" s__law_text_right ["text"] f__law_text_right _ := ⟨fun_mk (st := s__law_text_right) l__law_text_right c__law_text_right k__law_text_right, PySem.W.mg_of X G a__law_text_right, (fun_mk (st := s__law_text_right) l__law_text_right c__law_text_right k__law_text_right).binds (ps := ["text"]) fun _ _ _ _ _ _ us hl => match us, hl with | [_], _ => rfl⟩
  have FI_BadPhases := fun_mk (st := s_init_BadPhases) li_BadPhases ci_BadPhases ki_BadPhases
  have BI_BadPhases := FI_BadPhases.binds (ps := ["self", "part"]) fun _ _ _ _ _ _ us hl => match us, hl with | [_, _], _ => rfl
  have O_BadPhases : OexC K C_BadPhases := ⟨⟨_, _, _, _, _, _, _, _, _, _, _, _, _, _, _, x_BadPhases, by rfl⟩, sa_BadPhases, e_BadPhases, t_BadPhases, k_BadPhases⟩
  have XF_BadPhases : XfC K C_BadPhases := ⟨ga_BadPhases, gg_BadPhases, e_BadPhases, hd_BadPhases⟩
  have EC_BadPhases : ExcC K C_BadPhases := ⟨ga_BadPhases, gg_BadPhases, e_BadPhases, hd_BadPhases, ha_BadPhases, spn, tkn, hm_BadPhases⟩
  have EX_BadPhases : PySem.W.exmOne K (.ref C_BadPhases) (.ref CF) = some true := PySem.W.exm_ref eF dF tF sf_BadPhases
  have kit_BadPhases_BadPhases : PySem.W.kitOne K (.ref C_BadPhases) (.ref C_BadPhases) = some true := kit_sub is_BadPhases t_BadPhases sub_BadPhases_BadPhases sub_BadPhases_BadPhases
  have kit_BadText_BadPhases : PySem.W.kitOne K (.ref C_BadText) (.ref C_BadPhases) = some false := kit_sub is_BadPhases t_BadPhases sub_BadPhases_BadPhases sub_BadText_BadPhases
  have kz_BadPhases : PySem.W.kitOne K (.type "NoneType") (.ref C_BadPhases) = some false := kit_sub is_BadPhases t_BadPhases sub_BadPhases_BadPhases z_BadPhases
  have g_BadPhases : mg "BadPhases" = some (.ref C_BadPhases) := PySem.W.mg_of X G a_BadPhases
  have FI_BadText := fun_mk (st := s_init_BadText) li_BadText ci_BadText ki_BadText
  have BI_BadText := FI_BadText.binds (ps := ["self", "line", "item"]) fun _ _ _ _ _ _ us hl => match us, hl with | [_, _, _], _ => rfl
  have O_BadText : OexC K C_BadText := ⟨⟨_, _, _, _, _, _, _, _, _, _, _, _, _, _, _, x_BadText, by rfl⟩, sa_BadText, e_BadText, t_BadText, k_BadText⟩
  have XF_BadText : XfC K C_BadText := ⟨ga_BadText, gg_BadText, e_BadText, hd_BadText⟩
  have EC_BadText : ExcC K C_BadText := ⟨ga_BadText, gg_BadText, e_BadText, hd_BadText, ha_BadText, spn, tkn, hm_BadText⟩
  have EX_BadText : PySem.W.exmOne K (.ref C_BadText) (.ref CF) = some true := PySem.W.exm_ref eF dF tF sf_BadText
  have kit_BadPhases_BadText : PySem.W.kitOne K (.ref C_BadPhases) (.ref C_BadText) = some false := kit_sub is_BadText t_BadText sub_BadText_BadText sub_BadPhases_BadText
  have kit_BadText_BadText : PySem.W.kitOne K (.ref C_BadText) (.ref C_BadText) = some true := kit_sub is_BadText t_BadText sub_BadText_BadText sub_BadText_BadText
  have kz_BadText : PySem.W.kitOne K (.type "NoneType") (.ref C_BadText) = some false := kit_sub is_BadText t_BadText sub_BadText_BadText z_BadText
  have g_BadText : mg "BadText" = some (.ref C_BadText) := PySem.W.mg_of X G a_BadText
  have T : Blt mg := ⟨⟨_, PySem.W.mg_of X G a_MOST_BIT⟩, ⟨_, PySem.W.mg_of X G a_MOST_DIGITS⟩, ⟨_, PySem.W.mg_of X G a_BAR⟩, ⟨_, PySem.W.mg_of X G a_NO_PHASE⟩, PySem.W.mg_none_of X G n_abs, PySem.W.mg_none_of X G n_all, PySem.W.mg_none_of X G n_bool, PySem.W.mg_none_of X G n_enumerate, PySem.W.mg_none_of X G n_int, PySem.W.mg_none_of X G n_isinstance, PySem.W.mg_none_of X G n_len, PySem.W.mg_none_of X G n_list, PySem.W.mg_none_of X G n_range, PySem.W.mg_none_of X G n_repr, PySem.W.mg_none_of X G n_set, PySem.W.mg_none_of X G n_sorted, PySem.W.mg_none_of X G n_str, PySem.W.mg_none_of X G n_tuple⟩
  refine ⟨PySem.W.fnOf "law" "law" (defArgs s_law) (defBody s_law) (defScope s_law) .none kV_law dc_law pm_law an_law (.ref c2) ct_law, [(c1, Pt1), (c2, Pt2)], spLaw K Pt1 Pt2, ⟨fun p hp => ?_, fun p hp => ?_, fun p hp => ?_⟩, fun s u => .of_eq rfl, fun H a ns hl _ hP hS => ⟨a, ns, rfl, hS, hl, ⟨hP _ List.mem_cons_self, hP _ (List.mem_cons_of_mem _ List.mem_cons_self)⟩, fun _ => rfl⟩, fun base hK hG hTB => ?_⟩
  · rcases List.mem_cons.mp hp with rfl | hp
    · exact hPt1
    rw [List.mem_singleton.mp hp]
    exact hPt2
  · rcases List.mem_cons.mp hp with rfl | hp
    · exact kPt1
    rw [List.mem_singleton.mp hp]
    exact kPt2
  · rcases List.mem_cons.mp hp with rfl | hp
    · exact PySem.W.codeHd_of_K X hdc1
    rw [List.mem_singleton.mp hp]
    exact PySem.W.codeHd_of_K X hdc2
  · skip
    have R_BadPhases : Err l.prog w K mg base "BadPhases" "part" C_BadPhases fi_BadPhases _ := ⟨O_BadPhases, i_BadPhases, ti_BadPhases, ok_init1 FI_BadPhases sc_init_BadPhases rfl (.inl rfl) (.inl rfl), BI_BadPhases, g_BadPhases, no_BadPhases_part⟩
    have R_BadText : Err2 l.prog w K mg base "BadText" "line" "item" C_BadText fi_BadText _ := ⟨O_BadText, i_BadText, ti_BadText, ok_init2 FI_BadText sc_init_BadText (by decide +kernel) rfl (.inl rfl) (.inl rfl) (.inl rfl), BI_BadText, g_BadText, no_BadText_line, no_BadText_item⟩
    have Z : Kinds K mg CF C_BadPhases C_BadText := ⟨PySem.W.mg_of X G aF, g_BadPhases, g_BadText, ⟨XF_BadPhases, EC_BadPhases, EX_BadPhases⟩, ⟨XF_BadText, EC_BadText, EX_BadText⟩, no_BadPhases_part, no_BadText_line, no_BadText_item, kit_BadPhases_BadPhases, kit_BadPhases_BadText, kit_BadText_BadText⟩
    have G_is_integer := ok_is_integer (P := l.prog) (w := w) (base := base) D_is_integer.F T
    have G_is_within := ok_is_within (P := l.prog) (w := w) (base := base) D_is_within.F D_is_integer T
    have G__law_quarry := ok__law_quarry (P := l.prog) (w := w) (base := base) D__law_quarry.F T
    have G__law_chip := ok__law_chip (P := l.prog) (w := w) (base := base) D__law_chip.F T
    have G__law_pick := ok__law_pick (P := l.prog) (w := w) (base := base) D__law_pick.F T D__law_chip
    have G_items_of := ok_items_of (P := l.prog) (w := w) (base := base) D_items_of.F T R_BadText
    have G_integer_of := ok_integer_of (P := l.prog) (w := w) (base := base) D_integer_of.F T
    have G_item_at := ok_item_at (P := l.prog) (w := w) (base := base) D_item_at.F T R_BadText
    have G_integer_at := ok_integer_at (P := l.prog) (w := w) (base := base) D_integer_at.F T D_integer_of D_item_at D_is_within D_is_integer R_BadText
    have G_need_end := ok_need_end (P := l.prog) (w := w) (base := base) D_need_end.F T R_BadText
    have G_is_list := ok_is_list (P := l.prog) (w := w) (base := base) D_is_list.F T
    have G_are_unlike := ok_are_unlike (P := l.prog) (w := w) (base := base) D_are_unlike.F T D_is_list D_is_within D_is_integer
    have G_is_lot := ok_is_lot (P := l.prog) (w := w) (base := base) D_is_lot.F T D_are_unlike D_is_list D_is_within D_is_integer
    have G_is_phases := ok_is_phases (P := l.prog) (w := w) (base := base) D_is_phases.F T D_is_lot D_are_unlike D_is_list D_is_within D_is_integer
    have G_need_phases := ok_need_phases (P := l.prog) (w := w) (base := base) D_need_phases.F T D_is_phases D_is_lot D_are_unlike D_is_list D_is_within D_is_integer R_BadPhases
    have G_phases_text := ok_phases_text (P := l.prog) (w := w) (base := base) D_phases_text.F T D_need_phases G_need_phases
    have G_phases_read := ok_phases_read (P := l.prog) (w := w) (base := base) D_phases_read.F T D_items_of G_items_of D_need_end G_need_end D_integer_at G_integer_at R_BadText
    have G__law_mixed := ok__law_mixed (P := l.prog) (w := w) (base := base) D__law_mixed.F T D__law_chip
    have G__law_phases := ok__law_phases (P := l.prog) (w := w) (base := base) D__law_phases.F T D__law_chip D__law_pick
    have G__law_items := ok__law_items (P := l.prog) (w := w) (base := base) D__law_items.F T
    have G__law_is_bit := ok__law_is_bit (P := l.prog) (w := w) (base := base) D__law_is_bit.F T
    have G__law_stop := ok__law_stop (P := l.prog) (w := w) (base := base) D__law_stop.F T D__law_is_bit
    have G__law_bent := ok__law_bent (P := l.prog) (w := w) (base := base) D__law_bent.F T D__law_chip D__law_pick
    have G__law_text_right := ok__law_text_right (P := l.prog) (w := w) (base := base) T l__law_text_right c__law_text_right (hTB _ List.mem_cons_self) (hu_1 nPt) Z D__law_heard D__law_stop G__law_stop D_phases_read G_phases_read D_phases_text G_phases_text
    exact ok_law T l_law c_law (hTB _ (List.mem_cons_of_mem _ List.mem_cons_self)) (hu_2 nPt) Z D__law_quarry G__law_quarry D__law_chip D__law_pick D__law_mixed G__law_mixed D__law_phases G__law_phases D__law_items G__law_items D__law_bent G__law_bent D__law_text_right G__law_text_right D__law_heard D_phases_read G_phases_read D_phases_text G_phases_text
end K46
open PySem PySem.W PyProof.Rows
set_option maxRecDepth 100000 in
set_option maxHeartbeats 0 in
theorem PySem.Challenge.cw_oneflip_k46_phases_and_their_texts_holds : PySem.Challenge.rw_oneflip_k46_phases_and_their_texts.Holds := by
  w_on; o_law; k_head; (case hw => w_witness2)
  k_fill
  refine OB.walk_G (l := PySem.Challenge.rw_oneflip_k46_phases_and_their_texts) (n := 63) (k := 16) (x := "script") (CX := fun _ => L2.CX0) rfl (by decide) rfl ⟨rfl, by decide, by decide⟩ (fun w h Y => PySem.W.km_in_of Y) ?F (fun _ _ _ _ _ z => z)
  case F =>
    intro w mg fa h Y KX G hmg
    refine' K46.all_mk KX G hmg ?a_is_integer ?l_is_integer ?c_is_integer ?k_is_integer ?a_is_within ?l_is_within ?c_is_within ?k_is_within ?a_is_list ?l_is_list ?c_is_list ?k_is_list ?a_are_unlike ?l_are_unlike ?c_are_unlike ?k_are_unlike ?a_is_lot ?l_is_lot ?c_is_lot ?k_is_lot ?a_is_phases ?l_is_phases ?c_is_phases ?k_is_phases ?a_need_phases ?l_need_phases ?c_need_phases ?k_need_phases ?a_items_of ?l_items_of ?c_items_of ?k_items_of ?a_integer_of ?l_integer_of ?c_integer_of ?k_integer_of ?a_item_at ?l_item_at ?c_item_at ?k_item_at ?a_integer_at ?l_integer_at ?c_integer_at ?k_integer_at ?a_need_end ?l_need_end ?c_need_end ?k_need_end ?a_phases_text ?l_phases_text ?c_phases_text ?k_phases_text ?a_phases_read ?l_phases_read ?c_phases_read ?k_phases_read ?a__law_quarry ?l__law_quarry ?c__law_quarry ?k__law_quarry ?a__law_chip ?l__law_chip ?c__law_chip ?k__law_chip ?a__law_pick ?l__law_pick ?c__law_pick ?k__law_pick ?a__law_mixed ?l__law_mixed ?c__law_mixed ?k__law_mixed ?a__law_phases ?l__law_phases ?c__law_phases ?k__law_phases ?a__law_items ?l__law_items ?c__law_items ?k__law_items ?a__law_is_bit ?l__law_is_bit ?c__law_is_bit ?k__law_is_bit ?a__law_stop ?l__law_stop ?c__law_stop ?k__law_stop ?a__law_bent ?l__law_bent ?c__law_bent ?k__law_bent ?a__law_heard ?l__law_heard ?c__law_heard ?k__law_heard ?a__law_text_right ?l__law_text_right ?c__law_text_right ?k__law_text_right ?a_law ?l_law ?c_law ?k_law ?aF ?eF ?dF ?tF ?a_BadPhases ?x_BadPhases ?sa_BadPhases ?e_BadPhases ?t_BadPhases ?k_BadPhases ?i_BadPhases ?ti_BadPhases ?li_BadPhases ?ci_BadPhases ?ki_BadPhases ?no_BadPhases_part ?ga_BadPhases ?gg_BadPhases ?hd_BadPhases ?ha_BadPhases ?hm_BadPhases ?sf_BadPhases ?is_BadPhases ?z_BadPhases ?a_BadText ?x_BadText ?sa_BadText ?e_BadText ?t_BadText ?k_BadText ?i_BadText ?ti_BadText ?li_BadText ?ci_BadText ?ki_BadText ?no_BadText_line ?no_BadText_item ?ga_BadText ?gg_BadText ?hd_BadText ?ha_BadText ?hm_BadText ?sf_BadText ?is_BadText ?z_BadText ?sub_BadPhases_BadPhases ?sub_BadPhases_BadText ?sub_BadText_BadPhases ?sub_BadText_BadText ?spn ?tkn ?a_MOST_BIT ?a_MOST_DIGITS ?a_BAR ?a_NO_PHASE ?n_abs ?n_all ?n_bool ?n_enumerate ?n_int ?n_isinstance ?n_len ?n_list ?n_range ?n_repr ?n_set ?n_sorted ?n_str ?n_tuple ?l_code1 ?v111 ?hdc1 ?kPt1 ?hPt1 ?l_code2 ?v112 ?hdc2 ?kPt2 ?hPt2 ?nPt
    (case a_is_integer => k_is)
    (case l_is_integer => k_is)
    (case c_is_integer => k_is)
    (case k_is_integer => k_is)
    (case a_is_within => k_is)
    (case l_is_within => k_is)
    (case c_is_within => k_is)
    (case k_is_within => k_is)
    (case a_is_list => k_is)
    (case l_is_list => k_is)
    (case c_is_list => k_is)
    (case k_is_list => k_is)
    (case a_are_unlike => k_is)
    (case l_are_unlike => k_is)
    (case c_are_unlike => k_is)
    (case k_are_unlike => k_is)
    (case a_is_lot => k_is)
    (case l_is_lot => k_is)
    (case c_is_lot => k_is)
    (case k_is_lot => k_is)
    (case a_is_phases => k_is)
    (case l_is_phases => k_is)
    (case c_is_phases => k_is)
    (case k_is_phases => k_is)
    (case a_need_phases => k_is)
    (case l_need_phases => k_is)
    (case c_need_phases => k_is)
    (case k_need_phases => k_is)
    (case a_items_of => k_is)
    (case l_items_of => k_is)
    (case c_items_of => k_is)
    (case k_items_of => k_is)
    (case a_integer_of => k_is)
    (case l_integer_of => k_is)
    (case c_integer_of => k_is)
    (case k_integer_of => k_is)
    (case a_item_at => k_is)
    (case l_item_at => k_is)
    (case c_item_at => k_is)
    (case k_item_at => k_is)
    (case a_integer_at => k_is)
    (case l_integer_at => k_is)
    (case c_integer_at => k_is)
    (case k_integer_at => k_is)
    (case a_need_end => k_is)
    (case l_need_end => k_is)
    (case c_need_end => k_is)
    (case k_need_end => k_is)
    (case a_phases_text => k_is)
    (case l_phases_text => k_is)
    (case c_phases_text => k_is)
    (case k_phases_text => k_is)
    (case a_phases_read => k_is)
    (case l_phases_read => k_is)
    (case c_phases_read => k_is)
    (case k_phases_read => k_is)
    (case a__law_quarry => k_is)
    (case l__law_quarry => k_is)
    (case c__law_quarry => k_is)
    (case k__law_quarry => k_is)
    (case a__law_chip => k_is)
    (case l__law_chip => k_is)
    (case c__law_chip => k_is)
    (case k__law_chip => k_is)
    (case a__law_pick => k_is)
    (case l__law_pick => k_is)
    (case c__law_pick => k_is)
    (case k__law_pick => k_is)
    (case a__law_mixed => k_is)
    (case l__law_mixed => k_is)
    (case c__law_mixed => k_is)
    (case k__law_mixed => k_is)
    (case a__law_phases => k_is)
    (case l__law_phases => k_is)
    (case c__law_phases => k_is)
    (case k__law_phases => k_is)
    (case a__law_items => k_is)
    (case l__law_items => k_is)
    (case c__law_items => k_is)
    (case k__law_items => k_is)
    (case a__law_is_bit => k_is)
    (case l__law_is_bit => k_is)
    (case c__law_is_bit => k_is)
    (case k__law_is_bit => k_is)
    (case a__law_stop => k_is)
    (case l__law_stop => k_is)
    (case c__law_stop => k_is)
    (case k__law_stop => k_is)
    (case a__law_bent => k_is)
    (case l__law_bent => k_is)
    (case c__law_bent => k_is)
    (case k__law_bent => k_is)
    (case a__law_heard => k_is)
    (case l__law_heard => k_is)
    (case c__law_heard => k_is)
    (case k__law_heard => k_is)
    (case a__law_text_right => k_is)
    (case l__law_text_right => k_is)
    (case c__law_text_right => k_is)
    (case k__law_text_right => k_is)
    (case a_law => k_is)
    (case l_law => k_is)
    (case c_law => k_is)
    (case k_law => k_is)
    (case aF => k_is)
    (case eF => k_is)
    (case dF => k_is)
    (case tF => k_is)
    (case a_BadPhases => k_is)
    (case x_BadPhases => k_is)
    (case sa_BadPhases => k_is)
    (case e_BadPhases => k_is)
    (case t_BadPhases => k_is)
    (case k_BadPhases => k_is)
    (case i_BadPhases => k_is)
    (case ti_BadPhases => k_is)
    (case li_BadPhases => k_is)
    (case ci_BadPhases => k_is)
    (case ki_BadPhases => k_is)
    (case no_BadPhases_part => k_is)
    (case ga_BadPhases => k_is)
    (case gg_BadPhases => k_is)
    (case hd_BadPhases => k_is)
    (case ha_BadPhases => k_is)
    (case hm_BadPhases => k_is)
    (case sf_BadPhases => k_is)
    (case is_BadPhases => k_is)
    (case z_BadPhases => k_is)
    (case a_BadText => k_is)
    (case x_BadText => k_is)
    (case sa_BadText => k_is)
    (case e_BadText => k_is)
    (case t_BadText => k_is)
    (case k_BadText => k_is)
    (case i_BadText => k_is)
    (case ti_BadText => k_is)
    (case li_BadText => k_is)
    (case ci_BadText => k_is)
    (case ki_BadText => k_is)
    (case no_BadText_line => k_is)
    (case no_BadText_item => k_is)
    (case ga_BadText => k_is)
    (case gg_BadText => k_is)
    (case hd_BadText => k_is)
    (case ha_BadText => k_is)
    (case hm_BadText => k_is)
    (case sf_BadText => k_is)
    (case is_BadText => k_is)
    (case z_BadText => k_is)
    (case sub_BadPhases_BadPhases => k_is)
    (case sub_BadPhases_BadText => k_is)
    (case sub_BadText_BadPhases => k_is)
    (case sub_BadText_BadText => k_is)
    (case spn => k_is)
    (case tkn => k_is)
    (case a_MOST_BIT => k_is)
    (case a_MOST_DIGITS => k_is)
    (case a_BAR => k_is)
    (case a_NO_PHASE => k_is)
    (case n_abs => k_is)
    (case n_all => k_is)
    (case n_bool => k_is)
    (case n_enumerate => k_is)
    (case n_int => k_is)
    (case n_isinstance => k_is)
    (case n_len => k_is)
    (case n_list => k_is)
    (case n_range => k_is)
    (case n_repr => k_is)
    (case n_set => k_is)
    (case n_sorted => k_is)
    (case n_str => k_is)
    (case n_tuple => k_is)
    (case l_code1 => k_is)
    (case v111 => rfl)
    (case hdc1 => kernel_rfl)
    (case kPt1 => kernel_rfl)
    (case l_code2 => k_is)
    (case v112 => rfl)
    (case hdc2 => kernel_rfl)
    (case kPt2 => kernel_rfl)
    (case nPt => decide)
    (case hPt1 => exact PySem.W.km_tabs_of Y _ (by k_mem))
    (case hPt2 => exact PySem.W.km_tabs_of Y _ (by k_mem))
