import PyProof.Rows.All
import Wide.All
import OpenK.AllK
import Wide.FinOn
import HandS.ForMost
import HandS.Exc
import HandS.ExcValue
import HandS.ExcField
import HandS.ExcIs
import HandS.IsInst
import HandS.Lambda
import HandS.EndTab
import HandS.Wide
import HandS.WideBits
import HandS.RaiseMore
import HandS.WordsList
import HandS.WordsExc
import HandS.ExcInit
import PyProof.Rows.SetFrom
import HandS.SetFor
import HandS.Zip
import HandS.SortInts
import PyProof.ReprRoads
import HandS.FStrTup
import HandS.EndBits
import HandS.OwnEq
import PyProof.FactsAll.object_2
import HandS.ClsMeth
import HandS.MakeKwOnly
import HandS.Defaults
import KE.KFmtOwn
import HandS.ExcOwn
import PyProof.StrLawsRepr
import PyProof.CallFns
import HandS.Text
import HandS.StrMore
import HandS.Set
import HandS.Strs
import PyProof.Rows.RegReprOcc
import HandS.Conv
import HandS.Codes
import HandS.ForDict
import HandS.More
import PyProof.Rows.Range3
import HandS.NoneIn
import HandS.Walk
import PyProof.FString3
import HandS.FStr
import PyProof.EnumMake
import PyProof.Draws
import HandS.Style
import KE.KRevIter
import PyProof.Rows.StrRev
import HandS.List
import KE.KNestM
import PySem.Challenge.RW_oneflip_k33_codes_listed_and_layouts_dou
set_option linter.all false
/-! Ones of a number, pairs of neighbours below it. -/
set_option exponentiation.threshold 100000
namespace M04
theorem two_pos (k : Nat) : 0 < 2 ^ k := Nat.pow_pos (by decide)
def cnt (n : Nat) : Nat → Nat
  | 0 => 0
  | k + 1 => cnt n k + n / 2 ^ k % 2
theorem cnt_low (n k : Nat) : cnt n (k + 1) = n % 2 + cnt (n / 2) k := by
  induction k with
  | zero =>
    show 0 + n / 2 ^ 0 % 2 = n % 2 + 0
    rw [Nat.pow_zero, Nat.div_one]
    omega
  | succ k ih =>
    show cnt n (k + 1) + n / 2 ^ (k + 1) % 2 = n % 2 + (cnt (n / 2) k + n / 2 / 2 ^ k % 2)
    rw [ih, Nat.div_div_eq_div_mul, Nat.pow_succ, Nat.mul_comm 2]
    omega
def pc (n : Nat) : Nat := cnt n n
theorem cnt_zero (k : Nat) : cnt 0 k = 0 := by
  induction k with
  | zero => rfl
  | succ k ih =>
    show cnt 0 k + 0 / 2 ^ k % 2 = 0
    rw [ih, Nat.zero_div]
theorem cnt_more {n k : Nat} (h : n < 2 ^ k) : cnt n (k + 1) = cnt n k := by
  show cnt n k + n / 2 ^ k % 2 = cnt n k
  rw [Nat.div_eq_of_lt h]
  rfl
theorem cnt_up {n k : Nat} (h : n < 2 ^ k) (m : Nat) : cnt n (k + m) = cnt n k := by
  induction m with
  | zero => rfl
  | succ m ih =>
    have h2 : n < 2 ^ (k + m) := Nat.lt_of_lt_of_le h (Nat.pow_le_pow_right (by decide) (Nat.le_add_right k m))
    exact (cnt_more h2).trans ih
theorem cnt_pc {n k : Nat} (h : n < 2 ^ k) : cnt n k = pc n := by
  unfold pc
  have h2 : n < 2 ^ n := Nat.lt_two_pow_self
  by_cases c : k ≤ n
  · have e := cnt_up h (n - k)
    rw [show k + (n - k) = n by omega] at e
    exact e.symm
  · have e := cnt_up h2 (k - n)
    rw [show n + (k - n) = k by omega] at e
    exact e
theorem pc_half (n : Nat) : pc n = n % 2 + pc (n / 2) := by
  have h : n < 2 ^ (n + 1) := Nat.lt_trans Nat.lt_two_pow_self (Nat.pow_lt_pow_right (by decide) (Nat.lt_succ_self n))
  have h2 : n / 2 < 2 ^ n := by
    rw [Nat.pow_succ] at h
    omega
  rw [← cnt_pc h, cnt_low, cnt_pc h2]
theorem pc_two (n : Nat) : pc (2 * n) = pc n := by
  rw [pc_half, show 2 * n % 2 = 0 by omega, show 2 * n / 2 = n by omega, Nat.zero_add]
theorem pc_odd (n : Nat) : pc (2 * n + 1) = pc n + 1 := by
  rw [pc_half, show (2 * n + 1) % 2 = 1 by omega, show (2 * n + 1) / 2 = n by omega, Nat.add_comm]
theorem pc_zero : pc 0 = 0 := rfl
/-- the ones of all words below n -/
def E : Nat → Nat
  | 0 => 0
  | n + 1 => E n + pc n
theorem E_two (m : Nat) : E (2 * m) = 2 * E m + m := by
  induction m with
  | zero => rfl
  | succ m ih =>
    show E (2 * m) + pc (2 * m) + pc (2 * m + 1) = 2 * (E m + pc m) + (m + 1)
    rw [ih, pc_two, pc_odd]
    omega
theorem E_odd (m : Nat) : E (2 * m + 1) = E m + E (m + 1) + m := by
  show E (2 * m) + pc (2 * m) = E m + (E m + pc m) + m
  rw [E_two, pc_two]
  omega
theorem E_even (m : Nat) : E (2 * m + 2) = 2 * E (m + 1) + m + 1 := E_two (m + 1)
def T (b : Nat) : Nat := b * 2 ^ b / 2
theorem T_succ (b : Nat) : T (b + 1) = (b + 1) * 2 ^ b := by
  unfold T
  rw [Nat.pow_succ, ← Nat.mul_assoc, Nat.mul_div_cancel _ (by decide)]
theorem T_two (b : Nat) : 2 * T b = b * 2 ^ b := by
  cases b with
  | zero => rfl
  | succ b => rw [T_succ, Nat.pow_succ, Nat.mul_comm 2, Nat.mul_assoc]
theorem pc_pow (q b : Nat) : pc (q * 2 ^ b) = pc q := by
  induction b with
  | zero => rw [Nat.pow_zero, Nat.mul_one]
  | succ b ih => rw [Nat.pow_succ, ← Nat.mul_assoc, Nat.mul_comm, pc_two, ih]
theorem E_pow (q b : Nat) : E (q * 2 ^ b + 2 ^ b) = E (q * 2 ^ b) + pc q * 2 ^ b + T b := by
  induction b with
  | zero =>
    show E (q * 1 + 1) = E (q * 1) + pc q * 1 + 0
    rw [Nat.mul_one, Nat.mul_one]
    rfl
  | succ b ih =>
    have e1 : q * 2 ^ (b + 1) = 2 * (q * 2 ^ b) := by rw [Nat.pow_succ, ← Nat.mul_assoc, Nat.mul_comm]
    have e2 : 2 ^ (b + 1) = 2 * 2 ^ b := by rw [Nat.pow_succ, Nat.mul_comm]
    rw [e1, e2, ← Nat.mul_add, E_two, E_two, ih, T_succ, Nat.mul_add, Nat.mul_add, T_two, Nat.add_mul]
    have e3 : pc q * (2 * 2 ^ b) = 2 * (pc q * 2 ^ b) := by rw [← Nat.mul_assoc, Nat.mul_comm (pc q), Nat.mul_assoc]
    rw [e3]
    omega
/-- the bits of n below c, descending -/
def D (n : Nat) : Nat → List Nat
  | 0 => []
  | c + 1 => if n / 2 ^ c % 2 = 1 then c :: D n c else D n c
def S : List Nat → Nat → Nat → Nat
  | [], _, acc => acc
  | b :: r, a, acc => S r (a + 1) (acc + a * 2 ^ b + T b)
theorem S_is (n c : Nat) : S (D n c) (pc (n / 2 ^ c)) (E (n / 2 ^ c * 2 ^ c)) = E n := by
  induction c with
  | zero =>
    show E (n / 2 ^ 0 * 2 ^ 0) = E n
    rw [Nat.pow_zero, Nat.div_one, Nat.mul_one]
  | succ c ih =>
    have e : n / 2 ^ (c + 1) = n / 2 ^ c / 2 := by rw [Nat.pow_succ, Nat.div_div_eq_div_mul]
    have e2 : n / 2 ^ (c + 1) * 2 ^ (c + 1) = 2 * (n / 2 ^ c / 2) * 2 ^ c := by
      rw [e, Nat.pow_succ, Nat.mul_comm (2 ^ c), ← Nat.mul_assoc, Nat.mul_comm _ 2]
    unfold D
    by_cases h : n / 2 ^ c % 2 = 1
    · rw [if_pos h, e2, e]
      show S (D n c) (pc (n / 2 ^ c / 2) + 1) (E (2 * (n / 2 ^ c / 2) * 2 ^ c) + pc (n / 2 ^ c / 2) * 2 ^ c + T c) = E n
      have p1 : pc (n / 2 ^ c / 2) + 1 = pc (n / 2 ^ c) := by rw [pc_half (n / 2 ^ c), h, Nat.add_comm]
      have p2 : pc (n / 2 ^ c / 2) = pc (2 * (n / 2 ^ c / 2)) := (pc_two _).symm
      have p3 : 2 * (n / 2 ^ c / 2) * 2 ^ c + 2 ^ c = n / 2 ^ c * 2 ^ c := by
        have z : n / 2 ^ c = 2 * (n / 2 ^ c / 2) + 1 := by omega
        conv => rhs; rw [z]
        rw [Nat.add_mul, Nat.one_mul]
      rw [p1, p2, ← E_pow, p3]
      exact ih
    · rw [if_neg h, e2, e]
      have z : 2 * (n / 2 ^ c / 2) = n / 2 ^ c := by omega
      have p1 : pc (n / 2 ^ c / 2) = pc (n / 2 ^ c) := by
        have q := pc_two (n / 2 ^ c / 2)
        rw [z] at q
        exact q.symm
      rw [z, p1]
      exact ih
theorem S_all {n c : Nat} (h : n < 2 ^ c) : S (D n c) 0 0 = E n := by
  have e := S_is n c
  rw [Nat.div_eq_of_lt h, Nat.zero_mul] at e
  exact e
theorem E_two_pow (p : Nat) : E (2 * 2 ^ p) = (p + 1) * 2 ^ p := by
  have e := E_pow 0 (p + 1)
  rw [Nat.zero_mul, Nat.zero_add, T_succ] at e
  have e2 : 2 ^ (p + 1) = 2 * 2 ^ p := by rw [Nat.pow_succ, Nat.mul_comm]
  rw [e2] at e
  rw [e]
  show 0 + 0 * _ + _ = _
  rw [Nat.zero_mul]
  omega
/-- the bits of n below c, ascending -/
theorem D_rev (n c : Nat) : (D n c).reverse = (List.range c).filter fun i => decide (n / 2 ^ i % 2 = 1) := by
  induction c with
  | zero => rfl
  | succ c ih =>
    rw [List.range_succ, List.filter_append, ← ih]
    show (if n / 2 ^ c % 2 = 1 then c :: D n c else D n c).reverse = _
    by_cases h : n / 2 ^ c % 2 = 1
    · rw [if_pos h, List.reverse_cons]
      simp [h]
    · rw [if_neg h]
      simp [h]
theorem D_lt {n c b : Nat} (h : b ∈ D n c) : b < c := by
  have e : b ∈ (D n c).reverse := List.mem_reverse.mpr h
  rw [D_rev] at e
  exact List.mem_range.mp (List.mem_filter.mp e).1
theorem D_len (n c : Nat) : (D n c).length ≤ c := by
  rw [← List.length_reverse, D_rev]
  exact Nat.le_trans (List.length_filter_le _ _) (by rw [List.length_range]; exact Nat.le_refl _)
/-! ### signs -/
/-- the signs of n to the base 2, the lowest first -/
def R (n : Nat) : List Nat := ((Nat.toDigits 2 n).map fun c => c.toNat).reverse
theorem R_small {n : Nat} (h : n < 2) : R n = [48 + n] := by
  unfold R
  rw [Nat.toDigits_of_lt_base h]
  have e : n = 0 ∨ n = 1 := by omega
  rcases e with rfl | rfl <;> rfl
theorem R_big {n : Nat} (h : 2 ≤ n) : R n = (48 + n % 2) :: R (n / 2) := by
  unfold R
  rw [Nat.toDigits_of_base_le (by decide) h, List.map_append, List.reverse_append]
  have e : n % 2 = 0 ∨ n % 2 = 1 := by omega
  rcases e with z | z <;> rw [z] <;> rfl
theorem R_facts : ∀ n : Nat, n < 2 ^ (R n).length ∧ (∀ i, i < (R n).length → (R n)[i]? = some (48 + n / 2 ^ i % 2)) := by
  intro n
  induction n using Nat.strongRecOn with
  | ind n ih =>
    by_cases h : n < 2
    · rw [R_small h]
      refine ⟨by show n < 2 ^ 1; omega, fun i hi => ?_⟩
      have hi : i < 1 := hi
      have e : i = 0 := by omega
      subst e
      show some (48 + n) = some (48 + n / 2 ^ 0 % 2)
      rw [Nat.pow_zero, Nat.div_one, Nat.mod_eq_of_lt h]
    · have h2 : 2 ≤ n := by omega
      obtain ⟨a, b⟩ := ih (n / 2) (by omega)
      rw [R_big h2]
      refine ⟨?_, fun i hi => ?_⟩
      · show n < 2 ^ ((R (n / 2)).length + 1)
        rw [Nat.pow_succ]
        omega
      · cases i with
        | zero =>
          show some (48 + n % 2) = some (48 + n / 2 ^ 0 % 2)
          rw [Nat.pow_zero, Nat.div_one]
        | succ i =>
          show (R (n / 2))[i]? = _
          rw [b i (by have hi : i + 1 < (R (n / 2)).length + 1 := hi; omega), Nat.div_div_eq_div_mul, Nat.pow_succ, Nat.mul_comm 2]
theorem R_len {n k : Nat} (hk : 0 < k) (h : n < 2 ^ k) : (R n).length ≤ k := by
  induction k generalizing n with
  | zero => exact absurd hk (by decide)
  | succ k ih =>
    by_cases c : n < 2
    · rw [R_small c]
      exact Nat.succ_le_succ (Nat.zero_le _)
    · rw [R_big (by omega)]
      rw [Nat.pow_succ] at h
      have hk2 : 0 < k := by
        cases k with
        | zero =>
          rw [Nat.pow_zero] at h
          omega
        | succ k => exact Nat.succ_pos k
      exact Nat.succ_le_succ (ih hk2 (by omega))
theorem R_count (n : Nat) : (R n).countP (fun c => decide (c = 49)) = pc n := by
  induction n using Nat.strongRecOn with
  | ind n ih =>
    by_cases h : n < 2
    · rw [R_small h]
      have e : n = 0 ∨ n = 1 := by omega
      rcases e with rfl | rfl <;> rfl
    · rw [R_big (by omega), List.countP_cons, ih (n / 2) (by omega), pc_half n]
      have e : n % 2 = 0 ∨ n % 2 = 1 := by omega
      rcases e with z | z <;> rw [z] <;> simp <;> omega
theorem cnt_le (n k : Nat) : cnt n k ≤ k := by
  induction k with
  | zero => exact Nat.le_refl _
  | succ k ih =>
    show cnt n k + n / 2 ^ k % 2 ≤ k + 1
    omega
theorem pc_le {n k : Nat} (h : n < 2 ^ k) : pc n ≤ k := by
  rw [← cnt_pc h]
  exact cnt_le n k
theorem E_le {n k : Nat} (h : n ≤ 2 ^ k) : E n ≤ n * k := by
  induction n with
  | zero => exact Nat.zero_le _
  | succ n ih =>
    have a := ih (Nat.le_of_succ_le h)
    have b := pc_le (n := n) (k := k) (Nat.lt_of_succ_le h)
    show E n + pc n ≤ (n + 1) * k
    rw [Nat.add_mul, Nat.one_mul]
    omega
theorem E_lt {n : Nat} (h : n < 2 ^ 402) : E n < 2 ^ 500 := by
  refine Nat.lt_of_le_of_lt (E_le (Nat.le_of_lt h)) ?_
  have a : n * 402 ≤ 2 ^ 402 * 402 := Nat.mul_le_mul_right _ (Nat.le_of_lt h)
  exact Nat.lt_of_le_of_lt a (by decide)
end M04
set_option maxHeartbeats 1000000
namespace M07
def gray (n : Nat) : Nat := n ^^^ (n >>> 1)
theorem gray_bit (n i : Nat) : (gray n).testBit i = (n.testBit i ^^ n.testBit (i + 1)) := by
  unfold gray
  rw [Nat.testBit_xor, Nat.testBit_shiftRight, Nat.add_comm 1 i]
theorem tele (p s : Nat) : (p ^^^ (p >>> s)) ^^^ ((p ^^^ (p >>> s)) >>> s) = p ^^^ (p >>> (2 * s)) := by
  apply Nat.eq_of_testBit_eq
  intro i
  simp only [Nat.testBit_xor, Nat.testBit_shiftRight]
  rw [show 2 * s + i = s + (s + i) by omega]
  cases p.testBit i <;> cases p.testBit (s + i) <;> cases p.testBit (s + (s + i)) <;> rfl
theorem xor_zero_eq {a b : Nat} (h : a ^^^ b = 0) : a = b := by
  apply Nat.eq_of_testBit_eq
  intro i
  have z : (a ^^^ b).testBit i = (0 : Nat).testBit i := by rw [h]
  rw [Nat.testBit_xor, Nat.zero_testBit] at z
  cases e1 : a.testBit i <;> cases e2 : b.testBit i <;> rw [e1, e2] at z <;> first | rfl | cases z
theorem half_zero {q : Nat} (h : q = q >>> 1) : q = 0 := by
  rw [Nat.shiftRight_eq_div_pow] at h
  omega
theorem gray_end {p s : Nat} (h : gray p < 2 ^ s) : p ^^^ (p >>> s) = p := by
  have e : (p >>> s) ^^^ ((p >>> s) >>> 1) = 0 := by
    have z : gray p >>> s = 0 := by
      rw [Nat.shiftRight_eq_div_pow]
      exact Nat.div_eq_of_lt h
    rw [← z]
    unfold gray
    apply Nat.eq_of_testBit_eq
    intro i
    simp only [Nat.testBit_xor, Nat.testBit_shiftRight]
    rw [show s + (1 + i) = 1 + (s + i) by omega]
  have e3 : p >>> s = 0 := half_zero (xor_zero_eq e)
  rw [e3, Nat.xor_zero]
theorem one_bit (x i : Nat) : decide (x / 2 ^ i % 2 = 1) = x.testBit i := (Nat.testBit_eq_decide_div_mod_eq).symm
theorem next_mod (x i : Nat) : x % 2 ^ (i + 1) = x % 2 ^ i + (if x.testBit i = true then 2 ^ i else 0) := by
  rw [Nat.pow_succ, Nat.mod_mul, ← one_bit]
  have h := Nat.mod_two_eq_zero_or_one (x / 2 ^ i)
  rcases h with h | h <;> simp [h]
/-- the lowest bit that is 0 -/
def Low (p low : Nat) : Prop := (∀ j, j < low → p.testBit j = true) ∧ p.testBit low = false
theorem low_mod {p low : Nat} (h : Low p low) : p % 2 ^ (low + 1) = 2 ^ low - 1 := by
  apply Nat.eq_of_testBit_eq
  intro i
  rw [Nat.testBit_mod_two_pow, Nat.testBit_two_pow_sub_one]
  by_cases h1 : i < low
  · rw [h.1 i h1, decide_eq_true h1, decide_eq_true (show i < low + 1 by omega)]
    rfl
  · by_cases h2 : i = low
    · subst h2
      rw [h.2]
      simp
    · rw [decide_eq_false (show ¬ i < low + 1 by omega), decide_eq_false h1]
      rfl
theorem two_pos (k : Nat) : 0 < 2 ^ k := Nat.two_pow_pos k
theorem low_p {p low : Nat} (h : Low p low) (i : Nat) : p.testBit i = if i < low + 1 then decide (i < low) else (p / 2 ^ (low + 1)).testBit (i - (low + 1)) := by
  have e := Nat.div_add_mod p (2 ^ (low + 1))
  rw [low_mod h] at e
  have l : 2 ^ low - 1 < 2 ^ (low + 1) := by
    have a := two_pos low
    rw [Nat.pow_succ]
    omega
  conv => lhs; rw [← e]
  rw [Nat.testBit_two_pow_mul_add _ l, Nat.testBit_two_pow_sub_one]
theorem low_s {p low : Nat} (h : Low p low) (i : Nat) : (p + 1).testBit i = if i < low + 1 then decide (low = i) else (p / 2 ^ (low + 1)).testBit (i - (low + 1)) := by
  have e := Nat.div_add_mod p (2 ^ (low + 1))
  rw [low_mod h] at e
  have a := two_pos low
  have l : 2 ^ low < 2 ^ (low + 1) := by
    rw [Nat.pow_succ]
    omega
  have e2 : p + 1 = 2 ^ (low + 1) * (p / 2 ^ (low + 1)) + 2 ^ low := by omega
  conv => lhs; rw [e2]
  rw [Nat.testBit_two_pow_mul_add _ l, Nat.testBit_two_pow]
theorem gray_next {p low : Nat} (h : Low p low) : gray (p + 1) = gray p ^^^ 2 ^ low := by
  apply Nat.eq_of_testBit_eq
  intro i
  rw [Nat.testBit_xor, gray_bit, gray_bit, low_p h, low_p h, low_s h, low_s h, Nat.testBit_two_pow]
  by_cases h1 : i < low
  · simp only [show i < low + 1 by omega, show i + 1 < low + 1 by omega, if_true]
    by_cases h2 : i + 1 < low
    · simp [h1, h2, show ¬ low = i by omega, show ¬ low = i + 1 by omega]
    · have h3 : low = i + 1 := by omega
      simp [h3]
  · by_cases h2 : i = low
    · subst h2
      simp
    · simp [show ¬ i < low + 1 by omega, show ¬ i + 1 < low + 1 by omega, show ¬ low = i by omega]
theorem xor_pow {x k : Nat} : x ^^^ 2 ^ k = if x.testBit k = true then x - 2 ^ k else x + 2 ^ k := by
  have split : x = 2 ^ (k + 1) * (x / 2 ^ (k + 1)) + ((if x.testBit k = true then 2 ^ k else 0) + x % 2 ^ k) := by
    have e := Nat.div_add_mod x (2 ^ (k + 1))
    rw [next_mod] at e
    omega
  have m := Nat.mod_lt x (two_pos k)
  have l1 : 2 ^ k + x % 2 ^ k < 2 ^ (k + 1) := by
    rw [Nat.pow_succ]
    omega
  have bits : ∀ (q r : Nat) (i : Nat), r < 2 ^ k → (2 ^ (k + 1) * q + (2 ^ k + r)).testBit i = ((2 ^ (k + 1) * q + r) ^^^ 2 ^ k).testBit i := by
    intro q r i hr
    have l2 : 2 ^ k + r < 2 ^ (k + 1) := by
      rw [Nat.pow_succ]
      omega
    have l3 : r < 2 ^ (k + 1) := by
      rw [Nat.pow_succ]
      omega
    rw [Nat.testBit_xor, Nat.testBit_two_pow_mul_add _ l2, Nat.testBit_two_pow_mul_add _ l3, Nat.testBit_two_pow]
    have er : 2 ^ k + r = 2 ^ k * 1 + r := by omega
    rw [er, Nat.testBit_two_pow_mul_add _ hr]
    by_cases h1 : i < k + 1
    · simp only [h1, if_true]
      by_cases h2 : i < k
      · simp [h2, show ¬ k = i by omega]
      · have h3 : i = k := by omega
        subst h3
        simp [Nat.testBit_lt_two_pow hr]
    · simp [h1, show ¬ k = i by omega]
  cases hb : x.testBit k with
  | true =>
    rw [hb] at split
    simp only [if_true] at split
    have e : 2 ^ (k + 1) * (x / 2 ^ (k + 1)) + x % 2 ^ k = x - 2 ^ k := by omega
    simp only [if_true]
    rw [← e]
    apply Nat.eq_of_testBit_eq
    intro i
    have b := bits (x / 2 ^ (k + 1)) (x % 2 ^ k) i m
    rw [← split] at b
    rw [Nat.testBit_xor, b, Nat.testBit_xor]
    cases (2 ^ (k + 1) * (x / 2 ^ (k + 1)) + x % 2 ^ k).testBit i <;> cases (2 ^ k).testBit i <;> rfl
  | false =>
    rw [hb] at split
    simp only [Bool.false_eq_true, if_false, Nat.zero_add] at split
    simp only [Bool.false_eq_true, if_false]
    have e : 2 ^ (k + 1) * (x / 2 ^ (k + 1)) + (2 ^ k + x % 2 ^ k) = x + 2 ^ k := by omega
    rw [← e]
    apply Nat.eq_of_testBit_eq
    intro i
    rw [bits (x / 2 ^ (k + 1)) (x % 2 ^ k) i m, ← split]
theorem gray_lt {n k : Nat} (h : n < 2 ^ k) : gray n < 2 ^ k := by
  unfold gray
  refine Nat.xor_lt_two_pow h ?_
  rw [Nat.shiftRight_eq_div_pow]
  exact Nat.lt_of_le_of_lt (Nat.div_le_self _ _) h
theorem gray_mod {n k : Nat} (h : n < 2 ^ k) : gray n % 2 ^ k = gray n := Nat.mod_eq_of_lt (gray_lt h)
end M07
set_option Elab.async false
set_option maxRecDepth 100000
set_option maxHeartbeats 2000000
/-! Errors that are caught and kept: an exception object behind its suite. -/
namespace OB
open PySem PySem.Spec PyProof.Rows L2

section kit
open PySem.W PySem.Calls
variable {prog : Program} {w : World} {A : Around} {E : Value → Shared → Prop} {s : Shared} {K : Frag} {x D : Addr} {ox : Obj} {od : Option Obj}
theorem cls_data (hc : (clsIn K D).isSome = true) {nm : Str} {a g : Value} (ha : findIn K (.ref D) nm = some (some a)) (hg : specialIn K a "__get__" = some (some g)) (ht : takesIn K a = some true) :
    findObj K D od nm = some (.bind g a) := by
  cases e : clsIn K D with
  | none => rw [e] at hc; cases hc
  | some cd =>
    unfold findObj
    simp [e, ha, hg, ht]
/-- the class of an exception with or without a dict of its own -/
theorem exc_class {Q : Option Value → Shared → Prop} (C : ExcC K D) (X : K.In s.heap) (I : InstAt s.heap x ox D od) (k : Q (some (.ref D)) { s with toks := s.toks + 1 }) :
    wpAny (model prog w) A (getAttr? (.ref x) "__class__") Q E s := by
  have found : findObj K D od "__class__" = some (.bind (.builtin "getset_descriptor.__get__") (.builtin "object.__class__")) :=
    cls_data (by obtain ⟨cd, e, _⟩ := any_some C.hd; simp [e]) C.ha C.hn C.ht
  obtain ⟨h0, g0, d0, t0, o0⟩ := s
  have ty0 := I.type (M := model prog w)
  have own := looks_findIn (M := model prog w) X C.hg
  have gat := looks_findIn (M := model prog w) X C.hk
  have fnd := looks_find (M := model prog w) X I found
  have isE : Looks (model prog w) h0 (isInstance (.ref x) (.type "BaseException")) true := ty0.andThen (looks_subIn X C.hs)
  have q2 : (Value.builtin "BaseException.__getattribute__" == Value.builtin "object.__getattribute__") = false := by decide +kernel
  have q1 : (onTheHeap (Value.ref D) && Value.builtin "BaseException.__getattribute__" == Value.builtin "object.__getattribute__") = false := by
    rw [q2, Bool.and_false]
  unfold getAttr? getAttrBy? getAttrBy
  refine wpAny_bind (wpAny_mkText (wpAny_bind (wpAny_attempt (wpAny_holding (wpAny_bind (ty0.at (wpAny_bind (own.at ?_))))))))
  dsimp only
  rw [q1]
  unfold getAttrByItsOwn hookBefore
  simp only [Bool.false_eq_true, if_false]
  refine wpAny_bind ?_
  rw [if_pos (show onTheHeap (Value.ref D) = true from rfl)]
  refine gat.at ?_
  refine wpAny_bind (wpAny_attempt (wpAny_holding ?_))
  unfold callGetattribute
  rw [if_neg (by decide)]
  unfold boundAndCalled
  rw [PySem.F.excAttr_ValueError.ga.bind (.ref x)]
  refine wpAny_bind (wpAny_pure ?_)
  refine wpAny_call (codeAny_call_builtin PySem.F.excAttr_ValueError.ga.plain PySem.F.entry_bexc_ga ?_)
  refine @check_slot (model prog w) _ _ ⟨h0, g0, d0, t0 + 1, o0⟩ "BaseException.__getattribute__" "BaseException" "__getattribute__" (.ref x) [.str "__class__" t0] [] _ (by decide +kernel) (by decide +kernel) isE
    (PySem.F.args_bexc_ga (.ref x) (.str "__class__" t0)) ?_
  unfold Builtin.«object.__getattribute__»
  refine wpAny_bind (wpAny_of_eq (a := ((Value.ref x : Value), [Value.str "__class__" t0])) (by first | rfl | (simp only [slotArgs]; rfl)) ?_)
  refine wpAny_bind (wpAny_pure (wpAny_bind (ty0.at (wpAny_bind (fnd.at ?_)))))
  dsimp only
  refine wpAny_bind (wpAny_holding (wpAny_call (class_get (s := ⟨h0, g0, d0, t0 + 1, o0⟩) (ox := ox) (od := od) X I C.hm ?_)))
  refine wpAny_pure ?_
  show wpAny _ _ (handedOut (.ref D)) _ _ _
  rw [handedOut_of (v := .ref D) rfl]
  first
    | exact wpAny_pure (wpAny_pure k)
    | exact wpAny_pure k
    | exact wpAny_pure (wpAny_bind (wpAny_pure (wpAny_pure k)))
theorem exc_kit (C : ExcC K D) : KitX K (.ref x) (.ref D) (fun h => InstAt h x ox D od) := by
  obtain ⟨cd, hcd, _⟩ := any_some C.hd
  unfold clsIn at hcd
  split at hcd
  · rename_i c1 d1 cd1 sl1 look
    refine ⟨fun _ _ _ I => I.type, fun M h X _ A' Q' E' s' keep q => ?_, fun h tp dd its n sl X htp => ?_, fun X I k => exc_class C X I k⟩
    · unfold isType loadHead
      exact wpAny_bind (wpAny_loadPart (keep _ _ (X _ _ look)) (wpAny_pure q))
    · cases e : (Value.ref D == Value.ref tp) with
      | false => rfl
      | true =>
        have e2 : D = tp := Value.ref.inj (beq_iff_eq.mp e)
        rw [← e2] at htp
        have z := (X _ _ look).symm.trans htp
        cases z
  · cases hcd
end kit

/-- an exception object that is kept: its class, its own dict -/
def ExA (cls : Value) (d : Option Addr) (a : Addr) : HO := .ext fun h => ∃ (oe : Obj) (vs : Array Value), h.get? a = some oe ∧ Zc cls d oe ∧ oe.data = .fields vs
theorem exA_ok {P : Program} {w : World} {H : Hp} {h : Heap} {a : Addr} {cls : Value} {d : Option Addr} {oe : Obj} {vs : Array Value} (e : h.get? a = some oe) (z : Zc cls d oe) (f : oe.data = .fields vs) : ObjOk P w H h a (ExA cls d a) :=
  ⟨⟨oe, vs, e, z, f⟩, ⟨oe, e⟩, fun _ _ ⟨o, v, q, r⟩ k => ⟨o, v, k o q, r⟩⟩
theorem exA_at {P : Program} {w : World} {H : Hp} {h : Heap} {a : Addr} {cls : Value} {d : Option Addr} (ok : HOk P w H h) (e : H a = some (ExA cls d a)) : ∃ (oe : Obj) (vs : Array Value), h.get? a = some oe ∧ Zc cls d oe ∧ oe.data = .fields vs := by
  have z : ObjOk P w H h a (ExA cls d a) := ok a _ e
  exact z.1

section
variable {X : Cx} {pins : List (Addr × Obj)} {σ : L2.St} {H : Hp} {s : Shared}
/-- an object that came behind the entry is tracked from now on -/
theorem track {a : Addr} {o : HO} (I : Inv X pins σ H s) (hn : H a = none) (h0 : X.s_0.heap.get? a = none) (nL : a ≠ X.env.locals) (nC : ∀ x c, X.env.cells.lookup x = some c → c ≠ a)
    (nP : ∀ p ∈ X.pn ++ pins, p.1 ≠ a) (new : ObjOk X.prog X.w (upd H a o) s.heap a o) : Inv X pins σ (upd H a o) s := by
  have ne : ∀ {b u}, X.s_0.heap.get? b = some u → b ≠ a := fun {b u} e z => by
    rw [z, h0] at e
    cases e
  refine ⟨I.ok, I.os, I.bare, ⟨I.base.keep, I.base.slot, fun b u e n hx => ?_, I.base.there, fun b xs e => ?_, fun b u v e => ?_, fun b ps e => ?_⟩, I.loc, I.cell, ?_, fun x c e => ?_, fun p hp => ?_, ?_, I.len⟩
  · rw [upd_ne (ne e)]
    exact I.base.free b u e n hx
  · have q := I.base.tups b xs e
    rw [upd_ne (ne_of_none q hn)]
    exact q
  · have q := I.base.frzs b u v e
    rw [upd_ne (ne_of_none q hn)]
    exact q
  · obtain ⟨m, q⟩ := I.base.tbls b ps e
    exact ⟨m, by rw [upd_ne (ne_of_none q hn)]; exact q⟩
  · rw [upd_ne (Ne.symm nL)]
    exact I.free
  · rw [upd_ne (nC x c e)]
    exact I.freeC x c e
  · obtain ⟨e, n, r1, r2, r3⟩ := I.pin p hp
    exact ⟨e, by rw [upd_ne (nP p hp)]; exact n, r1, r2, r3⟩
  · exact I.hok.laidN (fun _ _ e => e) hn new
end

/-- what 'except x as n: kept = n' wishes: behind it slot j holds the exception, which is tracked -/
def wKeep (K : PySem.W.Frag) (c : Value) (i j : Nat) (Wout : WX) (D : Ends) : WX := fun cls d σ H =>
  ∃ b, PySem.W.exmOne K cls c = some b ∧
    (b = true → ∀ a, H a = none → D.nx (((σ.set i (some (.ref a))).set j (some (.ref a))).set i none) (upd H a (ExA cls d a))) ∧ (b = false → Wout cls d σ H)

section
variable {X : Cx} {x n m : Str} {c : Value} {i j : Nat} {body : List Stmt} {np pos pos' p1 p2 p3 : Pos} {tb : WX → TS} {Wout : WX}
theorem ps_try_keep (hs : X.stack = X.env :: X.outer) (hf : X.env.frame = some X.env.locals) (hx : X.ex = []) (hN : X.N.Nodup) (hi : X.N[i]? = some n) (hln : X.env.kindOf n = some .local)
    (hj : X.N[j]? = some m) (hlm : X.env.scope.names.lookup m = some .local) (hc : Names X x c) (tk : Takes X Wout)
    (hb : ∀ (W : WX) (pn : List (Addr × Obj)) (xe : Value → Shared → Prop), Takes (X.tr pn xe) W → PassesOwn (model X.prog X.w) X.A X.env xe → PSs (X.tr pn xe) body (tb W))
    (hdn : (n == ("__debug__" : Str)) = false := by decide) (hcn : (n == ("__classdict__" : Str)) = false := by decide)
    (hsw : ∀ env : Env, swapsWith (.Name n p2) (some (.Name m p1)) p3.line env = pure false := by intro _; rfl) :
    PS X (.Try body [.ExceptHandler (some (.Name x np)) (some n) [.Assign [.Name m p1] (.Name n p2) p3] pos'] [] [] pos) (fun D σ H => tb (wKeep X.K c i j Wout D) D σ H) := by
  refine ⟨fun pins s σ H D I h => ?_⟩
  have okX := I.ok
  have frames : X.A.frames = some (X.env :: X.outer) := by rw [okX.frames, hs]
  have lj : Loc X.env.scope m := .inl hlm
  refine wpAny_Try_except ?_
  have run := (hb (wKeep X.K c i j Wout D) (X.pn ++ pins) (fun e s₁ => wpAny (model X.prog X.w) X.A (noteFrame e X.env)
    (fun _ s₂ => wpAny (model X.prog X.w) X.A (setFlight e none)
      (fun _ s₃ => wpAny (model X.prog X.w) X.A (handleBy e X.env [.ExceptHandler (some (.Name x np)) (some n) [.Assign [.Name m p1] (.Name n p2) p3] pos']) (SP X pins D) X.xe s₃) X.xe s₂) X.xe s₁)
    (fun u s' air => ?_) PassesOwn.looking).run [] s σ H D (I.toTry _) h
  · refine wpAny_mono run (fun f s1 end1 => ?_) (fun _ _ z => z)
    cases f with
    | next =>
      obtain ⟨σ1, H1, J1, q⟩ := end1
      exact wpAny_execs_nil ⟨σ1, H1, J1.ofTry okX, q⟩
    | ret u =>
      obtain ⟨v, σ1, H1, J1, r, q⟩ := end1
      exact ⟨v, σ1, H1, J1.ofTry okX, r, q⟩
    | brk =>
      obtain ⟨σ1, H1, J1, q⟩ := end1
      exact ⟨σ1, H1, J1.ofTry okX, q⟩
    | cont =>
      obtain ⟨σ1, H1, J1, q⟩ := end1
      exact ⟨σ1, H1, J1.ofTry okX, q⟩
  · obtain ⟨a, B, sI, pins1, σ1, H1, cls, d, rfl, J0, ground, up0, sky, na, os1, bare1, b, hb1, yes, no⟩ := air
    have J : Inv X pins σ1 H1 sI := J0.ofTry okX
    have skyX : Sky B (X.env :: X.outer) a (Zc cls d) X.env.locals s'.heap := by
      rw [← hs]
      exact sky
    have Ba : B.get? a = none := by
      rcases skyX with ⟨_, z, _⟩ | ⟨_, z, _⟩ | ⟨_, z, _⟩ <;> exact z
    show wpAny (model X.prog X.w) X.A (noteFrame (.ref a) X.env) _ _ _
    refine Sky.land Zc.steady frames hf skyX fun h3 fl3 up3 => ?_
    have J3 : Inv X pins σ1 H1 { s' with heap := h3 } := J.landed ground fl3.1 (up0.trans up3) os1 bare1
    obtain ⟨oe3, vs3, he3, hz3, hd3⟩ := fl3.there
    have off : a ∉ frs (X.env :: X.outer) := fun hm => by
      obtain ⟨_, o', e', hnf⟩ := fl3.2.2.1.mem hm
      rw [he3] at e'
      cases e'
      exact hnf _ hd3
    have sIa : sI.heap.get? a = none := by
      cases e : sI.heap.get? a with
      | none => rfl
      | some o =>
        have z := ground a o e (by rw [hs]; exact off)
        rw [Ba] at z
        cases z
    have s0a : X.s_0.heap.get? a = none := by
      cases e : X.s_0.heap.get? a with
      | none => rfl
      | some o =>
        obtain ⟨o', z⟩ := J.base.there a o e (by rw [hx]; exact fun z => nomatch z)
        rw [sIa] at z
        cases z
    have nL : a ≠ X.env.locals := fun z => off (List.mem_filterMap.mpr ⟨X.env, List.mem_cons_self, by rw [hf, z]⟩)
    have nF : a ∉ X.fs := fun hm => by
      obtain ⟨e, he, q⟩ := List.mem_filterMap.mp hm
      exact off (List.mem_filterMap.mpr ⟨e, List.mem_cons_of_mem _ he, q⟩)
    have nC : ∀ y k, X.env.cells.lookup y = some k → k ≠ a := fun y k e z => by
      obtain ⟨v, o, ho, _⟩ := J.cell y k e
      rw [z, sIa] at ho
      cases ho
    have nP : ∀ p ∈ X.pn ++ pins, p.1 ≠ a := fun p hp z => by
      have q := (J.pin p hp).1
      rw [z, sIa] at q
      cases q
    have S3 := J3.suite he3 hd3 na nL nF
    refine wpAny_handleBy_cons (codeAny_handlers_test ?_) (by intro q; cases q)
    have LT : PySem.W.Looks (model X.prog X.w) h3 (typeOf (.ref a)) cls := fun A Q E s k q => wpAny_typeOf_ref (k _ _ he3) (by rw [hz3.1]; exact q)
    have LM := PySem.W.exm_one (M := model X.prog X.w) (J3.kIn) LT hb1
    have named : ∀ {Q : Value → Shared → Prop} {E : Value → Shared → Prop}, Q c { s' with heap := h3 } →
        wpAny (model X.prog X.w) (X.A.mark (some (.ref a))) (eval (.Name x np) X.env) Q E { s' with heap := h3 } := fun {Q E} q => by
      obtain ⟨hg, hdbg, hm | ⟨hm, hv, hnn⟩⟩ := hc
      · exact ld_glob (X := X.suite a ((a, oe3) :: (X.pn ++ pins))) S3 hg hm q hdbg
      · exact ld_blt (X := X.suite a ((a, oe3) :: (X.pn ++ pins))) S3 hg hm hv q hnn hdbg
    refine named (LM.here ?_)
    cases b with
    | true =>
      refine codeAny_handlers_suite_as ?_
      refine HandSPX.lands_againZ fl3 fun h4 fl4 up4 => ?_
      have J4 : Inv X pins σ1 H1 { s' with heap := h4 } := J.landed ground fl4.1 ((up0.trans up3).trans up4) os1 bare1
      obtain ⟨oe4, vs4, he4, hz4, hd4⟩ := fl4.there
      have S4 := J4.suite he4 hd4 na nL nF
      refine store_ok (X := X.suite a ((a, oe4) :: (X.pn ++ pins))) (v := .ref a) S4 hN hi (.inl hln) rfl (fun s5 S5 => ?_) (.inr hln)
      have hiσ : i < σ1.length := by
        rw [J.len]
        exact (List.getElem?_eq_some_iff.mp hi).1
      have kept := pss_one (ps_set (X := X.suite a ((a, oe4) :: (X.pn ++ pins))) (pos := p3) (pos' := p1) hN hj lj (pe_var (X := X.suite a ((a, oe4) :: (X.pn ++ pins))) (pos := p2) hi (.inl hln) hdn hcn) (hsw _) (.inr hlm))
      refine wpAny_mono (kept.run [] s5 _ H1 { nx := fun σ' H' => H' = H1 ∧ σ' = (σ1.set i (some (.ref a))).set j (some (.ref a)), rt := fun _ _ => False, bk := fun _ _ => False, ct := fun _ _ => False } S5
        ⟨.ref a, by rw [List.getElem?_set_self hiσ], rfl, rfl⟩) (fun f s6 end6 => ?_) (fun _ _ z => False.elim z)
      cases f with
      | next =>
        obtain ⟨σ6, H6, S6, e6, e7⟩ := end6
        subst e6 e7
        have at6 := (S6.pin (a, oe4) (List.mem_append_left _ List.mem_cons_self)).1
        have J6 : Inv X pins _ H6 s6 := S6.unsuite okX
        have J7 := track (o := ExA cls d a) J6 na s0a nL nC nP (exA_ok at6 hz4 hd4)
        exact gone_ok J7 hN hi hln fun s8 J8 => ⟨_, _, J8, yes rfl a na⟩
      | ret u =>
        obtain ⟨_, _, _, _, _, z⟩ := end6
        exact z.elim
      | brk =>
        obtain ⟨_, _, _, z⟩ := end6
        exact z.elim
      | cont =>
        obtain ⟨_, _, _, z⟩ := end6
        exact z.elim
    | false =>
      show wpAny _ X.A (handleBy (.ref a) X.env []) _ _ _
      refine wpAny_handleBy_nil ?_
      obtain ⟨k1, k2, k3, oe, vs, T, oT, ts', he, hz, hd, h1, hr⟩ := id fl3
      unfold PySem.passOn
      refine wpAny_bind (wpAny_field he hd h1 ?_)
      rw [if_neg (by simp)]
      have out : wpAny (model X.prog X.w) X.A (setFlight (.ref a) X.env.frame) (fun _ s4 => wpAny (model X.prog X.w) X.A (throw (.ref a) : Sem Flow) (SP X pins D) X.xe s4) X.xe { s' with heap := h3 } := by
        rw [hf]
        refine HandSPX.setFlight_upZ fl3 fun h4 hh4 up4 => wpAny_throw (tk _ _ ?_)
        exact ⟨a, B, sI, pins, σ1, H1, cls, d, rfl, J, ground, (up0.trans up3).trans up4, .inr (.inr (by rw [hs]; exact hh4)), na, os1, bare1, no rfl⟩
      first
        | exact wpAny_bind (wpAny_pure (wpAny_bind out))
        | exact wpAny_bind out
end

/-- isinstance(e, c), e an exception that is kept -/
def rIsX (K : PySem.W.Frag) : List V → Hp → VK → Prop := fun xs H Q => ∃ (a D : Addr) (d : Option Addr) (c : V) (u : Value) (b : Bool), xs = [.ref a, c] ∧ ExcC K D ∧ H a = some (ExA (.ref D) d a) ∧ (∀ dd, d = some dd → ∃ fs, H dd = some (.xd fs)) ∧ ClsV c u ∧ PySem.W.kitOne K (.ref D) u = some b ∧ Q (.bl b) H
theorem inst_at {X : Cx} {pins : List (Addr × Obj)} {σ : L2.St} {H : Hp} {s : Shared} {a D : Addr} {d : Option Addr} (I : Inv X pins σ H s) (ha : H a = some (ExA (.ref D) d a)) (hd : ∀ dd, d = some dd → ∃ fs, H dd = some (.xd fs)) :
    ∃ oe od, PySem.W.InstAt s.heap a oe D od := by
  obtain ⟨oe, vs, e, ⟨z1, z2⟩, f⟩ := exA_at I.hok ha
  obtain ⟨oc, odd, oda, osl⟩ := oe
  dsimp only at z1 z2 f
  subst z1 z2 f
  cases odd with
  | none => exact ⟨_, none, e, rfl, rfl, trivial⟩
  | some dd =>
    obtain ⟨fs, hfs⟩ := hd dd rfl
    obtain ⟨mA, hns, _⟩ := (show ObjOk X.prog X.w H s.heap dd (.xd fs) from I.hok dd _ hfs)
    obtain ⟨od, ho, _⟩ := lookIn_ns hns
    exact ⟨_, some od, e, rfl, rfl, ho⟩
theorem call_isX {X : Cx} : CallR X (.builtin "isinstance") (rIsX X.K) := by
  intro pins s σ H xs us Q I r h
  obtain ⟨a, D, d, c, u, b, rfl, C, ha, hd, hc, e, q⟩ := h
  obtain ⟨u1, u2, rfl, r1, r2⟩ := vals2 r
  have e2 := hc.eq r2
  subst e2
  obtain rfl : u1 = Value.ref a := r1
  obtain ⟨oe, od, J⟩ := inst_at I ha hd
  exact PySem.W.kia_one (exc_kit C) I.kIn J e (fun z => nomatch z) fun tk => ⟨.bl b, H, I.tok tk, rfl, q⟩
theorem call_or {X : Cx} {f : Value} {r1 r2 : List V → Hp → VK → Prop} (h1 : CallR X f r1) (h2 : CallR X f r2) : CallR X f (fun xs H Q => r1 xs H Q ∨ r2 xs H Q) := by
  intro pins s σ H xs us Q I r h
  rcases h with h | h
  · exact h1 pins s σ H xs us Q I r h
  · exact h2 pins s σ H xs us Q I r h
/-- e.f of an exception that is kept -/
def tXa (K : PySem.W.Frag) (f : Str) (te : TE) : TE := fun σ H Q => te σ H fun x H1 => ∃ (a D dd : Addr) (fs : List (Str × V)) (v : V), x = .ref a ∧ XfC K D ∧ PySem.W.findIn K (.ref D) f = some none ∧ H1 a = some (ExA (.ref D) (some dd) a) ∧ H1 dd = some (.xd fs) ∧ fs.lookup f = some v ∧ Q v H1
theorem pe_xa {X : Cx} {e : Expr} {te : TE} {pos : Pos} {n : Str} (he : PE X e te) (hb : attributeBase e n X.env (eval e X.env) = eval e X.env := by rfl) : PE X (.Attribute e n pos) (tXa X.K n te) := by
  refine ⟨fun pins s σ H Q I h => ?_⟩
  refine attr_of hb (thn (he.run pins s σ H _ I h) fun u s1 got => ?_)
  obtain ⟨y, H1, I1, ry, a, D, dd, fs, v, rfl, T, hno, ha, hdd, hl, q⟩ := got
  obtain rfl : u = Value.ref a := ry
  obtain ⟨oe, vs, eo, ⟨z1, z2⟩, hd⟩ := exA_at I1.hok ha
  obtain ⟨mA, hns, hr⟩ := (show ObjOk X.prog X.w H1 s1.heap dd (.xd fs) from I1.hok dd _ hdd)
  obtain ⟨od, ho, lk⟩ := lookIn_ns hns
  obtain ⟨u, hu, ru⟩ := RelO.some_of (v := v) (o := mA n) (by rw [← hl]; exact hr n)
  have J : PySem.W.InstAt s1.heap a oe D (some od) := ⟨eo, z1, by unfold PySem.W.notCls; rw [hd] <;> rfl, by rw [z2]; exact ho⟩
  exact HandSPX.exc_get I1.kIn J T.ga T.gg T.exC (PySem.W.findObj_own T.hdC hno rfl (by rw [lk, hu])) (handed_of ru) ⟨v, H1, I1.tok _, ru, q⟩
end OB
/-! Lambdas handed to a def: with no parameter, or with one that has a written int as its default. -/
namespace OB
open PySem PySem.Spec PyProof.Rows L2 LamX

section kit
open PySem.W PySem.Calls
abbrev lFn (qual : Str) (params : Arguments) (body : Expr) (scope : Scope) (cl : List (Str × Addr)) (dV pm cdv ct : Value) : FuncData :=
  { name := "<lambda>", qualname := qual, params := params, body := .expr body, scope := scope, globals := mainGlobals, closure := cl, defaults := dV, kwdefaults := .none, doc := .none, pyModule := pm, annotations := none, code := cdv, closureTuple := ct, builtins := builtinsNs }
abbrev lObj (qual : Str) (params : Arguments) (body : Expr) (scope : Scope) (cl : List (Str × Addr)) (dV pm cdv ct : Value) : Obj :=
  { cls := .type "function", data := .func (lFn qual params body scope cl dV pm cdv ct) }
variable {M : Model} {A : Around} {E : Value → Shared → Prop} {s : Shared} {qual : Str} {params : Arguments} {body : Expr} {scope : Scope} {env : Env} {c P : Addr} {ps : Array Value} {pos : Pos} {firstLine : Nat} {mg : Str → Option Value}
  {clos : List (Str × Addr)} {Q : Value → Shared → Prop} {dV : Value}
/-- a lambda's object is made: the code object comes by hcode1 -/
theorem tail_by (hcl : closureFor scope env = pure clos) (hge0 : env.globals = mainGlobals) (hg : s.heap.Ns mainGlobals mg) (hgP : mainGlobals ≠ P) (hb : s.heap.BuiltinsAt mg P)
    {G : Value → Heap → Heap → Prop}
    (hG : ∀ cv h1 h2, G cv h1 h2 → Heap.ExtBut P h1 h2 ∧ h1.objs.size ≤ h2.objs.size)
    (code : ∀ (h1 : Heap) (tk1 : Tok) (Q1 : Value → Shared → Prop), (∀ b o, s.heap.get? b = some o → h1.get? b = some o) → s.heap.objs.size ≤ h1.objs.size →
      (∀ cv h2 tk, G cv h1 h2 → Q1 cv { s with heap := h2, toks := tk }) → wpAny M A (functionCode env pos firstLine "<lambda>" qual params scope (.expr body)) Q1 E { s with heap := h1, toks := tk1 })
    (h : ∀ cv ctv h1 h2 tk, (∀ b o, s.heap.get? b = some o → h1.get? b = some o) → s.heap.objs.size ≤ h1.objs.size → G cv h1 h2 →
      Q (.ref h2.objs.size) { s with heap := h2.push (lObj qual params body scope clos dV ((mg "__name__").getD .none) cv ctv), toks := tk }) :
    wpAny M A (makeTail "<lambda>" qual params (.expr body) scope env dV .none none pos firstLine) Q E s := by
  obtain ⟨bm, ob, hbm, hne0, _, hneP, hbo, hcls, hdict, hdata⟩ := hb
  have go : ∀ (ctv : Value) (h1 : Heap) (tk1 : Tok), (∀ b o, s.heap.get? b = some o → h1.get? b = some o) → s.heap.objs.size ≤ h1.objs.size →
      wpAny M A (functionCode env pos firstLine "<lambda>" qual params scope (.expr body) >>= fun cv => builtinsFor mainGlobals env.builtins >>= fun bi => nsGet mainGlobals "__name__" >>= fun nm => pure Value.none >>= fun doc =>
        newObj (.type "function") (.func { name := "<lambda>", qualname := qual, params := params, body := .expr body, scope := scope, globals := mainGlobals, closure := clos, closureTuple := ctv, code := cv, builtins := bi, defaults := dV, kwdefaults := .none, annotations := none, pyModule := nm.getD .none, doc := doc })) Q E { s with heap := h1, toks := tk1 } := by
    intro ctv h1 tk1 k1 z1
    refine wpAny_bind (code h1 tk1 _ k1 z1 fun cv h2 tk g => ?_)
    obtain ⟨x2, z2⟩ := hG cv h1 h2 g
    have hg2 := (hg.keeps k1).extBut x2 hgP
    refine wpAny_bind (wpAny_builtinsFor hg2 hbm hne0 (x2 _ _ hneP (k1 _ _ hbo)) hcls hdict hdata ?_)
    refine wpAny_bind (wpAny_nsGet hg2 ?_)
    exact wpAny_bind (wpAny_pure (wpAny_newObj_type (h cv ctv h1 h2 tk k1 z1 g) (by size_fits)))
  unfold makeTail
  rw [hcl, hge0]
  refine wpAny_bind (wpAny_pure ?_)
  cases clos with
  | nil => exact wpAny_bind (wpAny_pure (go .none s.heap s.toks (fun _ _ e => e) (Nat.le_refl _)))
  | cons q r =>
    refine wpAny_bind (wpAny_newTextTuple ?_)
    exact go _ _ s.toks (fun b o e => Heap.get?_push_of_some _ e) (by rw [Heap.size_push]; omega)
end kit

section
variable {X : Cx} {pins : List (Addr × Obj)} {σ : L2.St} {H : Hp} {s : Shared}
/-- what stands of a lambda's defaults: none, or a tuple of ints that nobody tracks -/
def DflAt (h : Heap) (H : Hp) (fs : List Addr) (dV : Value) : List Value → Prop
  | [] => dV = .none
  | ds => ∃ (T : Addr) (o : Obj) (n : Nat), dV = .ref T ∧ h.get? T = some o ∧ o.data = .seq ds.toArray n ∧ H T = none ∧ T ∉ fs
/-- a lambda is made from makeTail on -/
theorem lam_tail {T : List (Addr × Str)} {c P : Addr} {params : Arguments} {body : Expr} {scope : Scope} {pos : Pos} {dV : Value} {ds : List Value} {E : Value → Shared → Prop} {Q : Value → Shared → Prop} (I : Inv X pins σ H s) (TB : TabB X.base X.mg c P) (hcode : X.env.code = .ref c)
    (hm : (P, X.env.qual ++ "<lambda>") ∈ T) (hu : ∀ p ∈ T, p.1 = P → p.2 = X.env.qual ++ "<lambda>") (hT : Tabs T H) (hfree : ∀ y ∈ scope.names, y.2 = .free → ∃ c, X.env.cells.lookup y.1 = some c)
    (hd : DflAt s.heap H (X.env.locals :: X.fs) dV ds)
    (h : ∀ (f c' : Addr) (pm ctv : Value) (H1 : Hp) (s' : Shared), Inv X pins σ H1 s' → ExtN H H1 → Tabs T H1 → DflAt s'.heap H1 (X.env.locals :: X.fs) dV ds →
      s'.heap.get? f = some (lObj (X.env.qual ++ "<lambda>") params body scope (cloFrom X.env.cells scope.names []) dV pm (.ref c') ctv) → H1 f = none → f ≠ X.env.locals → f ∉ X.fs → H1 c' = some (CodeO c' (X.env.qual ++ "<lambda>")) → Q (.ref f) s') :
    wpAny (model X.prog X.w) X.A (makeTail "<lambda>" (X.env.qual ++ "<lambda>") params (.expr body) scope X.env dV .none none pos pos.line) Q E s := by
  obtain ⟨ps, hP, ht, ha⟩ := hT _ hm
  have bP : s.heap.BuiltinsAt X.mg P := TB.bm.keeps I.bk
  have hP' : s.heap.get? P = some { cls := .none, data := .fields ps } := I.hok P _ hP
  have nLoc : ∀ f, s.heap.objs.size ≤ f → f ≠ X.env.locals := fun f hf z => by
    have h1 := I.lt
    rw [← z] at h1
    exact Nat.lt_irrefl _ (Nat.lt_of_lt_of_le h1 hf)
  have CH := TB.code.keeps I.bk
  have later : ∀ {h1 : Heap} {H1 : Hp}, (∀ b o, s.heap.get? b = some o → H b = none → b ≠ P → h1.get? b = some o) → (∀ b o, s.heap.get? b = some o → H b = none → H1 b = none) → DflAt h1 H1 (X.env.locals :: X.fs) dV ds := fun {h1 H1} k1 k2 => by
    cases ds with
    | nil => exact hd
    | cons d r =>
      obtain ⟨Td, o, n, e1, e2, e3, e4, e5⟩ := hd
      refine ⟨Td, o, n, e1, k1 _ _ e2 e4 (fun z => ?_), e3, k2 _ _ e2 e4, e5⟩
      rw [z, hP] at e4
      cases e4
  cases hc : codeAmong pos ps.toList with
  | none =>
    refine tail_by (mg := X.mg) (P := P) (closure_ok hfree) I.ok.glob (I.mod.glob.keeps I.bk) TB.gP bP
      (G := fun cv h1 h2 => ∃ c', cv = .ref c' ∧ Heap.ExtBut P h1 h2 ∧ h1.objs.size ≤ c' ∧ c' < h2.objs.size ∧ h2.CodeRec (.ref c') (X.env.qual ++ "<lambda>") ∧ h2.get? P = some (PySem.W.tabObj (ps ++ #[rawInt pos.line, rawInt pos.col, .ref c'])))
      (fun cv h1 h2 ⟨c', _, x, l1, l2, _⟩ => ⟨x, Nat.le_trans l1 (Nat.le_of_lt l2)⟩) (fun h1 tk1 Q1 k1 z1 q1 => ?_) (fun cv ctv h1 h2 tk k1 z1 g => ?_)
    · exact wpAny_functionCodeX hcode ((CH.keeps k1).code (k1 _ _ hP') ht) ((CH.keeps k1).tab (k1 _ _ hP')) hc fun c' h2 tk hx hge hlt _ hrec htb _ => q1 (.ref c') h2 tk ⟨c', rfl, hx, hge, hlt, hrec, htb.2⟩
    · obtain ⟨c', rfl, hx, hge, hlt, hrec, htb⟩ := g
      obtain ⟨c2, oc, vs, t, e2, hoc, hdc, hv⟩ := hrec
      cases e2
      have hge' : s.heap.objs.size ≤ c' := Nat.le_trans z1 hge
      have hsz : s.heap.objs.size ≤ h2.objs.size := Nat.le_trans hge' (Nat.le_of_lt hlt)
      have nC : H c' = none := I.hok.fresh hge'
      have I1 := inv_table (t' := tk) (more := #[rawInt pos.line, rawInt pos.col, .ref c']) (h' := h2.push (lObj (X.env.qual ++ "<lambda>") params body scope (cloFrom X.env.cells scope.names []) dV ((X.mg "__name__").getD .none) (.ref c') ctv)) I hP
        (fun b o hb e => Heap.get?_push_of_some _ (hx b o hb (k1 _ _ e))) (Heap.get?_push_of_some _ htb) hge' ⟨oc, vs, t, Heap.get?_push_of_some _ hoc, hdc, hv⟩
      have hE : ExtN H (upd (upd H P (.tbl (ps ++ #[rawInt pos.line, rawInt pos.col, .ref c']))) c' (CodeO c' (X.env.qual ++ "<lambda>"))) := fun b o e n => by
        rw [upd_ne (ne_of_none e nC), upd_ne (fun z => n ps (Option.some.inj (e.symm.trans (by rw [z]; exact hP))))]
        exact e
      have eL : (ps ++ #[rawInt pos.line, rawInt pos.col, .ref c']).toList = ps.toList ++ [rawInt pos.line, rawInt pos.col, .ref c'] := by simp
      refine h h2.objs.size c' _ ctv _ _ I1 hE (fun p hp => ?_) (later (fun b o e n hb => Heap.get?_push_of_some _ (hx b o hb (k1 _ _ e))) fun b o e n => ?_) (Heap.get?_push_size _ rfl) ?_ (nLoc _ hsz) (I.nofs hsz) upd_same
      · by_cases hb : p.1 = P
        · rw [hu p hp hb, hb]
          refine ⟨_, by rw [upd_ne (ne_of_none hP nC), upd_same], by rw [eL]; exact PySem.TriplesOk_snoc _ _ _ _ ht, fun p' cv hcv => ?_⟩
          rw [eL] at hcv
          rcases among_app _ ht hcv with z | z
          · obtain ⟨c0, e1, e2⟩ := ha p' cv z
            exact ⟨c0, e1, hE _ _ e2 codeO_ne⟩
          · exact ⟨c', z, upd_same⟩
        · obtain ⟨ps', a1, a2, a3⟩ := hT p hp
          refine ⟨ps', by rw [upd_ne (ne_of_none a1 nC), upd_ne hb]; exact a1, a2, fun p' cv hcv => ?_⟩
          obtain ⟨c0, e1, e2⟩ := a3 p' cv hcv
          exact ⟨c0, e1, hE _ _ e2 codeO_ne⟩
      · rw [upd_ne (Nat.ne_of_lt (Nat.lt_of_lt_of_le (Heap.lt_size e) hge')), upd_ne (fun z => by rw [z, hP] at n; cases n)]
        exact n
      · rw [upd_ne (Nat.ne_of_gt hlt), upd_ne (Nat.ne_of_gt (Nat.lt_of_lt_of_le (Heap.lt_size hP') hsz))]
        exact I.hok.fresh hsz
  | some cv0 =>
    obtain ⟨c', e, hco⟩ := ha pos cv0 hc
    subst e
    refine tail_by (mg := X.mg) (P := P) (closure_ok hfree) I.ok.glob (I.mod.glob.keeps I.bk) TB.gP bP
      (G := fun cv h1 h2 => cv = .ref c' ∧ h2 = h1) (fun cv h1 h2 ⟨_, e⟩ => by rw [e]; exact ⟨fun _ _ _ e => e, Nat.le_refl _⟩) (fun h1 tk1 Q1 k1 z1 q1 => ?_) (fun cv ctv h1 h2 tk k1 z1 g => ?_)
    · exact wpAny_functionCode_hit hcode ((CH.keeps k1).code (k1 _ _ hP') ht) hc (q1 (.ref c') h1 tk1 ⟨rfl, rfl⟩)
    · obtain ⟨rfl, rfl⟩ := g
      have kk : ∀ b o, s.heap.get? b = some o → (h2.push (lObj (X.env.qual ++ "<lambda>") params body scope (cloFrom X.env.cells scope.names []) dV ((X.mg "__name__").getD .none) (.ref c') ctv)).get? b = some o := fun b o e => Heap.get?_push_of_some _ (k1 _ _ e)
      exact h h2.objs.size c' _ ctv H _ (I.kept (t' := tk) kk) (ExtN.refl H) hT (later (fun b o e _ _ => kk b o e) fun _ _ _ n => n) (Heap.get?_push_size _ rfl) (I.hok.fresh z1) (nLoc _ z1) (I.nofs z1) hco
end
end OB
namespace OB
open PySem PySem.Spec PyProof.Rows L2 LamX

/-- a lambda's names: captured ones, globals, and its parameters nm, which are no names of the def around -/
structure LamN (sc scope : Scope) (N nm : List Str) : Prop where
  kind : scope.kind = .function
  co : scope.isCoroutine = false
  gen : scope.isGenerator = false
  own : ∀ y ∈ scope.names, y.2 ≠ .cell ∧ (y.2 = .local → y.1 ∉ N)
  par : ∀ x ∈ nm, scope.names.lookup x = some .local
  free : ∀ y ∈ scope.names, y.2 = .free → sc.names.lookup y.1 = some .cell ∨ sc.names.lookup y.1 = some .free
def lamNB (sc scope : Scope) (N nm : List Str) : Bool :=
  decide (scope.kind = .function) && !scope.isCoroutine && !scope.isGenerator &&
    (scope.names.all fun y => !decide (y.2 = .cell) && (!decide (y.2 = .local) || decide (y.1 ∉ N)) && (!decide (y.2 = .free) || decide (sc.names.lookup y.1 = some .cell) || decide (sc.names.lookup y.1 = some .free))) &&
    nm.all fun x => decide (scope.names.lookup x = some .local)
theorem lamN_by {sc scope : Scope} {N nm : List Str} (h : lamNB sc scope N nm = true) : LamN sc scope N nm := by
  unfold lamNB at h
  simp only [Bool.and_eq_true, Bool.or_eq_true, Bool.not_eq_true', decide_eq_true_eq, decide_eq_false_iff_not, List.all_eq_true] at h
  obtain ⟨⟨⟨⟨h1, h2⟩, h3⟩, h4⟩, h5⟩ := h
  refine ⟨h1, h2, h3, fun y hy => ⟨(h4 y hy).1.1, fun e => ?_⟩, fun x hx => h5 x hx, fun y hy e => ?_⟩
  · rcases (h4 y hy).1.2 with z | z
    · exact absurd e z
    · exact z
  · rcases (h4 y hy).2 with (z | z) | z
    · exact absurd e z
    · exact .inl z
    · exact .inr z
theorem LamN.has {X : Cx} {scope : Scope} {N nm : List Str} (L : LamN X.env.scope scope N nm) (ok : X.Ok) : ∀ y ∈ scope.names, y.2 = .free → ∃ c, X.env.cells.lookup y.1 = some c := fun y hy e => by
  rcases L.free y hy e with k | k
  · exact ok.has _ (.inl k)
  · exact ok.has _ (.inr k)
section
variable {X : Cx} {pins : List (Addr × Obj)} {σ : L2.St} {H HZ : Hp} {s s1 : Shared}
theorem lam_start {A : Around} {outer : List Env} {E : XK} {scope : Scope} {f c' : Addr} {h₁ : Heap} {tk : Nat} {nm : List Str} {m1 : Str → Option Value} (I : Inv X pins σ H s) (L : LamN X.env.scope scope X.N nm) (e0 : Env0 X.prog X.w X.K X.mg X.base A outer s1 HZ) (hd : A.handled = none)
    (un : Un (frs X.stack) [] H HZ s.heap s1.heap) (hns : h₁.Ns s1.heap.objs.size m1) (kp : ∀ b o, s1.heap.get? b = some o → h₁.get? b = some o) :
    Inv (lamCx X A outer s1 HZ E scope f c') [] σ HZ { s1 with heap := h₁, toks := tk } := by
  have hfree := L.has I.ok
  have up : ∀ {y c}, (cloFrom X.env.cells scope.names []).lookup y = some c → X.env.cells.lookup y = some c := fun {y c} e => by
    rcases cloFrom_mem (PySem.mem_of_lookup e) with hm | ⟨h1, h2⟩
    · cases hm
    · obtain ⟨c1, hc⟩ := hfree _ h1 rfl
      have hc : X.env.cells.lookup y = some c1 := hc
      rw [hc] at h2
      have h3 : c = c1 := h2
      rw [h3]
      exact hc
  have down : ∀ {y}, scope.names.lookup y = some .free → ∃ c, (cloFrom X.env.cells scope.names []).lookup y = some c := fun {y} hl =>
    mem_lookup (cloFrom_has (cells := X.env.cells) (acc := []) (PySem.mem_of_lookup hl))
  have cellK : ∀ {c : Addr} {v : Option Value}, H c = none → s.heap.IsCell c v → h₁.IsCell c v := fun {c v} n ⟨o, ho, hd⟩ => by
    obtain ⟨sl, q⟩ := un.any ho n (by simp)
    exact ⟨_, kp _ _ q, hd⟩
  have noX : ∀ b : Addr, b ∉ (lamCx X A outer s1 HZ E scope f c').ex := fun b z => absurd (show b ∈ ([] : List Addr) from z) (by simp)
  refine ⟨⟨e0.mod, L.kind, rfl, rfl, Nat.le_refl _, fun y z c e1 e2 => I.ok.inj y z c (up e1) (up e2), fun y hy => ?_, fun y c z _ => ?_, fun _ => hd, Around.frames_deeper e0.frames, .inr ⟨rfl, rfl⟩, fun b z => absurd z (noX b), e0.bs, e0.bsz, fun b _ _ => noX b,
      fun b z => absurd z (noX b), e0.funs, e0.frf⟩,
    rfl, e0.bare, Un.kept kp, ⟨_, hns, fun i y v e1 e2 e3 => ?_⟩, fun y c e => ?_, e0.hok.fresh (Nat.le_refl _), fun y c e => ?_, fun q hq => absurd (show q ∈ ([] : List (Addr × Obj)) ++ [] from hq) (by simp), e0.hok.kept kp, I.len⟩
  · have hy : scope.names.lookup y = some .cell ∨ scope.names.lookup y = some .free := hy
    rcases hy with hy | hy
    · exact absurd rfl (L.own _ (PySem.mem_of_lookup hy)).1
    · exact down hy
  · have z : false = true := z
    cases z
  · have e3 : Vis scope y := e3
    have e1 : X.N[i]? = some y := e1
    rcases e3 with k | k | k
    · exact absurd (List.mem_of_getElem? e1) ((L.own _ (PySem.mem_of_lookup k)).2 rfl)
    · exact absurd rfl (L.own _ (PySem.mem_of_lookup k)).1
    · obtain ⟨m, hn, hl⟩ := I.loc
      have vis : Vis X.env.scope y := (L.free _ (PySem.mem_of_lookup k) rfl).elim (fun k => .inr (.inl k)) (fun k => .inr (.inr k))
      obtain ⟨w', r, q⟩ := hl i y v e1 e2 vis
      obtain ⟨c2, h2⟩ := down k
      refine ⟨w', r, .inr ⟨.inr k, c2, h2, ?_⟩⟩
      have c1 := up h2
      rcases q with ⟨k', _⟩ | ⟨_, c3, e', z⟩
      · have k' : X.env.scope.names.lookup y = some .local := k'
        rcases L.free _ (PySem.mem_of_lookup k) rfl with k2 | k2 <;> rw [show X.env.scope.names.lookup y = _ from k2] at k' <;> cases k'
      · rw [c1] at e'
        cases e'
        exact cellK (I.freeC y _ c1) z
  · obtain ⟨w', z⟩ := I.cell y c (up e)
    exact ⟨w', cellK (I.freeC y c (up e)) z⟩
  · obtain ⟨v, o, ho, hd⟩ := I.cell y c (up e)
    exact un.free c o ho (I.freeC y c (up e)) (by simp)
/-- how a lambda called with nothing binds its parameters nm to their defaults ds -/
def LamB (params : Arguments) (nm : List Str) (ds : List Value) : Prop :=
  ∀ (q : Str) (body : Expr) (scope : Scope) (cl : List (Str × Addr)) (dV pm cv ctv : Value) (M : Model) (A : Around) (E : Value → Shared → Prop) (s : Shared) (H : Hp) (fs : List Addr) (Q : List (Str × Value) → Shared → Prop),
    DflAt s.heap H fs dV ds → Q (nm.zip ds) s → wpAny M A (bindArgs (lFn q params body scope cl dV pm cv ctv) ⟨[], []⟩) Q E s
theorem lamB0 {params : Arguments} (h : ∀ (q : Str) (body : Expr) (scope : Scope) (cl : List (Str × Addr)) (pm cv ctv : Value), bindArgs (lFn q params body scope cl .none pm cv ctv) ⟨[], []⟩ = pure []) : LamB params [] [] :=
  fun q body scope cl dV pm cv ctv M A E s H fs Q hd hq => by
    have hd : dV = .none := hd
    rw [hd, h]
    exact wpAny_pure hq
theorem lamB1 {params : Arguments} {a : Str} {d : Value} (h : ∀ (q : Str) (body : Expr) (scope : Scope) (cl : List (Str × Addr)) (T : Addr) (pm cv ctv : Value), ∃ k, bindArgs (lFn q params body scope cl (.ref T) pm cv ctv) ⟨[], []⟩ = seqItems? (.ref T) >>= k ∧ k (some #[d]) = pure [(a, d)]) : LamB params [a] [d] :=
  fun q body scope cl dV pm cv ctv M A E s H fs Q hd hq => by
    obtain ⟨T, o, n, rfl, e2, e3, _⟩ := hd
    obtain ⟨k, e, ek⟩ := h q body scope cl T pm cv ctv
    rw [e]
    refine wpAny_bind (wpAny_seqItems e2 e3 ?_)
    rw [show (some [d].toArray : Option (Array Value)) = some #[d] from rfl, ek]
    exact wpAny_pure hq
/-- x(), in the def that got the lambda: Z is that def's context, entered at s -/
theorem pe_act {CXg : CXT} {Eg : XK} {Ng : List Str} {qg : Str} {sg : Scope} {g f c' : Addr} {cdg pm ctv dV : Value} {ds : List Value} {nm : List Str} {params : Arguments} {body : Expr} {scope : Scope} {k i : Nat} {a : Str} {pn : List (Addr × Obj)} {xe : Value → Shared → Prop} {W : WX} {tb : XK → TE} {p1 p2 : Pos}
    (I : Inv X pins σ H s) (L : LamN X.env.scope scope X.N nm) (hf : s.heap.get? f = some (lObj (X.env.qual ++ "<lambda>") params body scope (cloFrom X.env.cells scope.names []) dV pm (.ref c') ctv)) (hfn : H f = none) (hfr : f ∉ X.env.locals :: X.fs)
    (hbind : LamB params nm ds) (hds : DflAt s.heap H (X.env.locals :: X.fs) dV ds)
    (tk : Takes ((cxOf CXg X.prog X.w X.K X.mg X.base Ng qg sg g cdg X.A X.stack s H Eg).tr pn xe) W) (hr : Room (k + 1) (X.A.deeper (envOfC qg sg s.heap.objs.size g cdg)))
    (hbody : ∀ (A : Around) (outer : List Env) (s : Shared) (H : Hp) (E : XK), Room k (A.deeper (lamEnv X scope s.heap.objs.size f c')) → PE (lamCx X A outer s H E scope f c') body (tb E))
    (hN : Ng[i]? = some a) (hv : Vis sg a) (hd : (a == ("__debug__" : Str)) = false := by decide) (hcd : (a == ("__classdict__" : Str)) = false := by decide) :
    PE ((cxOf CXg X.prog X.w X.K X.mg X.base Ng qg sg g cdg X.A X.stack s H Eg).tr pn xe) (.Call (.Name a p1) [] [] p2)
      (fun σZ HZ Q => σZ[i]? = some (some (.ref f)) ∧ HZ c' = some (CodeO c' (X.env.qual ++ "<lambda>")) ∧ tb (fun cls d H' => W cls d σZ H') σ HZ Q) := by
  have nst : ∀ {b : Addr}, b ∉ X.env.locals :: X.fs → b ∉ frs X.stack := fun {b} h z => h (I.stkSub b z)
  refine ⟨fun pinsZ sZ σZ HZ Q IZ h => ?_⟩
  obtain ⟨hs, hc, ht⟩ := h
  refine wpAny_Call_Name_kw (thn ((pe_var (pos := p1) (i := i) hN hv hd hcd).run pinsZ sZ σZ HZ (fun v H1 => v = .ref f ∧ H1 = HZ) IZ ⟨.ref f, hs, rfl, rfl⟩) fun u s1 ⟨v, H1, I1, r1, q1⟩ => ?_)
  obtain ⟨ev, eH⟩ := q1
  subst ev
  rw [eH] at I1
  obtain rfl : u = Value.ref f := r1
  have keep1 : ∀ {b : Addr} {o : Obj}, s.heap.get? b = some o → H b = none → b ∉ X.env.locals :: X.fs → s1.heap.get? b = some o ∧ HZ b = none := fun {b o} e n nf =>
    ⟨I1.base.keep b _ e n (nst nf) (fun z => nomatch (show b ∈ ([] : List Addr) from z)), I1.base.free b _ e n (fun z => nomatch (show b ∈ ([] : List Addr) from z))⟩
  have of1 := (keep1 hf hfn hfr).1
  have ds1 : DflAt s1.heap HZ (X.env.locals :: X.fs) dV ds := by
    cases ds with
    | nil => exact hds
    | cons d r =>
      obtain ⟨T, o, n, e1, e2, e3, e4, e5⟩ := hds
      exact ⟨T, o, n, e1, (keep1 e2 e4 e5).1, e3, (keep1 e2 e4 e5).2, e5⟩
  refine PySem.W.callWith_F0 ⟨_, _, _, _, of1⟩ ?_
  have un : Un (frs X.stack) [] H HZ s.heap s1.heap := I1.base
  obtain ⟨⟨oc, vs, t, hoc, hdc, hvc⟩, _, _⟩ := I1.hok c' _ hc
  have rc : codeAny (model X.prog X.w) (X.A.deeper (envOfC qg sg s.heap.objs.size g cdg)) (.call (.ref f) ⟨[], []⟩) (CR (L2.CX X.prog X.w) (envOfC qg sg s.heap.objs.size g cdg :: X.stack) X.prog X.w HZ s1 Q fun cls d H' => W cls d σZ H') s1 := by
    refine PySem.W.kla_callFunE hr.depth of1 rfl L.co L.gen rfl ⟨c', oc, vs, t, rfl, hoc, hdc, hvc⟩ ?_
    refine hbind _ _ _ _ _ _ _ _ _ _ _ s1 HZ _ _ ds1 ?_
    refine wpAny_newFunctionEnv (fun y hy => (L.own y hy).1) (fun y hy => L.par _ (List.of_mem_zip (by simpa using hy)).1) (fun h₁ hns hsb => ⟨I1.nolimit.fresh _ hsb, ?_⟩) L.kind
    show codeAny _ _ (.expr body (lamEnv X scope s1.heap.objs.size f c')) _ _
    have kp : ∀ b o, s1.heap.get? b = some o → h₁.get? b = some o := fun b o e => hsb.extBut b o (Nat.ne_of_lt (Heap.lt_size e)) (Heap.get?_push_of_some _ e)
    have J : Inv (lamCx X (X.A.deeper (envOfC qg sg s.heap.objs.size g cdg)) (envOfC qg sg s.heap.objs.size g cdg :: X.stack) s1 HZ (fun cls d H' => W cls d σZ H') scope f c') [] σ HZ { s1 with heap := h₁, toks := s1.toks + (nm.zip ds).length } :=
      lam_start I L I1.env0 hr.hd un hns kp
    refine PySem.W.kla_codeExpr (wpAny_mono ((hbody _ _ s1 HZ _ (hr.deeper _)).run [] _ _ HZ Q J ht) (fun v s' hq => ?_) fun e s' hq => hq)
    obtain ⟨w', H', J', rv, q⟩ := hq
    exact ⟨w', H', J'.os, J'.bare, J'.base, J'.hok, rv, q⟩
  refine wpAny_call (codeAny_mono rc fun r s' hq => ?_)
  cases r with
  | error e => exact tk e s' (XE.of_call I1 (fun _ _ _ h => h) hq)
  | ok fl =>
    cases fl with
    | ret u => exact I1.after hq
    | next => exact False.elim hq
    | brk => exact False.elim hq
    | cont => exact False.elim hq
end
/-- a reading that grows with what is wanted -/
def MonoL (tl : XK → Hp → VK → Prop) : Prop := ∀ (E1 E2 : XK) (H : Hp) (Q1 Q2 : VK), (∀ c d H', E1 c d H' → E2 c d H') → (∀ v H', Q1 v H' → Q2 v H') → tl E1 H Q1 → tl E2 H Q2
/-- the def that calls what it got, beside other values vs; TT: what it makes of the lambda's reading -/
def Gives (X : Cx) (Ng : List Str) (x : Str) (sg : Scope) (g : Addr) (cdg : Value) (bg : List Stmt) (a : Str) (q : Str) (k : Nat) (TT : List V → (XK → Hp → VK → Prop) → Hp → VK → Prop) : Prop :=
  ∀ (f c' : Addr) (vs : List V) (s : Shared) (H : Hp) (Q : VK) (tl : XK → Hp → VK → Prop), Room k (X.A.deeper (envOfC x sg s.heap.objs.size g cdg)) →
    (∀ (W : WX) (pn : List (Addr × Obj)) (xe : Value → Shared → Prop) (p1 p2 : Pos), Takes ((cxOf L2.CX0 X.prog X.w X.K X.mg X.base Ng x sg g cdg X.A X.stack s H fun _ _ _ => False).tr pn xe) W →
      PE ((cxOf L2.CX0 X.prog X.w X.K X.mg X.base Ng x sg g cdg X.A X.stack s H fun _ _ _ => False).tr pn xe) (.Call (.Name a p1) [] [] p2) (fun σZ HZ Q => σZ[0]? = some (some (.ref f)) ∧ HZ c' = some (CodeO c' q) ∧ tl (fun cls d H' => W cls d σZ H') HZ Q)) →
    H c' = some (CodeO c' q) → MonoL tl → TT vs tl H Q →
    ∃ t, PSs (cxOf L2.CX0 X.prog X.w X.K X.mg X.base Ng x sg g cdg X.A X.stack s H fun _ _ _ => False).nox bg t ∧ t { nx := fun _ H' => Q .non H', rt := Q } (L2.start Ng (.ref f :: vs)) H
def tLam2 (T : List (Addr × Str)) (vs : List V) (TT : List V → (XK → Hp → VK → Prop) → Hp → VK → Prop) (t : XK → TE) : TE := fun σ H Q => Tabs T H ∧ ∀ H1, ExtN H H1 → Tabs T H1 → TT vs (fun E H' Q' => t E σ H' Q') H1 Q
section
variable {X : Cx}
/-- x(lambda: body, rest ..), rest written constants -/
theorem pe_lam {T : List (Addr × Str)} {vs : List V} {TT : List V → (XK → Hp → VK → Prop) → Hp → VK → Prop} {x a : Str} {g c P : Addr} {k : Nat} {pg : Arguments} {bg : List Stmt} {sg : Scope} {dV kV doc pm cdv ct oc : Value} {an od : Option Addr} {osl : Array (Option Value)} {Ng ps nm : List Str}
    {params : Arguments} {body : Expr} {rest : List Expr} {tr : TA} {dts : List Int} {scope : Scope} {t : XK → TE} {p lpos pos : Pos} (hg : Gl X x) (hm : X.mg x = some (.ref g)) (hk : PySem.W.keepIn X.K (.ref g) = true)
    (lk : X.K.lookup g = some ⟨oc, od, .func (PySem.W.fnOf x x pg bg sg dV kV doc pm an cdv ct), osl⟩) (hcg : PySem.W.codeIn X.K cdv x = true) (hb : L2.Binds X.K (PySem.W.fnOf x x pg bg sg dV kV doc pm an cdv ct) (a :: ps) []) (Sg : FnScope Ng (a :: ps) sg) (hNg : Ng[0]? = some a) (hva : Vis sg a)
    (hG : Gives X Ng x sg g cdv bg a (X.env.qual ++ "<lambda>") (k + 1) TT)
    (TB : TabB X.base X.mg c P) (hcode : X.env.code = .ref c) (hmT : (P, X.env.qual ++ "<lambda>") ∈ T) (hu : ∀ p ∈ T, p.1 = P → p.2 = X.env.qual ++ "<lambda>") (hr : Room (k + 2) X.A) (L : LamN X.env.scope scope X.N nm)
    (hdef : (dts = [] ∧ defaultsOf params X.env = ([], [])) ∨ ∃ n j dp, dts = [n] ∧ defaultsOf params X.env = ([eval (.Constant (.int n) j dp) X.env], []))
    (hbind : ∀ ds : List Value, Vals (dts.map V.int) ds → LamB params nm ds)
    (hmono : ∀ σ : L2.St, MonoL fun E H' Q' => t E σ H' Q') (hrest : PA X rest tr) (htr : ∀ σ H Q, tr σ H Q = Q vs H) (hvl : vs.length = ps.length)
    (hbody : ∀ (A : Around) (outer : List Env) (s : Shared) (H : Hp) (E : XK) (f c' : Addr), Room k (A.deeper (lamEnv X scope s.heap.objs.size f c')) → PE (lamCx X A outer s H E scope f c') body (t E))
    (he : starEach (.Lambda params body scope lpos :: rest) X.env = (false, eval (.Lambda params body scope lpos) X.env) :: starEach rest X.env := by rfl) (hpl : (backTo pos (starEach rest X.env)).any (·.1) = false := by rfl)
    (hdb : (x == ("__debug__" : Str)) = false := by decide) (hd : (a == ("__debug__" : Str)) = false := by decide) (hcd : (a == ("__classdict__" : Str)) = false := by decide) :
    PE X (.Call (.Name x p) (.Lambda params body scope lpos :: rest) [] pos) (tLam2 T vs TT t) := by
  refine ⟨fun pins s σ H Q I h => ?_⟩
  obtain ⟨hT, h⟩ := h
  refine wpAny_Call_Name_kw (ld_glob I hg hm ?_ hdb)
  refine PySem.W.callWith_K (h₀ := X.base) I.ok.mod.kin hk ?_ he hpl
  rw [he]
  show wpAny _ _ (spliced ((false, eval (.Lambda params body scope lpos) X.env) :: backTo pos (starEach rest X.env))) _ _ s
  -- from the making of the object on
  have go : ∀ (s0 : Shared) (dV : Value) (ds : List Value), Inv X pins σ H s0 → Vals (dts.map V.int) ds → DflAt s0.heap H (X.env.locals :: X.fs) dV ds →
      wpAny (model X.prog X.w) X.A (PySem.makeTail "<lambda>" (X.env.qual ++ "<lambda>") params (.expr body) scope X.env dV .none none lpos lpos.line)
        (fun u s1 => wpAny (model X.prog X.w) X.A (spliced (backTo pos (starEach rest X.env))) (fun us s2 => X.K.In s2.heap ∧ wpAny (model X.prog X.w) X.A (call (.ref g) ([] ++ u :: us)) (EP X pins σ Q) X.xe s2) X.xe s1) X.xe s0 := by
    intro s0 dV ds I0 rd hd0
    refine lam_tail I0 TB hcode hmT hu hT (L.has I0.ok) hd0 fun f c' pm' ctv H1 s' I1 eN T1 hd1 hf hfn hfL hfF hco => ?_
    obtain ⟨pl, hpl1, hpl2⟩ : ∃ pl : List (Addr × Obj), (∀ p ∈ pl, s'.heap.get? p.1 = some p.2 ∧ H1 p.1 = none ∧ p.1 ≠ X.env.locals ∧ p.1 ∉ X.fs ∧ ∀ v, p.2.data ≠ .cell v) ∧ (∀ h2 : Heap, (∀ p ∈ pl, h2.get? p.1 = some p.2) → DflAt h2 H1 (X.env.locals :: X.fs) dV ds) := by
      cases ds with
      | nil => exact ⟨[], (fun p hp => nomatch hp), fun _ _ => hd1⟩
      | cons d r =>
        obtain ⟨Td, o, n, e1, e2, e3, e4, e5⟩ := hd1
        refine ⟨[(Td, o)], fun p hp => ?_, fun h2 k => ⟨Td, o, n, e1, k _ List.mem_cons_self, e3, e4, e5⟩⟩
        obtain rfl : p = (Td, o) := by simpa using hp
        exact ⟨e2, e4, fun z => e5 (by rw [show Td = X.env.locals from z]; exact List.mem_cons_self), fun z => e5 (List.mem_cons_of_mem _ z), fun v z => by
          have z' : o.data = .cell v := z
          rw [e3] at z'
          cases z'⟩
    have J : Inv X (pins ++ ((f, _) :: pl)) σ H1 s' := I1.pins_of (pins' := pins ++ ((f, lObj (X.env.qual ++ "<lambda>") params body scope (cloFrom X.env.cells scope.names []) dV pm' (.ref c') ctv) :: pl)) fun p hp => by
      rcases List.mem_append.mp hp with hp | hp
      · exact I1.pin p (List.mem_append_right _ hp)
      · rcases List.mem_cons.mp hp with e | hp
        · rw [e]
          exact ⟨hf, hfn, hfL, hfF, fun v z => nomatch z⟩
        · exact hpl1 p hp
    refine thn (hrest.run pos _ s' σ H1 (fun vs' H' => vs' = vs ∧ H' = H1) J (by rw [htr]; exact ⟨rfl, rfl⟩)) fun us s2 ⟨vs', H2, I2, r2, e1, e2⟩ => ?_
    subst e1
    rw [e2] at I2
    have hf2 := (I2.pin (f, _) (List.mem_append_right _ (List.mem_append_right _ List.mem_cons_self))).1
    have hd2 : DflAt s2.heap H1 (X.env.locals :: X.fs) dV ds := hpl2 _ fun p hp => (I2.pin p (List.mem_append_right _ (List.mem_append_right _ (List.mem_cons_of_mem _ hp)))).1
    have I3 : Inv X pins σ H1 s2 := I2.unpinned
    refine ⟨I3.kIn, ?_⟩
    have rv : Vals (V.ref f :: vs') (Value.ref f :: us) := .cons rfl r2
    have hlen : (Value.ref f :: us).length = (a :: ps).length := by
      rw [← rv.length, List.length_cons, List.length_cons, hvl]
    have rc : codeAny (model X.prog X.w) X.A (.call (.ref g) ⟨.ref f :: us, []⟩) (CR L2.CX0 X.stack X.prog X.w H1 s2 Q fun _ _ _ => False) s2 := by
      refine run_ofS (N := Ng) (ps := a :: ps) (us := .ref f :: us) (vs := .ref f :: vs') lk hcg Sg hr I3.env0 (by have z := hb s2 (Value.ref f :: us) I3.kIn (by rw [List.append_nil]; exact hlen); rw [List.append_nil] at z; exact z) rv (by rw [List.length_cons, List.length_cons, hvl]) fun hr' => ?_
      obtain ⟨t', ht', hq'⟩ := hG f c' vs' s2 H1 Q (fun E H' Q' => t E σ H' Q') hr' (fun W pn xe p1 p2 tk => pe_act (i := 0) I3 L hf2 hfn (fun z => (List.mem_cons.mp z).elim hfL hfF) (hbind ds rd) hd2 tk hr' (fun A outer s H E hr2 => hbody A outer s H E f c' hr2) hNg hva hd hcd) hco (hmono σ) (h H1 eN T1)
      exact ⟨t', ht'.nox, hq'⟩
    refine wpAny_call (codeAny_mono rc fun r s3 hq => ?_)
    cases r with
    | error e => exact (show False from hq).elim
    | ok fl =>
      cases fl with
      | ret u => exact I3.after hq
      | next => exact False.elim hq
      | brk => exact False.elim hq
      | cont => exact False.elim hq
  refine Calls.spliced_cons ?_
  rw [PySem.arm_eval_Lambda]
  rcases hdef with ⟨rfl, hdef⟩ | ⟨n, j, dp, rfl, hdef⟩
  · rw [hdef]
    refine wpAny_bind (wpAny_pure (wpAny_bind (wpAny_holding (wpAny_pure ?_))))
    rw [PySem.makeFunction_eq]
    simp only [List.zip_nil_right, List.filterMap_nil, List.isEmpty_nil, if_true, pure_bind]
    exact go s .none [] I .nil rfl
  · rw [hdef]
    refine wpAny_bind (m := evalAll [eval (.Constant (.int n) j dp) X.env]) ?_
    unfold evalAll evalAll
    refine wpAny_bind (thn ((pe_int (X := X) (i := n) (j := j) (pos := dp)).run pins s σ H (fun v H' => v = .int n ∧ H' = H) I ⟨rfl, rfl⟩) fun u s1 ⟨v, H1, I1, r1, e1, e2⟩ => ?_)
    subst e1
    rw [e2] at I1
    refine wpAny_bind (wpAny_holding (wpAny_pure (wpAny_pure ?_)))
    refine wpAny_bind (wpAny_holding (wpAny_pure ?_))
    rw [PySem.makeFunction_eq]
    simp only [List.zip_nil_right, List.filterMap_nil, List.isEmpty_nil, List.isEmpty_cons, Bool.false_eq_true, if_true, if_false, pure_bind]
    refine wpAny_bind (wpAny_newTextTuple ?_)
    have sz : s1.heap.objs.size ≤ s1.heap.objs.size := Nat.le_refl _
    refine go _ (.ref s1.heap.objs.size) [u] (I1.kept (t' := s1.toks) fun b o e => Heap.get?_push_of_some _ e) (.cons r1 .nil) ⟨_, _, _, rfl, Heap.get?_push_size _ rfl, rfl, I1.hok.fresh sz, fun z => ?_⟩
    rcases List.mem_cons.mp z with z | z
    · exact Nat.lt_irrefl _ (show s1.heap.objs.size < s1.heap.objs.size by
        have q := I1.lt
        rw [← z] at q
        exact q)
    · exact I1.nofs sz z
end
end OB
/-! What a law draws from: a list of a list of ints, how many draws were made, what is left of a great one. -/
namespace OB
open PySem PySem.Spec PyProof.Rows L2
/-- the lot stands at p, its ints at b; at most n draws were made -/
def Orch (H : Hp) (p b : Addr) (n : Nat) : Prop := ∃ (ns : List Int) (t l : Int), H p = some (.lst [.ref b, .int t, .int l]) ∧ H b = some (.lst (ns.map V.int)) ∧ 0 ≤ t ∧ t ≤ n
theorem Orch.ne {H : Hp} {p b : Addr} {n : Nat} (o : Orch H p b n) : p ≠ b := by
  obtain ⟨ns, t, l, h1, h2, _⟩ := o
  refine ne_of h1 h2 fun z => ?_
  injection z with z
  cases ns with
  | nil => cases z
  | cons a r =>
    injection z with z _
    cases z
theorem Orch.keep {H H' : Hp} {p b : Addr} {n : Nat} (o : Orch H p b n) (hp : ∀ u, H p = some u → H' p = some u) (hb : ∀ u, H b = some u → H' b = some u) : Orch H' p b n := by
  obtain ⟨ns, t, l, h1, h2, h3⟩ := o
  exact ⟨ns, t, l, hp _ h1, hb _ h2, h3⟩
theorem Orch.same {H H' : Hp} {p b : Addr} {n : Nat} (o : Orch H p b n) (s : Same H H') : Orch H' p b n := o.keep (fun u => s p u) fun u => s b u
theorem Orch.mono {H : Hp} {p b : Addr} {n m : Nat} (o : Orch H p b n) (h : n ≤ m) : Orch H p b m := by
  obtain ⟨ns, t, l, h1, h2, h3, h4⟩ := o
  exact ⟨ns, t, l, h1, h2, h3, by omega⟩
theorem Orch.pn {H : Hp} {p b : Addr} {n : Nat} (o : Orch H p b n) : ∃ u, H p = some u := by
  obtain ⟨ns, t, l, h1, h2, h3, h4⟩ := o
  exact ⟨_, h1⟩
theorem Orch.bn {H : Hp} {p b : Addr} {n : Nat} (o : Orch H p b n) : ∃ u, H b = some u := by
  obtain ⟨ns, t, l, h1, h2, h3, h4⟩ := o
  exact ⟨_, h2⟩
/-- all that was tracked is as it was, but what stands at p -/
def But (p : Addr) (H H' : Hp) : Prop := ∀ q o, H q = some o → q ≠ p → H' q = some o
theorem But.refl {p : Addr} {H : Hp} : But p H H := fun _ _ h _ => h
theorem But.of {p : Addr} {H H' : Hp} (s : Same H H') : But p H H' := fun q o h _ => s q o h
theorem But.trans {p : Addr} {H H1 H2 : Hp} (a : But p H H1) (b : But p H1 H2) : But p H H2 := fun q o h n => b q o (a q o h n) n
theorem same_new {H : Hp} {l : Addr} {o : HO} (h : H l = none) : Same H (upd H l o) := fun b u e => by
  rw [upd_ne (ne_of_none e h)]
  exact e
theorem but_at {H : Hp} {p : Addr} {o : HO} : But p H (upd H p o) := fun q u e n => by
  rw [upd_ne n]
  exact e
/-- a draw from many: some number below many; the lot goes on -/
def spDraw : Sp := fun vs H Q _ => ∃ (p b : Addr) (n : Nat) (many : Int), vs = [.ref p, .int many] ∧ Orch H p b n ∧ n < 1000000 ∧ 0 < many ∧ many.natAbs < 2 ^ 9000 ∧
  ∀ (r : Int) (H' : Hp), 0 ≤ r → r < many → Orch H' p b (n + 1) → But p H H' → Q (.int r) H'
/-- the lot is made of a list of ints -/
def spLot (K : PySem.W.Frag) : Sp := fun vs H Q _ => ∃ (a : Addr) (ns : List Int), vs = [.ref a] ∧ SqL K H a (ns.map V.int) ∧ ns.length ≤ 63 ∧
  ∀ (p b : Addr) (H' : Hp), H p = none → H b = none → Orch H' p b 0 → Same H H' → Q (.ref p) H'
theorem mix1 {x t A B m : Int} (hm : 0 < m) (hm2 : m < 2 ^ 31) (ht : 0 ≤ t) (ht2 : t ≤ 1000000) (hA : 0 ≤ A) (hA2 : A ≤ 1000000) (hB : 0 ≤ B) (hB2 : B ≤ 1000000) : (x % m + A * t + B).natAbs < 2 ^ 64 := by
  have h1 := Int.emod_nonneg x (by omega : m ≠ 0)
  have h2 := Int.emod_lt_of_pos x hm
  have h3 : A * t ≤ 1000000 * 1000000 := Int.mul_le_mul hA2 ht2 ht (by decide)
  have h4 : 0 ≤ A * t := Int.mul_nonneg hA ht
  omega
theorem mix2 {x t A B C m : Int} (hm : 0 < m) (hm2 : m < 2 ^ 31) (ht : 0 ≤ t) (ht2 : t ≤ 1000000) (hA : 0 ≤ A) (hA2 : A ≤ 1000000) (hB : 0 ≤ B) (hB2 : B ≤ 1000000) (hC : 0 ≤ C) (hC2 : C ≤ 1000000) : (x % m * (2 * t + C) + A * t * t + B).natAbs < 2 ^ 64 := by
  have h1 := Int.emod_nonneg x (by omega : m ≠ 0)
  have h2 := Int.emod_lt_of_pos x hm
  have h3 : A * t ≤ 1000000 * 1000000 := Int.mul_le_mul hA2 ht2 ht (by decide)
  have h4 : 0 ≤ A * t := Int.mul_nonneg hA ht
  have h5 : A * t * t ≤ 1000000 * 1000000 * 1000000 := Int.mul_le_mul h3 ht2 ht (by decide)
  have h6 : 0 ≤ A * t * t := Int.mul_nonneg h4 ht
  have h7 : x % m * (2 * t + C) ≤ 2 ^ 31 * 3000000 := Int.mul_le_mul (by omega) (by omega) (by omega) (by decide)
  have h8 : 0 ≤ x % m * (2 * t + C) := Int.mul_nonneg h1 (by omega)
  omega
theorem mod_lim {x m : Int} (hm : 0 < m) (hm2 : m < 2 ^ 31) : -(2 ^ 64) < x % m ∧ x % m < 2 ^ 64 := by
  have h1 := Int.emod_nonneg x (by omega : m ≠ 0)
  have h2 := Int.emod_lt_of_pos x hm
  omega
theorem dp_ints {K : PySem.W.Frag} {H : Hp} : ∀ ns : List Int, DpAll K H (ns.map V.int) (ns.map PyData.int)
  | [] => .nil
  | n :: r => .cons (.int n) (dp_ints r)
theorem lay_ints : ∀ ns : List Int, PyData.canLayAll0 (ns.map PyData.int) = true
  | [] => by simp [PyData.canLayAll0]
  | n :: r => by simp [PyData.canLayAll0, PyData.canLay0, lay_ints r]
theorem deep_ints : ∀ ns : List Int, PyData.depthAll (ns.map PyData.int) ≤ 1
  | [] => by simp [PyData.depthAll]
  | n :: r => by
    have h := deep_ints r
    simp [PyData.depthAll, PyData.depth]
    omega
theorem shaped_ints (ns : List Int) : SeqAt.shaped (.list (ns.map PyData.int)) = true := by
  have h := deep_ints ns
  unfold SeqAt.shaped
  rw [Bool.and_eq_true]
  refine ⟨by simp [PyData.canLay0, lay_ints], decide_eq_true ?_⟩
  simp [PyData.depth]
  omega
theorem eqv_nil (ns : List Int) : PyData.eqv (.list (ns.map PyData.int)) (.list []) = decide (ns = []) := by
  cases ns with
  | nil => simp [PyData.eqv, PyData.eqvAll]
  | cons n r => simp [PyData.eqv, PyData.eqvAll]

/-! ### kinds of values: is it an integer -/
/-- x is of a kind of which isinstance(x, int) and not isinstance(x, bool) is b -/
def IsI (K : PySem.W.Frag) (H : Hp) (x : V) (b : Bool) : Prop := ∃ (n : String) (b1 b2 : Bool), TyX K H x (.type n) ∧ kitB n "int" = some b1 ∧ kitB n "bool" = some b2 ∧ b = (b1 && !b2)
section
variable {K : PySem.W.Frag} {H : Hp}
theorem isI_int (i : Int) : IsI K H (.int i) true := ⟨"int", true, false, .base (.int i), by decide +kernel, by decide +kernel, rfl⟩
theorem isI_non : IsI K H .non false := ⟨"NoneType", false, false, .base .non, by decide +kernel, by decide +kernel, rfl⟩
theorem isI_bl (b : Bool) : IsI K H (.bl b) false := ⟨"bool", true, true, .base (.bl b), by decide +kernel, by decide +kernel, rfl⟩
theorem isI_str (x : Str) : IsI K H (.str x) false := ⟨"str", false, false, .base (.str x), by decide +kernel, by decide +kernel, rfl⟩
theorem isI_lst {a : Addr} {xs : List V} (e : H a = some (.lst xs)) : IsI K H (.ref a) false := ⟨"list", false, false, .base (.lst e), by decide +kernel, by decide +kernel, rfl⟩
theorem isI_tup {a : Addr} {xs : List V} (e : H a = some (.tup xs)) : IsI K H (.ref a) false := ⟨"tuple", false, false, .base (.tup e), by decide +kernel, by decide +kernel, rfl⟩
theorem isI_dK {a : Addr} {kvs : List (Key × V)} (e : H a = some (.dK kvs)) : IsI K H (.ref a) false := ⟨"dict", false, false, .base (.dK e), by decide +kernel, by decide +kernel, rfl⟩
theorem isI_true {x : V} (h : IsI K H x true) : ∃ i, x = .int i := by
  obtain ⟨n, b1, b2, ty, e1, e2, e3⟩ := h
  have c1 : b1 = true := by
    cases b1
    · simp at e3
    · rfl
  have c2 : b2 = false := by
    cases b2
    · rfl
    · simp [c1] at e3
  subst c1 c2
  have no : ∀ {m : String}, kitB m "int" ≠ some true ∨ kitB m "bool" ≠ some false → n = m → False := fun h e => by
    subst e
    exact h.elim (fun z => z e1) fun z => z e2
  cases ty with
  | base h =>
    cases h with
    | int i => exact ⟨i, rfl⟩
    | non => exact (no (m := "NoneType") (.inl (by decide +kernel)) rfl).elim
    | bl b => exact (no (m := "bool") (.inr (by decide +kernel)) rfl).elim
    | str b => exact (no (m := "str") (.inl (by decide +kernel)) rfl).elim
    | flt b => exact (no (m := "float") (.inl (by decide +kernel)) rfl).elim
    | lst e => exact (no (m := "list") (.inl (by decide +kernel)) rfl).elim
    | frz e => exact (no (m := "list") (.inl (by decide +kernel)) rfl).elim
    | tup e => exact (no (m := "tuple") (.inl (by decide +kernel)) rfl).elim
    | dK e => exact (no (m := "dict") (.inl (by decide +kernel)) rfl).elim
    | dT e => exact (no (m := "dict") (.inl (by decide +kernel)) rfl).elim
  | byt b => exact (no (m := "bytes") (.inl (by decide +kernel)) rfl).elim
  | set e => exact (no (m := "set") (.inl (by decide +kernel)) rfl).elim
  | kList e c => exact (no (m := "list") (.inl (by decide +kernel)) rfl).elim
  | kTuple e c => exact (no (m := "tuple") (.inl (by decide +kernel)) rfl).elim
  | kDict e c => exact (no (m := "dict") (.inl (by decide +kernel)) rfl).elim
  | fTuple e => exact (no (m := "tuple") (.inl (by decide +kernel)) rfl).elim
  | fDict e => exact (no (m := "dict") (.inl (by decide +kernel)) rfl).elim
end
/-- a bound: an int or none -/
def oV : Option Int → V
  | none => .non
  | some i => .int i
def loOk (lo : Option Int) (i : Int) : Bool := match lo with
  | none => true
  | some l => decide (l ≤ i)
def hiOk (hi : Option Int) (i : Int) : Bool := match hi with
  | none => true
  | some h => decide (i ≤ h)
/-- an int within bounds -/
def inB (lo hi : Option Int) : V → Bool
  | .int i => loOk lo i && hiOk hi i
  | _ => false
def spIsInt (K : PySem.W.Frag) : Sp := fun vs H Q _ => ∃ (x : V) (b : Bool), vs = [x] ∧ IsI K H x b ∧ Q (.bl b) H
def spWithin (K : PySem.W.Frag) : Sp := fun vs H Q _ => ∃ (x : V) (lo hi : Option Int) (b : Bool), vs = [x, oV lo, oV hi] ∧ IsI K H x b ∧ Q (.bl (b && inB lo hi x)) H
/-- what raises the error at C, with its part, else returns None -/
def RaisesP (C : Addr) (part : Str) (E : XK) (H : Hp) : Prop := ∀ d, H d = none → E (.ref C) (some d) (upd H d (.xd [(("part" : Str), .str part)]))
def spNeedNumber (K : PySem.W.Frag) (C : Addr) : Sp := fun vs H Q E => ∃ (x : V) (part : Str) (lo hi : Option Int) (b : Bool), vs = [x, .str part, oV lo, oV hi] ∧ IsI K H x b ∧
  ((b && inB lo hi x) = true → Q .non H) ∧ ((b && inB lo hi x) = false → RaisesP C part E H)
def spNeedWord (K : PySem.W.Frag) (C : Addr) : Sp := fun vs H Q E => ∃ (x : V) (part : Str) (b : Bool), vs = [x, .str part] ∧ IsI K H x b ∧
  ((b && inB (some 0) none x) = true → Q .non H) ∧ ((b && inB (some 0) none x) = false → RaisesP C part E H)
/-- where nothing is raised the promise holds among calm ones -/
theorem calm_of {P : Program} {w : World} {K : PySem.W.Frag} {mg : Str → Option Value} {base : Heap} {k : Nat} {f : Addr} {fd : FuncData} {ps : List Str} {sp : Sp} (F : FnOk P w K mg base (L2.CX P w) k f fd ps sp) :
    FnOk P w K mg base CX0 k f fd ps (fun vs H Q _ => sp vs H Q fun _ _ _ => False) :=
  ⟨fun vs H Q E h => F.len vs H Q _ h, fun A outer s H args us vs Q E hr he hb hv hs => codeAny_mono (F.run A outer s H args us vs Q _ hr he hb hv hs) fun r s' hq => by
    cases r with
    | error e =>
      obtain ⟨_, _, _, _, _, _, _, _, _, _, _, _, z⟩ := hq
      exact z.elim
    | ok fl => cases fl <;> exact hq⟩
theorem iteB {b : Bool} {A B : Prop} (h1 : b = true → A) (h2 : b = false → B) : if b = true then A else B := by
  cases b with
  | true => exact iteT (h1 rfl)
  | false => exact iteF (h2 rfl)
end OB
/-! Own errors with one field, raised. -/
namespace OB
open PySem PySem.Spec PyProof.Rows L2
/-- a def of the text, as it stands behind the top -/
structure Df (K : PySem.W.Frag) (mg : Str → Option Value) (x : Str) (st : Stmt) (ps : List Str) (f : Addr) (fd : FuncData) : Prop where
  F : Fun K x x st f fd
  g : mg x = some (.ref f)
  b : Binds K fd ps []
/-- __init__(self, f): self.f = f of an own error -/
def spInit1 (K : PySem.W.Frag) (f : Str) : Sp := fun vs H Q _ => ∃ (a C : Addr) (v : V), vs = [.ref a, v] ∧ OexC K C ∧ PySem.W.findIn K (.ref C) f = some none ∧ H a = some (exo a C none) ∧
  ∀ dx, H dx = none → dx ≠ a → Q .non (upd (upd H dx (exd dx [(f, v)])) a (exo a C (some dx)))
section
variable {P : Program} {w : World} {K : PySem.W.Frag} {mg : Str → Option Value} {base : Heap}
theorem ok_init1 {qual : Str} {st : Stmt} {fI : Addr} {fd : FuncData} {f : Str} {p1 p2 p3 p4 : Pos} (F : Fun K "__init__" qual st fI fd) (S : FnScope ["self", f] ["self", f] (defScope st))
    (hb : defBody st = [.Assign [.Attribute (.Name "self" p1) f p2] (.Name f p3) p4])
    (hv : Vis (defScope st) f) (hs : Vis (defScope st) "self") (hd : (f == ("__debug__" : Str)) = false := by decide) (hcd : (f == ("__classdict__" : Str)) = false := by decide)
    (hsw : ∀ env : Env, swapsWith (.Name f p3) (some (.Attribute (.Name "self" p1) f p2)) p4.line env = pure false := by intro _; rfl) :
    FnOk P w K mg base CX0 1 fI fd ["self", f] (spInit1 K f) := by
  refine F.ok S (fun vs H Q E h => ?_) (fun cdv A outer s H vs Q E hr h => ?_)
  · obtain ⟨a, C, v, rfl, _⟩ := h
    rfl
  · obtain ⟨a, C, v, rfl, T, no, ha, k⟩ := h
    rw [hb]
    refine ⟨_, pss_one (ps_ost (pe_var (i := 0) rfl hs) (pe_var (i := 1) rfl hv hd hcd) (hsw _)), ?_⟩
    exact ⟨v, rfl, .ref a, rfl, a, C, rfl, T, no, .inl ⟨ha, fun dx n ne => k dx n ne⟩⟩
/-- an own error class with one field, as the top leaves it -/
structure Err (P : Program) (w : World) (K : PySem.W.Frag) (mg : Str → Option Value) (base : Heap) (x f : Str) (C fI : Addr) (fd : FuncData) : Prop where
  T : OexC K C
  iC : PySem.W.findIn K (.ref C) "__init__" = some (some (.ref fI))
  tI : PySem.W.typeIn K (.ref fI) = some (.type "function")
  F : FnOk P w K mg base CX0 1 fI fd ["self", f] (spInit1 K f)
  b : Binds K fd ["self", f] []
  g : mg x = some (.ref C)
  no : PySem.W.findIn K (.ref C) f = some none
theorem del_back {H : Hp} {a d : Addr} {o1 o2 o3 o4 : HO} (ha : H a = none) (n : d ≠ a) : upd (del (upd (upd (upd H a o1) d o2) a o3) a) d o4 = upd H d o4 := by
  funext b
  by_cases e : b = d
  · rw [e, upd_same, upd_same]
  · rw [upd_ne e, upd_ne e]
    by_cases e2 : b = a
    · rw [e2, del_same, ha]
    · rw [del_ne e2, upd_ne e2, upd_ne e, upd_ne e2]
end
/-- raise X(e) -/
def tRaise1 (K : PySem.W.Frag) (C : Addr) (f : Str) (W : WX) (te : TE) : TS := fun _ σ H => tMkO C (spInit1 K f) [] (tCons te tNil) σ H fun cls d H' => W cls d σ H'
theorem raise1_of {K : PySem.W.Frag} {C : Addr} {f : Str} {W : WX} {σ : L2.St} {H1 : Hp} {v : V} (T : OexC K C) (no : PySem.W.findIn K (.ref C) f = some none) (h : ∀ d, H1 d = none → W (.ref C) (some d) σ (upd H1 d (.xd [(f, v)]))) :
    tNil σ H1 fun xs H2 => (v :: xs).length ≤ 1000 ∧ ∀ a, H2 a = none → spInit1 K f (.ref a :: ((v :: xs) ++ [])) (upd H2 a (exo a C none))
      (fun u H3 => u = .non ∧ ∃ (d : Addr) (fs : List (Str × V)), H3 a = some (exo a C (some d)) ∧ H3 d = some (exd d fs) ∧ H2 d = none ∧ W (.ref C) (some d) σ (upd (del H3 a) d (.xd fs))) (fun _ _ _ => False) := by
  refine ⟨by show 1 ≤ 1000; decide, fun a ha => ⟨a, C, v, rfl, T, no, upd_same, fun dx nd ne => ?_⟩⟩
  rw [upd_ne ne] at nd
  refine ⟨rfl, dx, [(f, v)], upd_same, ?_, nd, ?_⟩
  · rw [upd_ne ne, upd_same]
  · rw [del_back ha ne]
    exact h dx nd
theorem ps_raise1 {X : Cx} {W : WX} {x f : Str} {C fI : Addr} {fd : FuncData} {e : Expr} {te : TE} {p p2 pos : Pos} (hc : X.calm = true) (tk : Takes X W) (R : Err X.prog X.w X.K X.mg X.base x f C fI fd) (hr : Room 2 X.A) (hg : Gl X x) (he : PE X e te)
    (hx : Passes CX0 X (fun _ _ _ => False) := by exact pass0) (hs : starEach [e] X.env = [(false, eval e X.env)] := by rfl) (hdb : (x == ("__debug__" : Str)) = false := by decide) :
    PS X (.Raise (some (.Call (.Name x p) [e] [] p2)) none pos) (tRaise1 X.K C f W te) :=
  ps_raise (pos := pos) hc tk (pmk_oex (p := p) (pos := p2) R.T R.iC R.tI R.F hr R.b .nil hx hg R.g (pa_cons he pa_nil hs) hdb hs)
section
variable {X : Cx}
/-- 1 << k -/
theorem op_oneN : OpR X (binaryOp .LShift) (fun x y H Q => ∃ k : Nat, x = .int 1 ∧ y = .int (k : Int) ∧ k ≤ 1000000 ∧ Q (.int ((2 ^ k : Nat) : Int)) H) := by
  intro pins s σ H x y v u Q I rx ry h
  obtain ⟨k, rfl, rfl, c, q⟩ := h
  refine op_shl pins s σ H _ _ v u Q I rx ry ⟨_, _, rfl, rfl, ⟨Int.natCast_nonneg _, by omega, by decide⟩, ?_⟩
  have e : (1 : Int) * 2 ^ ((k : Int)).toNat = ((2 ^ k : Nat) : Int) := by
    rw [Int.one_mul, Int.toNat_natCast, Int.natCast_pow]
    rfl
  show Q (.int ((1 : Int) * 2 ^ ((k : Int)).toNat)) H
  rw [e]
  exact q
end
theorem pow_lt9 {i : Nat} (h : i ≤ 8000) : ((2 ^ i : Nat) : Int).natAbs < 2 ^ 9000 := by
  rw [Int.natAbs_natCast]
  exact Nat.pow_lt_pow_right (by decide) (by omega)
section
variable {X : Cx} {CX : CXT} {k : Nat} {f : Addr} {fd : FuncData} {ps ks : List Str} {sp : Sp} {E : XK} {x : Str} {p pos : Pos} {kws : List Keyword} {tk : TA} {g : List Value → List Value → List Value} {gV : List V → List V → List V}
/-- f(k = v, ..): keywords alone -/
theorem pe_callKo (F : FnOk X.prog X.w X.K X.mg X.base CX k f fd ps sp) (hr : Room k X.A) (hg : Gl X x) (hm : X.mg x = some (.ref f)) (hk : PySem.W.keepIn X.K (.ref f) = true) (hb : KBinds X.K fd ps ks g gV) (hx : Passes CX X E)
    (hkw : PK X kws tk) (hall : (backToKw pos (keywordEach kws X.env)).all (·.1.isSome) = true := by rfl) (hks : (backToKw pos (keywordEach kws X.env)).filterMap (·.1) = ks := by rfl)
    (hdb : (x == ("__debug__" : Str)) = false := by decide)
    (hpl : ((backTo pos (starEach [] X.env)).any (·.1) || (backToKw pos (keywordEach kws X.env)).any (·.1.isNone)) = false := by rfl) :
    PE X (.Call (.Name x p) [] kws pos) (tCallK sp gV E tNil tk) := by
  refine ⟨fun pins s σ H Q I h => ?_⟩
  refine wpAny_Call_Name_kw (ld_glob I hg hm ?_ hdb)
  refine PySem.W.callWith_KW0 (h₀ := X.base) I.ok.mod.kin hk hall ?_ hpl
  refine thn (hkw.run pos pins s σ H _ I h) fun ws s2 ⟨zs, H2, I2, rz, q2⟩ => ⟨I2.kIn, ?_⟩
  rw [hks]
  exact run_fnk (us := []) F hr hb hx I2 .nil rz q2
end
/-- how the keywords of a def without defaults bind -/
theorem kbinds {K : PySem.W.Frag} {x qual : Str} {st : Stmt} {f : Addr} {fd : FuncData} {ps ks : List Str} {g : List Value → List Value → List Value} {gV : List V → List V → List V} (F : Fun K x qual st f fd)
    (h : ∀ (kV doc pm : Value) (an : Option Addr) (cdv ct : Value) (us ws : List Value), (g us ws).length = ps.length → bindArgs (PySem.W.fnOf x qual (defArgs st) (defBody st) (defScope st) .none kV doc pm an cdv ct) ⟨us, ks.zip ws⟩ = pure (ps.zip (g us ws)))
    (r : ∀ {vs : List V} {us : List Value} {zs : List V} {ws : List Value}, Vals vs us → Vals zs ws → Vals (gV vs zs) (g us ws)) : KBinds K fd ps ks g gV := by
  obtain ⟨oc, od, kV, doc, pm, an, cdv, ct, osl, rfl, lk, hcd⟩ := F.ex
  exact ⟨fun s us ws _ hl => .of_eq (h kV doc pm an cdv ct us ws hl), r⟩
theorem inB_nat (m : Nat) : inB (some 0) none (.int (m : Int)) = true := by
  show (decide ((0 : Int) ≤ (m : Int)) && true) = true
  rw [decide_eq_true (Int.natCast_nonneg m)]
  rfl
/-- isinstance asks by the table of classes -/
theorem kit_sub {K : PySem.W.Frag} {t : Value} {C : Addr} {b : Bool} (h1 : PySem.W.isClsIn K C = true) (h2 : PySem.W.typeIn K (.ref C) = some (.type "type")) (self : PySem.W.subIn K (.ref C) (.ref C) = some true) (h : PySem.W.subIn K t (.ref C) = some b) :
    PySem.W.kitOne K t (.ref C) = some b := by
  unfold PySem.W.kitOne
  by_cases e : (t == Value.ref C) = true
  · rw [if_pos e]
    have e2 : t = Value.ref C := beq_iff_eq.mp e
    subst e2
    rw [self] at h
    exact h
  · rw [if_neg e]
    have h1' : (PySem.W.clsIn K C).isSome = true := h1
    show (if ((PySem.W.clsIn K C).isSome && PySem.W.typeIn K (.ref C) == some (.type "type")) = true then PySem.W.subIn K t (.ref C) else none) = some b
    rw [h1', h2]
    exact h
end OB
/-! len(set(x)) of a list or a tuple of ints, doubles among them. -/
namespace OB
open PySem PySem.Spec PyProof.Rows L2
theorem sub_len {α : Type} [DecidableEq α] : ∀ {l1 l2 : List α}, l1.Nodup → (∀ x ∈ l1, x ∈ l2) → l1.length ≤ l2.length
  | [], l2, _, _ => Nat.zero_le _
  | a :: r, l2, h, s => by
    have h2 := List.nodup_cons.mp h
    have ha : a ∈ l2 := s a List.mem_cons_self
    have ih := sub_len (l1 := r) (l2 := l2.erase a) h2.2 fun x hx => by
      have ne : x ≠ a := fun z => h2.1 (z ▸ hx)
      exact (List.mem_erase_of_ne ne).mpr (s x (List.mem_cons_of_mem _ hx))
    rw [List.length_erase_of_mem ha] at ih
    have pos : 0 < l2.length := List.length_pos_of_mem ha
    rw [List.length_cons]
    omega
theorem nodup_of_sub {α : Type} [DecidableEq α] : ∀ {l1 l2 : List α}, l1.Nodup → (∀ x ∈ l1, x ∈ l2) → l2.length ≤ l1.length → l2.Nodup
  | [], l2, _, _, hl => by
    have e : l2 = [] := List.length_eq_zero_iff.mp (Nat.le_zero.mp hl)
    rw [e]
    exact List.nodup_nil
  | a :: r, l2, h, s, hl => by
    have h2 := List.nodup_cons.mp h
    have ha : a ∈ l2 := s a List.mem_cons_self
    have hs : ∀ x ∈ r, x ∈ l2.erase a := fun x hx => by
      have ne : x ≠ a := fun z => h2.1 (z ▸ hx)
      exact (List.mem_erase_of_ne ne).mpr (s x (List.mem_cons_of_mem _ hx))
    have le := List.length_erase_of_mem ha
    have pos : 0 < l2.length := List.length_pos_of_mem ha
    rw [List.length_cons] at hl
    have ih := nodup_of_sub (l1 := r) (l2 := l2.erase a) h2.2 hs (by omega)
    have na : a ∉ l2.erase a := fun z => by
      have q := sub_len (l1 := a :: r) (l2 := l2.erase a) h fun x hx => by
        rcases List.mem_cons.mp hx with e | e
        · rw [e]
          exact z
        · exact hs x e
      rw [List.length_cons] at q
      omega
    exact ((List.perm_cons_erase ha).nodup_iff).mpr (List.nodup_cons.mpr ⟨na, ih⟩)
theorem same_len {α : Type} [DecidableEq α] {l1 l2 : List α} (h : l1.Nodup) (s : ∀ x, x ∈ l1 ↔ x ∈ l2) : l1.length ≤ l2.length ∧ (l1.length = l2.length ↔ l2.Nodup) := by
  have a := sub_len h fun x hx => (s x).mp hx
  refine ⟨a, fun e => nodup_of_sub h (fun x hx => (s x).mp hx) (by omega), fun e => ?_⟩
  have b := sub_len e fun x hx => (s x).mpr hx
  omega
theorem fm_nodup (val : Nat → Int) : ∀ i, (PyProof.Rows.firstMet val i).Nodup
  | 0 => List.nodup_nil
  | i + 1 => by
    rw [PyProof.Rows.firstMet_succ]
    have ih := fm_nodup val i
    show (if (PyProof.Rows.firstMet val i).any (· == val i) then PyProof.Rows.firstMet val i else PyProof.Rows.firstMet val i ++ [val i]).Nodup
    split
    · exact ih
    · rename_i h
      refine List.nodup_append.mpr ⟨ih, List.nodup_cons.mpr ⟨List.not_mem_nil, List.nodup_nil⟩, fun x hx y hy e => h ?_⟩
      rw [List.mem_singleton] at hy
      subst hy
      exact List.any_eq_true.mpr ⟨x, hx, by rw [e]; exact beq_self_eq_true _⟩
theorem fm_mem (ns : List Int) (x : Int) : x ∈ PyProof.Rows.firstMet (fun i => ns.getD i 0) ns.length ↔ x ∈ ns := by
  have e := PyProof.Rows.firstMet_any (fun i => ns.getD i 0) ns.length x
  have e2 : (List.range ns.length).map (fun i => ns.getD i 0) = ns := by
    apply List.ext_getElem
    · simp
    · intro i h1 h2
      simp [List.getD_eq_getElem?_getD, h2]
  rw [e2] at e
  have m : ∀ l : List Int, (l.any (· == x)) = true ↔ x ∈ l := fun l => by
    rw [List.any_eq_true]
    exact ⟨fun ⟨y, hy, ey⟩ => (eq_of_beq ey) ▸ hy, fun h => ⟨x, h, beq_self_eq_true _⟩⟩
  rw [← m, ← m, e]
/-- how many unlike ints -/
def tLenSet (K : PySem.W.Frag) (ta : TE) : TE := fun σ H Q => ta σ H fun x H1 => ∃ (p : Addr) (ns : List Int), x = .ref p ∧ (SqL K H1 p (ns.map V.int) ∨ SqT K H1 p (ns.map V.int)) ∧ ns.length ≤ 1100 ∧
  ∀ c : Nat, c ≤ ns.length → (c = ns.length ↔ ns.Nodup) → Q (.int (c : Nat)) H1
theorem pe_lenSet2 {X : Cx} {a : Expr} {ta : TE} {p p2 q pos : Pos} (hg : Gl X "len") (hm : X.mg "len" = none) (hg2 : Gl X "set") (hm2 : X.mg "set" = none) (ha : PE X a ta) (hc : X.calm = true := by rfl)
    (na : starEach [a] X.env = (false, eval a X.env) :: starEach [] X.env := by rfl) : PE X (.Call (.Name "len" p) [.Call (.Name "set" p2) [a] [] q] [] pos) (tLenSet X.K ta) := by
  refine ⟨fun pins s σ H Q I h => ?_⟩
  refine Call_ (ld_blt I hg hm boot_len ?_)
  refine PyProof.Rows.callWith_builtin1 (PyProof.Rows.args_cons ?_ rfl) rfl rfl
  refine Call_ (ld_blt I hg2 hm2 boot_set ?_)
  refine PyProof.Rows.callWith_type1 (PyProof.Rows.args_cons (thn (ha.run pins s σ H _ I h) fun v s1 ⟨x, H1, I1, r1, q1⟩ => PyProof.Rows.args_nil ?_) na) na rfl
  obtain ⟨l, ns, rfl, hq, hl, q1⟩ := q1
  cases r1
  rcases hq with hq | hq
  · obtain ⟨its, r, pl, hz⟩ := I1.list hq
    have hlen : its.toArray.size = ns.length := by rw [List.size_toArray, ← r.length, List.length_map]
    refine PySem.call_set_list (I1.ok.hd hc) pl.isList (ns := ns) (by simpa using RZ.intsAre_vals r) (by rw [hlen]; unfold scanBound; omega) fun h' tk hS hk => ?_
    refine PyProof.Rows.args_nil ?_
    rw [hlen] at hS
    have sl := same_len (fm_nodup (fun i => ns.getD i 0) ns.length) (fm_mem ns)
    obtain ⟨o, es, ep, t, ho, hex, hd, _, _, _, hf, hn⟩ := hS
    have I2 : Inv X pins σ H1 { s1 with heap := h', toks := tk } := I1.kept fun b o e => hk b o (Heap.lt_size e) e
    have q2 := q1 es.size (by rw [hn]; exact sl.1) (by rw [hn]; exact sl.2)
    exact call_len_set ho hex hd hf (by have := sl.1; omega) ⟨.int es.size, H1, I2.tok _, ⟨_, rfl⟩, q2⟩
  · obtain ⟨its, r, pt, hz⟩ := I1.tuple hq
    have hi : IntsAre its.toArray.toList ns := ints_of_vals r
    refine call_set_tupI ns (I1.ok.hd hc) (show s1.heap.IsTuple l its.toArray from pt) hi (by unfold scanBound; omega) fun h' tk c R1 hcn k => ?_
    refine PyProof.Rows.args_nil ?_
    obtain ⟨o, es, ep, t, ho, hex, hd, hgood, hnd, hmem, _, hf, hn, _⟩ := R1
    have I2 : Inv X pins σ H1 { s1 with heap := h', toks := tk } := I1.kept fun b o e => k b o e
    have sl := same_len (l2 := ns) hnd fun x => (by
      have z := (hmem x).symm
      simpa using z)
    rw [List.length_map, Array.length_toList] at sl
    have q2 := q1 es.size sl.1 sl.2
    exact call_len_set ho hex hd hf (by have := sl.1; omega) ⟨.int es.size, H1, I2.tok _, ⟨_, rfl⟩, q2⟩
end OB
set_option maxHeartbeats 4000000
/-! sorted(x) of a list or a tuple of ints. -/
namespace OB
open PySem PySem.Spec PyProof.Rows L2 SrtO
section
variable {prog : Program} {w : World} {A : Around} {E : Value → Shared → Prop} {s : Shared}
theorem collect_tup {l : Addr} {vs : List Value} {Q : List Value → Shared → Prop} (ht : IsTup s.heap l vs.toArray)
    (h : Q vs { s with heap := (s.heap.push (seqObj "list" #[] 0)).update s.heap.objs.size (Obj.mapSeq (· ++ vs.toArray)) }) (hz : vs.length ≤ sizeLine) :
    wpAny (model prog w) A (collect (.ref l)) Q E s := by
  obtain ⟨o, ho, hc, n, hd⟩ := id ht
  unfold collect
  refine wpAny_bind (wpAny_runValue (codeAny_builtin entry_proto_collect' ?_))
  show wpAny _ _ (do again (.builtin "list.__iadd__" ⟨[← newList [], .ref l], []⟩)) _ _ s
  refine wpAny_bind (wpAny_newList (wpAny_pure ⟨Code.quiet_builtin _ (by decide +kernel), codeAny_builtin entry_list_iadd' ?_⟩))
  show wpAny _ _ (Builtin.List.listExtendWith (.ref s.heap.objs.size) (.ref l) (.ref s.heap.objs.size)) _ _ { s with heap := s.heap.push (seqObj "list" #[] 0) }
  unfold Builtin.List.listExtendWith
  have o1 : (s.heap.push (seqObj "list" #[] 0)).get? l = some o := Heap.get?_push_of_some _ ho
  refine wpAny_bind (wpAny_typeOf (T := "tuple") ⟨o, o1, hc⟩ ?_)
  rw [if_pos (show (Builtin.List.listSameRef (Value.ref s.heap.objs.size) (Value.ref l) || Value.type "tuple" == Value.type "list" || Value.type "tuple" == Value.type "tuple") = true by
    rw [show (Value.type "tuple" == Value.type "tuple") = true from rfl, Bool.or_true])]
  refine wpAny_bind (listItems_at o1 hd (wpAny_bind (listItems_at (xs := #[]) (n := 0) (Heap.get?_push_size _ rfl) rfl ?_)))
  have room : ((#[] : Array Value) ++ vs.toArray).size ≤ sizeLine + 1 := by
    rw [Array.size_append, List.size_toArray, List.size_toArray, List.length_nil]
    omega
  rw [if_neg (show ¬ (!(#[] : Array Value).isEmpty && Builtin.List.listTooLong ((#[] : Array Value).size + vs.toArray.size)) = true from fun z => by
    have z : (false && _) = true := z
    rw [Bool.false_and] at z
    cases z)]
  refine wpAny_bind (listUpdate_at (xs := #[]) (n := 0) (Heap.get?_push_size _ rfl) rfl (wpAny_pure ?_) (Nat.zero_le _) room)
  refine wpAny_bind (wpAny_load (get?_update_seq (Heap.get?_push_size _ rfl) _) (wpAny_pure ?_))
  have e : ((#[] : Array Value) ++ vs.toArray).toList = vs := by simp
  rw [e]
  exact h
theorem sorted_tup {l : Addr} {vs : List Value} {ltv : Value → Value → Bool} {Q : Value → Shared → Prop} (O : Swo ltv) (ht : IsTup s.heap l vs.toArray) (hz : vs.length ≤ sizeLine)
    (hS : 2 ≤ vs.length → ∀ (h₁ : Heap) (a : Addr), h₁.get? a = some (seqObj "list" vs.toArray 0) → (∀ b o, s.heap.get? b = some o → b ≠ a ∧ h₁.get? b = some o) → SortableO prog w A.in1.in1 { s with heap := h₁ } a vs ltv)
    (h : ∀ out : List Value, Srtd ltv out → Stb ltv out vs → Q (.ref (s.heap.objs.size + 1)) { s with heap := sortedAll s.heap vs out.toArray }) :
    wpAny (model prog w) A (call (.builtin "sorted") [.ref l]) Q E s := by
  generalize hg : (s.heap.push (seqObj "list" #[] 0)).update s.heap.objs.size (Obj.mapSeq (· ++ vs.toArray)) = g
  have size : g.objs.size = s.heap.objs.size + 1 := by
    rw [← hg, Heap.size_update, Heap.size_push]
  have old : ∀ b o, s.heap.get? b = some o → g.get? b = some o := fun b o q => by
    rw [← hg, Heap.get?_update_ne _ _ _ _ (Nat.ne_of_lt (Heap.lt_size q))]
    exact Heap.get?_push_of_some _ q
  have new : (g.push (seqObj "list" vs.toArray 0)).get? (s.heap.objs.size + 1) = some (seqObj "list" vs.toArray 0) := by
    rw [← size]
    exact Heap.get?_push_size _ rfl
  refine Calls.call_function_entry kind_sorted plain_sorted entry_sorted (args_sorted1 _) ?_
  unfold Builtin.«sorted»
  refine wpAny_bind (m := checkCount "sorted" 1 1 _) (wpAny_pure (wpAny_bind (collect_tup ht ?_ hz)))
  rw [hg]
  refine wpAny_bind (wpAny_newList ?_ hz)
  show wpAny _ _ _ _ _ { s with heap := g.push (seqObj "list" vs.toArray 0) }
  rw [size]
  refine wpAny_bind (wpAny_holding (wpAny_call_entry slot_list_sort ⟨_, new, rfl⟩ entry_list_sort (list_sort_ord O new hz (fun h2 => hS h2 _ _ new fun b o q => ?_) fun out hs hb => ⟨_, rfl, wpAny_pure ⟨_, rfl, ?_⟩⟩) (args_list_sort _)))
  · exact ⟨Nat.ne_of_lt (Nat.lt_succ_of_lt (Heap.lt_size q)), Heap.get?_push_of_some _ (old b o q)⟩
  · rw [← hg]
    exact h out hs hb
end
section
variable {X : Cx}
def rSortedA (K : PySem.W.Frag) : List V → Hp → VK → Prop := fun vs H Q => ∃ (a : Addr) (ns : List Int), vs = [V.ref a] ∧ (SqL K H a (ns.map V.int) ∨ SqT K H a (ns.map V.int)) ∧
  ∀ (ns' : List Int) (p : Addr), ns'.Perm ns → ns'.Pairwise (· ≤ ·) → H p = none → Q (.ref p) (upd H p (.lst (ns'.map V.int)))
theorem cr_sortedA : CallR X (.builtin "sorted") (rSortedA X.K) := by
  intro pins s σ H vs us Q I r h
  obtain ⟨a, ns, rfl, hs, q⟩ := h
  rcases hs with hs | ht
  · exact cr_sortedI pins s σ H _ us Q I r ⟨a, ns, rfl, hs, q⟩
  · obtain ⟨its, rv, hl, hz⟩ := I.tuple ht
    rw [Vals.ref1 r]
    have hi := rv.ints
    refine sorted_tup swo_int hl (by rw [← rv.length]; exact hz) (fun h2 h₁ a' _ _ => ints_sortable hi h2) fun out h1 h2 => ?_
    obtain ⟨k1, k2, k3⟩ := ints_out hi h1 h2
    obtain ⟨ep, at'⟩ := PyProof.Rows.sortedAll_at s.heap its out.toArray
    have hlen : ((out.map iv).map V.int).length ≤ sizeLine := by
      rw [List.length_map] at hz ⊢
      rw [k2.length_eq]
      exact hz
    exact ⟨.ref _, upd H (s.heap.objs.size + 1) (.lst ((out.map iv).map V.int)), I.laid (t' := s.toks) (fun _ _ => PyProof.Rows.sortedAll_old) (Nat.le_succ _) ⟨hlen, out, ep, vals_of_ints k1, at'⟩, rfl, q _ _ k2 k3 (I.hok.fresh (Nat.le_succ _))⟩
end
end OB
/-! A list or a tuple: gone through, asked for its kind. -/
namespace OB
open PySem PySem.Spec PyProof.Rows L2
theorem sqL_same {K : PySem.W.Frag} {H H' : Hp} {a : Addr} {xs : List V} (h : SqL K H a xs) (s : Same H H') : SqL K H' a xs := by
  rcases h with (h | ⟨o, h⟩) | h
  · exact .inl (.inl (s _ _ h))
  · exact .inl (.inr ⟨o, s _ _ h⟩)
  · exact .inr h
theorem sqT_same {K : PySem.W.Frag} {H H' : Hp} {a : Addr} {xs : List V} (h : SqT K H a xs) (s : Same H H') : SqT K H' a xs := by
  rcases h with (h | ⟨o, h⟩) | h
  · exact .inl (.inl (s _ _ h))
  · exact .inl (.inr ⟨o, s _ _ h⟩)
  · exact .inr h
def iSeqA (K : PySem.W.Frag) (te : TE) : TI := fun σ H R => te σ H fun x H1 => ∃ a, x = .ref a ∧ (((∃ xs, SqL K H1 a xs) ∧ R (Itl K a) H1) ∨ ((∃ xs, SqT K H1 a xs) ∧ R (Itt K a) H1))
theorem pi_seqA {X : Cx} {tg e : Expr} {te : TE} (he : PE X e te) : PI X tg e (iSeqA X.K te) := by
  refine ⟨fun pins s σ H R I h => thn (he.run pins s σ H _ I h) fun v s1 ⟨x, H1, I1, r1, a, ex, q⟩ => ?_⟩
  subst ex
  cases r1
  rcases q with ⟨⟨xs, hq⟩, q⟩ | ⟨⟨xs, hq⟩, q⟩
  · obtain ⟨its, rv, p, hz⟩ := I1.list hq
    exact wpAny_pyIter_list p.isList (pi_one (tk := s1.toks) I1 _ (turn_list a _) ⟨_, Heap.get?_push_size _ rfl, rfl, rfl⟩ q)
  · obtain ⟨its, rv, p, hz⟩ := I1.tuple hq
    exact wpAny_pyIter_tuple (show s1.heap.IsTuple a its.toArray from p) (pi_one (tk := s1.toks) I1 _ (turn_tuple a _) ⟨_, Heap.get?_push_size _ rfl, rfl, rfl⟩ q)
/-- a row over it, a list or a tuple: Pv by the new list, the turn and the heap -/
theorem lc_seqA {K : PySem.W.Frag} {a : Addr} {xs : List V} {g : TG} {tt : TT} {te : TE} {vs : List Nat} {σ : L2.St} {H1 : Hp} {Qd : Addr → Hp → Prop} (h : SqL K H1 a xs ∨ SqT K H1 a xs) (Pv : Addr → Nat → Hp → Prop)
    (h0 : ∀ D, H1 D = none → Pv D 0 (upd H1 D (.lst []))) (keep : ∀ D i H, H1 D = none → i ≤ xs.length → Pv D i H → Same H1 H)
    (hs : ∀ D i x H, H1 D = none → xs[i]? = some x → Pv D i H → g x (wipe σ vs) H fun σ2 H2 => wipe σ2 vs = wipe σ vs ∧ tt σ2 H2 fun b H3 =>
      if b = true then te σ2 H3 fun y H4 => ∃ acc, H4 D = some (.lst acc) ∧ acc.length < sizeLine ∧ Pv D (i + 1) (upd H4 D (.lst (acc ++ [y]))) else Pv D (i + 1) H3) (hd : ∀ D H, H1 D = none → Pv D xs.length H → Qd D H) :
    ((∃ ys, SqL K H1 a ys) ∧ ∀ D, H1 D = none → ∃ W : Nat → Nat → Hp → Prop, (∃ m, W 0 m (upd H1 D (.lst []))) ∧ ∀ i m H, W i m H →
      ((Itl K a).stop i H ∧ Qd D H) ∨ ((Itl K a).go i H ∧ ∃ Nx : Hp → Prop, (∀ H', Nx H' → ∃ m', m' < m ∧ W (i + 1) m' H') ∧ ∀ x H', (Itl K a).yld i H x H' → g x (wipe σ vs) H' fun σ2 H2 => wipe σ2 vs = wipe σ vs ∧ tt σ2 H2 fun b H3 =>
        if b = true then te σ2 H3 fun y H4 => ∃ acc, H4 D = some (.lst acc) ∧ acc.length < sizeLine ∧ Nx (upd H4 D (.lst (acc ++ [y]))) else Nx H3)) ∨
    ((∃ ys, SqT K H1 a ys) ∧ ∀ D, H1 D = none → ∃ W : Nat → Nat → Hp → Prop, (∃ m, W 0 m (upd H1 D (.lst []))) ∧ ∀ i m H, W i m H →
      ((Itt K a).stop i H ∧ Qd D H) ∨ ((Itt K a).go i H ∧ ∃ Nx : Hp → Prop, (∀ H', Nx H' → ∃ m', m' < m ∧ W (i + 1) m' H') ∧ ∀ x H', (Itt K a).yld i H x H' → g x (wipe σ vs) H' fun σ2 H2 => wipe σ2 vs = wipe σ vs ∧ tt σ2 H2 fun b H3 =>
        if b = true then te σ2 H3 fun y H4 => ∃ acc, H4 D = some (.lst acc) ∧ acc.length < sizeLine ∧ Nx (upd H4 D (.lst (acc ++ [y]))) else Nx H3)) := by
  rcases h with h | h
  · exact .inl ⟨⟨xs, h⟩, fun D hD => lc_list (Pv D) (h0 D hD) (fun i H hi p => sqL_same h (keep D i H hD hi p)) (fun i x H hx p => hs D i x H hD hx p) fun H p => hd D H hD p⟩
  · exact .inr ⟨⟨xs, h⟩, fun D hD => lc_tup (Pv D) (h0 D hD) (fun i H hi p => sqT_same h (keep D i H hD hi p)) (fun i x H hx p => hs D i x H hD hx p) fun H p => hd D H hD p⟩
/-- whether a value is a list or a tuple -/
def IsL (K : PySem.W.Frag) (H : Hp) (x : V) (b : Bool) : Prop := ∃ (n : String) (b1 b2 : Bool), TyX K H x (.type n) ∧ kitB n "list" = some b1 ∧ kitB n "tuple" = some b2 ∧ b = (b1 || b2)
theorem isL_any {K : PySem.W.Frag} {H : Hp} {x : V} {b : Bool} (h : IsL K H x b) : ∃ t, TyX K H x t ∧ PySem.W.kitAny K t [.type "list", .type "tuple"] = some b := by
  obtain ⟨n, b1, b2, ty, e1, e2, rfl⟩ := h
  refine ⟨_, ty, kitAny_cons (kit_ty e1) (fun z => kitAny_cons (kit_ty e2) (fun z2 => ?_) fun z2 => ?_) fun z => ?_⟩
  · rw [z, z2]
    exact kitAny_nil
  · rw [z, z2]
    rfl
  · rw [z]
    rfl
section
variable {K : PySem.W.Frag} {H : Hp}
theorem isL_int (i : Int) : IsL K H (.int i) false := ⟨"int", false, false, .base (.int i), by decide +kernel, by decide +kernel, rfl⟩
theorem isL_non : IsL K H .non false := ⟨"NoneType", false, false, .base .non, by decide +kernel, by decide +kernel, rfl⟩
theorem isL_bl (b : Bool) : IsL K H (.bl b) false := ⟨"bool", false, false, .base (.bl b), by decide +kernel, by decide +kernel, rfl⟩
theorem isL_str (x : Str) : IsL K H (.str x) false := ⟨"str", false, false, .base (.str x), by decide +kernel, by decide +kernel, rfl⟩
theorem isL_dK {a : Addr} {kvs : List (Key × V)} (e : H a = some (.dK kvs)) : IsL K H (.ref a) false := ⟨"dict", false, false, .base (.dK e), by decide +kernel, by decide +kernel, rfl⟩
theorem isL_lst {a : Addr} {xs : List V} (e : H a = some (.lst xs)) : IsL K H (.ref a) true := ⟨"list", true, false, .base (.lst e), by decide +kernel, by decide +kernel, rfl⟩
theorem isL_tup {a : Addr} {xs : List V} (e : H a = some (.tup xs)) : IsL K H (.ref a) true := ⟨"tuple", false, true, .base (.tup e), by decide +kernel, by decide +kernel, rfl⟩
end
end OB
/-! Promises of defs where it is known that no repr is under way: there repr of a list or a tuple is its text. -/
namespace OB
open PySem PySem.Spec PyProof.Rows L2 LamX
/-- what FnOk promises, asked only where no repr is under way -/
structure FnG (P : Program) (w : World) (K : PySem.W.Frag) (mg : Str → Option Value) (base : Heap) (CX : CXT) (k : Nat) (f : Addr) (fd : FuncData) (ps : List Str) (sp : Sp) : Prop where
  len : ∀ vs H Q E, sp vs H Q E → vs.length = ps.length
  run : ∀ (A : Around) (outer : List Env) (s : Shared) (H : Hp) (args : Args) (us : List Value) (vs : List V) (Q : VK) (E : XK), A.guards = some [] → Room k A → Env0 P w K mg base A outer s H → BindsTo s fd args (ps.zip us) → Vals vs us → sp vs H Q E →
    codeAny (model P w) A (.call (.ref f) args) (CR CX outer P w H s Q E) s
section
variable {P : Program} {w : World} {K : PySem.W.Frag} {mg : Str → Option Value} {base : Heap} {CX : CXT} {k : Nat} {f : Addr} {fd : FuncData} {ps : List Str} {sp : Sp}
theorem FnG.of (F : FnOk P w K mg base CX k f fd ps sp) : FnG P w K mg base CX k f fd ps sp := ⟨F.len, fun A outer s H args us vs Q E _ => F.run A outer s H args us vs Q E⟩
theorem fnG_of {name qual : Str} {params : Arguments} {body : List Stmt} {scope : Scope} {dV kV doc pm cdv ct oc : Value} {an od : Option Addr} {osl : Array (Option Value)} {N : List Str}
    (lk : K.lookup f = some ⟨oc, od, .func (PySem.W.fnOf name qual params body scope dV kV doc pm an cdv ct), osl⟩) (hcd : PySem.W.codeIn K cdv qual = true) (S : FnScope N ps scope) (len : ∀ vs H Q E, sp vs H Q E → vs.length = ps.length)
    (hbody : ∀ (A : Around) (outer : List Env) (s : Shared) (H : Hp) (vs : List V) (Q : VK) (E : XK), A.guards = some [] → Room k (A.deeper (envOfC qual scope s.heap.objs.size f cdv)) → sp vs H Q E →
      ∃ t, PSs (cxOf CX P w K mg base N qual scope f cdv A outer s H E) body t ∧ t { nx := fun _ H' => Q .non H', rt := Q } (L2.start N vs) H) :
    FnG P w K mg base CX (k + 1) f (PySem.W.fnOf name qual params body scope dV kV doc pm an cdv ct) ps sp :=
  ⟨len, fun A outer s H args us vs Q E hgd hr e0 hb r hsp => run_ofS lk hcd S hr e0 hb r (len _ _ _ _ hsp) fun hr' => hbody A outer s H vs Q E hgd hr' hsp⟩
theorem okG {x qual : Str} {st : Stmt} {N : List Str} (F : Fun K x qual st f fd) (S : FnScope N ps (defScope st)) (len : ∀ vs H Q E, sp vs H Q E → vs.length = ps.length)
    (hbody : ∀ (cdv : Value) (A : Around) (outer : List Env) (s : Shared) (H : Hp) (vs : List V) (Q : VK) (E : XK), A.guards = some [] → Room k (A.deeper (envOfC qual (defScope st) s.heap.objs.size f cdv)) → sp vs H Q E →
      ∃ t, PSs (cxOf CX0 P w K mg base N qual (defScope st) f cdv A outer s H E).nox (defBody st) t ∧ t { nx := fun _ H' => Q .non H', rt := Q } (L2.start N vs) H) : FnG P w K mg base CX0 (k + 1) f fd ps sp := by
  obtain ⟨oc, od, kV, doc, pm, an, cdv, ct, osl, rfl, lk, hcd⟩ := F.ex
  refine fnG_of lk hcd S len fun A outer s H vs Q E hgd hr hsp => ?_
  obtain ⟨t, h, q⟩ := hbody cdv A outer s H vs Q E hgd hr hsp
  exact ⟨t, h.nox, q⟩
end
section
variable {X : Cx} {CX : CXT} {k : Nat} {f : Addr} {fd : FuncData} {ps : List Str} {sp : Sp} {E : XK} {x : Str} {p pos : Pos} {e : Expr} {es : List Expr} {t : TA} {ds : List Value} {dvs : List V}
theorem run_fnG {pins : List (Addr × Obj)} {σ : L2.St} {H : Hp} {s : Shared} {Q : VK} {us : List Value} {vs : List V} (F : FnG X.prog X.w X.K X.mg X.base CX k f fd ps sp) (hgd : X.A.guards = some []) (hr : Room k X.A) (hb : L2.Binds X.K fd ps ds) (hd : Vals dvs ds) (hx : Passes CX X E)
    (I : Inv X pins σ H s) (r : Vals vs us) (h : sp (vs ++ dvs) H Q E) : wpAny (model X.prog X.w) X.A (call (.ref f) us) (EP X pins σ Q) X.xe s := by
  have r2 : Vals (vs ++ dvs) (us ++ ds) := r.append hd
  have hl : (us ++ ds).length = ps.length := r2.length ▸ F.len _ _ _ _ h
  refine wpAny_call (codeAny_mono (F.run X.A X.stack s H ⟨us, []⟩ (us ++ ds) (vs ++ dvs) Q E hgd hr I.env0 (hb s us I.kIn hl) r2 h) fun res s' hq => ?_)
  match res, hq with
  | .error _, hq => exact hx pins σ H s _ s' I hq
  | .ok (.ret _), hq => exact I.after hq
/-- f(e, ..), f promised where no repr is under way -/
theorem pe_callG (F : FnG X.prog X.w X.K X.mg X.base CX k f fd ps sp) (hgd : X.A.guards = some []) (hr : Room k X.A) (hg : Gl X x) (hm : X.mg x = some (.ref f)) (hk : PySem.W.keepIn X.K (.ref f) = true) (hb : L2.Binds X.K fd ps ds) (hd : Vals dvs ds) (hx : Passes CX X E)
    (ha : PA X (e :: es) t) (hdb : (x == ("__debug__" : Str)) = false := by decide) (he : starEach (e :: es) X.env = (false, eval e X.env) :: starEach es X.env := by rfl) (hpl : (backTo pos (starEach es X.env)).any (·.1) = false := by rfl) :
    PE X (.Call (.Name x p) (e :: es) [] pos) (tCall sp dvs E t) :=
  ⟨fun pins s σ H Q I h => wpAny_Call_Name_kw (ld_glob I hg hm (PySem.W.callWith_K (h₀ := X.base) I.ok.mod.kin hk (thn (ha.run pos pins s σ H _ I h) fun us s1 ⟨vs, H1, I1, r, q⟩ => ⟨I1.kIn, run_fnG F hgd hr hb hd hx I1 r q⟩) he hpl) hdb)⟩
/-- repr(x), x data of lists and tuples -/
def rReprD (K : PySem.W.Frag) : List V → Hp → VK → Prop := fun xs H Q => ∃ (a : Addr) (d : PyData), xs = [.ref a] ∧ Dp K H (.ref a) d ∧ d.showable = true ∧ d.canLay0 = true ∧ d.depth ≤ 60 ∧ d.shown.length ≤ sizeLine ∧ Q (.str d.shown) H
theorem call_reprD (hgd : X.A.guards = some []) (hu : X.A.units + 64 < cLine) : CallR X (.builtin "repr") (rReprD X.K) := by
  intro pins s σ H xs us Q I r h
  obtain ⟨a, d, rfl, hd, hs, hl, hdp, hz, q⟩ := h
  cases r with
  | cons r rr =>
    cases rr
    obtain ⟨as, rd⟩ := Dp.reads I d _ _ hd r
    cases r
    refine repr_of_reads' rd hs (PyData.noDict_hsm (PyData.hasDict_of_canLay d hl)) hgd (by omega) (fun _ _ e => e) (fun h' u tk hk => ?_) hz
    exact ⟨.str d.shown, H, I.kept hk, ⟨_, rfl⟩, q⟩
end
end OB
/-! repr of a list or a tuple of ints. -/
namespace OB
open PySem PySem.Spec PyProof.Rows L2
theorem shown_ints : ∀ ns : List Int, PyData.shownAll (ns.map PyData.int) = ns.map fun n => Str.ofString (toString n)
  | [] => by simp [PyData.shownAll]
  | n :: r => by simp [PyData.shownAll, PyData.shown, shown_ints r]
theorem show_ints : ∀ ns : List Int, (∀ n ∈ ns, n.natAbs.log2 < 1920) → PyData.showableAll (ns.map PyData.int) = true
  | [], _ => by simp [PyData.showableAll]
  | n :: r, h => by
    have h1 := h n List.mem_cons_self
    have h2 := show_ints r fun x hx => h x (List.mem_cons_of_mem _ hx)
    simp [PyData.showableAll, PyData.showable, h2, h1]
theorem piled_ints : ∀ ns : List Int, (∀ n ∈ ns, n.natAbs.log2 < 1920) → piled (ns.map fun n => Str.ofString (toString n)) ≤ 1923 * ns.length
  | [], _ => Nat.zero_le _
  | n :: r, h => by
    have h1 := int_text_len_1921 (h n List.mem_cons_self)
    have h2 := piled_ints r fun x hx => h x (List.mem_cons_of_mem _ hx)
    rw [List.map_cons, piled_cons, List.length_cons]
    omega
theorem list_len (ts : List Str) : (listText ts).length ≤ piled ts + 2 := by
  have one : (("[" : String) : Str).length = 1 := rfl
  have two : (("]" : String) : Str).length = 1 := rfl
  unfold listText
  rw [strLen_append, two]
  cases ts with
  | nil =>
    show (("[" : String) : Str).length + 1 ≤ _
    rw [one]
    exact Nat.le_add_left _ _
  | cons t r =>
    show (textFrom 1 ((("[" : String) : Str) ++ t) r).length + 1 ≤ _
    rw [textFrom_length_pos r 1 _ (by decide), strLen_append, one, piled_cons]
    omega
theorem depth_ints (ns : List Int) : PyData.depthAll (ns.map PyData.int) ≤ 1 := deep_ints ns
/-- the text of a list, of a tuple of ints -/
def tl (ns : List Int) : Str := PyData.shown (.list (ns.map PyData.int))
def tt (ns : List Int) : Str := PyData.shown (.tuple (ns.map PyData.int))
theorem tl_len {ns : List Int} (h : ∀ n ∈ ns, n.natAbs.log2 < 1920) (hl : ns.length ≤ 1000) : (tl ns).length ≤ sizeLine := by
  have a := piled_ints ns h
  have b := list_len (ns.map fun n => Str.ofString (toString n))
  show (listText (PyData.shownAll (ns.map PyData.int))).length ≤ sizeLine
  rw [shown_ints, sizeLine_eq]
  omega
theorem tt_len {ns : List Int} (h : ∀ n ∈ ns, n.natAbs.log2 < 1920) (hl : ns.length ≤ 1000) : (tt ns).length ≤ sizeLine := by
  have a := piled_ints ns h
  have b := fmt_text (ns.map fun n => Str.ofString (toString n))
  show (tupleText (PyData.shownAll (ns.map PyData.int))).length ≤ sizeLine
  rw [shown_ints, sizeLine_eq]
  omega
section
variable {X : Cx}
def rReprI (K : PySem.W.Frag) : List V → Hp → VK → Prop := fun xs H Q => ∃ (a : Addr) (ns : List Int), xs = [.ref a] ∧ (∀ n ∈ ns, n.natAbs.log2 < 1920) ∧ ns.length ≤ 1000 ∧ ((SqL K H a (ns.map V.int) ∧ Q (.str (tl ns)) H) ∨ (SqT K H a (ns.map V.int) ∧ Q (.str (tt ns)) H))
theorem call_reprI (hgd : X.A.guards = some []) (hu : X.A.units + 64 < cLine) : CallR X (.builtin "repr") (rReprI X.K) := by
  intro pins s σ H xs us Q I r h
  obtain ⟨a, ns, rfl, hs, hl, q⟩ := h
  have sh := show_ints ns hs
  have d := depth_ints ns
  rcases q with ⟨hq, q⟩ | ⟨hq, q⟩
  · refine call_reprD hgd hu pins s σ H _ us Q I r ⟨a, .list (ns.map PyData.int), rfl, Dp.lst hq (dp_ints ns), by simp [PyData.showable, sh], by simp [PyData.canLay0, lay_ints], ?_, tl_len hs hl, q⟩
    show PyData.depthAll (ns.map PyData.int) + 1 ≤ 60
    omega
  · refine call_reprD hgd hu pins s σ H _ us Q I r ⟨a, .tuple (ns.map PyData.int), rfl, Dp.tup hq (dp_ints ns), by simp [PyData.showable, sh], by simp [PyData.canLay0, lay_ints], ?_, tt_len hs hl, q⟩
    show PyData.depthAll (ns.map PyData.int) + 1 ≤ 60
    omega
end
end OB
/-! What a reader of errors told, call by call, in a list that grows; things that stay meanwhile. -/
namespace OB
open PySem PySem.Spec PyProof.Rows L2 LamX
/-- a list that begins with a reference, or a table: what may change -/
def refL : HO → Bool
  | .lst (.ref _ :: _) => true
  | .tbl _ => true
  | _ => false
def Keep (H H' : Hp) : Prop := ∀ q o, H q = some o → refL o = false → H' q = some o
section
variable {H H' H1 H2 : Hp}
theorem Keep.refl : Keep H H := fun _ _ h _ => h
theorem Keep.trans (a : Keep H H1) (b : Keep H1 H2) : Keep H H2 := fun q o h n => b q o (a q o h n) n
theorem Keep.ext (e : ExtN H H') : Keep H H' := fun q o h n => e q o h fun ps z => by
  subst z
  cases n
theorem Keep.same (s : Same H H') : Keep H H' := fun q o h _ => s q o h
theorem Keep.but {p : Addr} (b : But p H H') (hp : ∃ x r, H p = some (.lst (.ref x :: r))) : Keep H H' := fun q o h n => b q o h fun z => by
  obtain ⟨x, r, hp⟩ := hp
  rw [z, hp] at h
  cases h
  cases n
theorem orch_ref {p b : Addr} {n : Nat} (o : Orch H p b n) : ∃ x r, H p = some (.lst (.ref x :: r)) := by
  obtain ⟨ns, t, l, h1, _⟩ := o
  exact ⟨_, _, h1⟩
theorem orch_extN {p b : Addr} {n : Nat} (o : Orch H p b n) (e : ExtN H H') : Orch H' p b n := by
  obtain ⟨ns, t, l, h1, h2, h3⟩ := o
  exact ⟨ns, t, l, e _ _ h1 (fun _ z => nomatch z), e _ _ h2 (fun _ z => nomatch z), h3⟩
theorem tabs_butN {T : List (Addr × Str)} {p : Addr} {xs : List V} (t : Tabs T H) (b : But p H H') (hp : H p = some (.lst xs)) : Tabs T H' := fun x hx => by
  obtain ⟨ps, h1, h2, h3⟩ := t x hx
  have n1 : x.1 ≠ p := fun z => by
    rw [z, hp] at h1
    cases h1
  refine ⟨ps, b _ _ h1 n1, h2, fun pos cv hc => ?_⟩
  obtain ⟨c, e1, e2⟩ := h3 pos cv hc
  have n2 : c ≠ p := fun z => by
    rw [z, hp] at e2
    have e2 := Option.some.inj e2
    cases e2
  exact ⟨c, e1, b _ _ e2 n2⟩
theorem tabs_orchN {T : List (Addr × Str)} {p b : Addr} {n : Nat} (t : Tabs T H) (B : But p H H') (o : Orch H p b n) : Tabs T H' := by
  obtain ⟨ns, x, y, hp, _⟩ := o
  exact tabs_butN t B hp
/-- things that stay -/
def Fix (A : List (Addr × HO)) (H : Hp) : Prop := ∀ a ∈ A, H a.1 = some a.2 ∧ refL a.2 = false
theorem Fix.nil : Fix [] H := fun a h => absurd h List.not_mem_nil
theorem Fix.cons {A : List (Addr × HO)} {a : Addr} {o : HO} (h : H a = some o) (n : refL o = false) (f : Fix A H) : Fix ((a, o) :: A) H := fun x hx => by
  rcases List.mem_cons.mp hx with e | e
  · rw [e]
    exact ⟨h, n⟩
  · exact f x e
theorem Fix.keep {A : List (Addr × HO)} (f : Fix A H) (k : Keep H H') : Fix A H' := fun a ha => ⟨k _ _ (f a ha).1 (f a ha).2, (f a ha).2⟩
theorem Fix.get {A : List (Addr × HO)} (f : Fix A H) {a : Addr} {o : HO} (h : (a, o) ∈ A) : H a = some o := (f _ h).1
theorem Fix.app {A B : List (Addr × HO)} (f : Fix A H) (g : Fix B H) : Fix (A ++ B) H := fun a ha => by
  rcases List.mem_append.mp ha with e | e
  · exact f a e
  · exact g a e
/-- what the reader told: a kind and a part, or None -/
def Ent (H : Hp) (v : V) : Option (Str × Str) → Prop
  | none => v = .non
  | some k => ∃ t, v = .ref t ∧ H t = some (.tup [.str k.1, .str k.2])
def Res (H : Hp) : List V → List (Option (Str × Str)) → Prop
  | [], [] => True
  | v :: r, k :: ks => Ent H v k ∧ Res H r ks
  | _, _ => False
theorem Ent.keep {v : V} {k : Option (Str × Str)} (e : Ent H v k) (q : Keep H H') : Ent H' v k := by
  cases k with
  | none => exact e
  | some k =>
    obtain ⟨t, rfl, h⟩ := e
    exact ⟨t, rfl, q _ _ h rfl⟩
theorem Res.keep (q : Keep H H') : ∀ {vs : List V} {ks : List (Option (Str × Str))}, Res H vs ks → Res H' vs ks
  | [], [], _ => trivial
  | _ :: _, _ :: _, ⟨a, b⟩ => ⟨a.keep q, Res.keep q b⟩
theorem Res.snoc {v : V} {k : Option (Str × Str)} (e : Ent H v k) : ∀ {vs : List V} {ks : List (Option (Str × Str))}, Res H vs ks → Res H (vs ++ [v]) (ks ++ [k])
  | [], [], _ => ⟨e, trivial⟩
  | _ :: _, _ :: _, ⟨a, b⟩ => ⟨a, Res.snoc e b⟩
theorem Res.length : ∀ {vs : List V} {ks : List (Option (Str × Str))}, Res H vs ks → vs.length = ks.length
  | [], [], _ => rfl
  | _ :: _, _ :: _, ⟨_, b⟩ => congrArg (· + 1) (Res.length b)
def entD : Option (Str × Str) → PyData
  | none => .none
  | some k => .tuple [.str k.1, .str k.2]
theorem Ent.dp {K : PySem.W.Frag} {v : V} {k : Option (Str × Str)} (e : Ent H v k) : Dp K H v (entD k) := by
  cases k with
  | none =>
    have e : v = .non := e
    rw [e]
    exact .non
  | some k =>
    obtain ⟨t, rfl, h⟩ := e
    exact Dp.tup (SqT.of h) (.cons (.str _) (.cons (.str _) .nil))
theorem Res.dp {K : PySem.W.Frag} : ∀ {vs : List V} {ks : List (Option (Str × Str))}, Res H vs ks → DpAll K H vs (ks.map entD)
  | [], [], _ => .nil
  | _ :: _, _ :: _, ⟨a, b⟩ => .cons a.dp (Res.dp b)
/-- between two calls of the reader -/
structure St (T : List (Addr × Str)) (p b h : Addr) (A : List (Addr × HO)) (n : Nat) (H : Hp) (vs : List V) (ks : List (Option (Str × Str))) : Prop where
  tabs : Tabs T H
  orch : Orch H p b n
  at' : H h = some (.lst vs)
  hp : h ≠ p
  hb : h ≠ b
  fix : Fix A H
  res : Res H vs ks
  first : ∃ x r, vs = .ref x :: r
variable {T : List (Addr × Str)} {p b h : Addr} {A : List (Addr × HO)} {n m : Nat} {vs : List V} {ks : List (Option (Str × Str))}
theorem St.ext (s : St T p b h A n H vs ks) (e : ExtN H H') (t : Tabs T H') : St T p b h A n H' vs ks :=
  ⟨t, orch_extN s.orch e, e _ _ s.at' (fun _ z => nomatch z), s.hp, s.hb, s.fix.keep (.ext e), s.res.keep (.ext e), s.first⟩
theorem St.but (s : St T p b h A n H vs ks) (B : But p H H') (O : Orch H' p b m) : St T p b h A m H' vs ks :=
  ⟨tabs_orchN s.tabs B s.orch, O, B _ _ s.at' s.hp, s.hp, s.hb, s.fix.keep (.but B (orch_ref s.orch)), s.res.keep (.but B (orch_ref s.orch)), s.first⟩
theorem St.add {v : V} {k : Option (Str × Str)} (s : St T p b h A n H vs ks) (e : Ent H v k) : St T p b h A n (upd H h (.lst (vs ++ [v]))) (vs ++ [v]) (ks ++ [k]) := by
  obtain ⟨x, r, ev⟩ := s.first
  have B : But h H (upd H h (.lst (vs ++ [v]))) := but_at
  have kp : Keep H (upd H h (.lst (vs ++ [v]))) := .but B ⟨x, r, by rw [s.at', ev]⟩
  refine ⟨tabs_butN s.tabs B s.at', s.orch.keep (fun u hu => B _ _ hu (fun z => s.hp z.symm)) (fun u hu => B _ _ hu (fun z => s.hb z.symm)), upd_same, s.hp, s.hb, s.fix.keep kp, (s.res.keep kp).snoc (e.keep kp), x, r ++ [v], by rw [ev]; rfl⟩
theorem St.begin {t h : Addr} {k : Str × Str} (hT : Tabs T H) (O : Orch H p b n) (F : Fix A H) (e : Ent H (.ref t) (some k)) (hh : H h = none) : St T p b h A n (upd H h (.lst [.ref t])) [.ref t] [some k] := by
  have S := same_new (o := .lst [.ref t]) hh
  obtain ⟨u, hu⟩ := O.pn
  obtain ⟨u2, hu2⟩ := O.bn
  exact ⟨hT.ext S, O.same S, upd_same, (ne_of_none hu hh).symm, (ne_of_none hu2 hh).symm, F.keep (.same S), ⟨e.keep (.same S), trivial⟩, t, [], rfl⟩
end
end OB
/-! The law's own call, its promise asked only where no repr is under way. -/
namespace OB
open PySem PySem.Spec PyProof.Rows L2 LamX
section
variable {P : Program} {w : World} {K : PySem.W.Frag} {mg mb : Str → Option Value} {CX : CXT} {k : Nat} {fa a : Addr} {cs : List (Addr × Addr)} {fd : FuncData} {x : Str} {sp : Sp} {s₁ : Shared} {vs : List Value} {ns : List Int}
/-- what is tracked as the law begins: its script, where it is no part of the text's own objects, and the tables of its lambdas -/
def top (K : PySem.W.Frag) (a : Addr) (vs : List Value) (ns : List Int) (T : List Addr) : Hp := fun b =>
  if b = a then (if K.lookup a = none then some (.frz { cls := .type "list", data := .seq vs.toArray } (.lst (ns.map V.int))) else none) else if b ∈ T then some (.tbl #[]) else none
theorem top_some {T : List Addr} {b : Addr} {u : HO} (h : top K a vs ns T b = some u) :
    (b = a ∧ K.lookup a = none ∧ u = .frz { cls := .type "list", data := .seq vs.toArray } (.lst (ns.map V.int))) ∨ (b ≠ a ∧ b ∈ T ∧ u = .tbl #[]) := by
  unfold top at h
  by_cases e : b = a
  · rw [if_pos e] at h
    by_cases n : K.lookup a = none
    · rw [if_pos n] at h
      exact .inl ⟨e, n, (Option.some.inj h).symm⟩
    · rw [if_neg n] at h
      cases h
  · rw [if_neg e] at h
    by_cases m : b ∈ T
    · rw [if_pos m] at h
      exact .inr ⟨e, m, (Option.some.inj h).symm⟩
    · rw [if_neg m] at h
      cases h
theorem top_none {T : List Addr} {b : Addr} (h1 : b = a → K.lookup a ≠ none) (h2 : b ∉ T) : top K a vs ns T b = none := by
  cases e : top K a vs ns T b with
  | none => rfl
  | some u =>
    rcases top_some e with ⟨q, n, _⟩ | ⟨_, m, _⟩
    · exact absurd n (h1 q)
    · exact absurd m h2
theorem law_callG (KX : K.In s₁.heap) (hns : s₁.heap.Ns mainGlobals mg) (hb : s₁.heap.Ns builtinsNs mb) (hbb : ∀ x : Str, x ≠ "__name__" → mb x = bootBuiltins x) (hlim : s₁.heap.NoLimit) (hg : s₁.gens = #[])
    (hT : ∀ p ∈ cs, s₁.heap.get? p.2 = some { cls := .none, data := .fields #[] }) (nT : ∀ p ∈ cs, K.lookup p.2 = none) (C : ∀ p ∈ cs, PySem.W.CodeHd s₁.heap p.1 p.2)
    (hbm : ∃ (bm : Addr) (ob : Obj), mg "__builtins__" = some (.ref bm) ∧ bm ≠ builtinsNs ∧ s₁.heap.get? bm = some ob ∧ ob.cls = .type "module" ∧ ob.dict = some builtinsNs ∧ ob.data = .plain)
    (ha : s₁.heap.get? a = some { cls := .type "list", data := .seq vs.toArray }) (hi : IntsAre vs ns) (hl : ns.length ≤ sizeLine) (hr : Room k callerA)
    (F : ∀ base : Heap, K.In base → base.Ns mainGlobals mg → (∀ p ∈ cs, TabB base mg p.1 p.2) → FnG P w K mg base CX k fa fd [x] sp) (hbind : ∀ (s : Shared) (u : Value), BindsTo s fd ⟨[u], []⟩ [(x, u)])
    (hsp : ∀ H : Hp, (∀ p ∈ cs, H p.2 = some (.tbl #[])) → SqL K H a (ns.map V.int) → sp [.ref a] H (fun v _ => v = .bl true) fun _ _ _ => False)
    (hCX : ∀ H e s', CX [] H s₁ (fun _ _ _ => False) e s' → False) :
    codeAny (model P w) callerA (.call (.ref fa) ⟨[.ref a], []⟩) (fun r s' => r = .ok (.ret (.bool true)) ∧ OldK s₁.heap s'.heap ∧ s'.os = s₁.os ∧ AllBare s'.gens) s₁ := by
  have rv := vals_ints hi
  obtain ⟨T, eT⟩ : ∃ T, T = cs.map (·.2) := ⟨_, rfl⟩
  have inT : ∀ p ∈ cs, p.2 ∈ T := fun p hp => eT ▸ List.mem_map.mpr ⟨p, hp, rfl⟩
  have ofT : ∀ b ∈ T, ∃ p ∈ cs, p.2 = b := fun b h => List.mem_map.mp (eT ▸ h)
  have tab : ∀ b ∈ T, s₁.heap.get? b = some { cls := .none, data := .fields #[] } := fun b h => by
    obtain ⟨p, hp, rfl⟩ := ofT b h
    exact hT p hp
  have aT : a ∉ T := fun z => by
    have q := (tab a z).symm.trans ha
    have q := congrArg Obj.data (Option.some.inj q)
    cases q
  obtain ⟨H, eH⟩ : ∃ H, H = top K a vs ns T := ⟨_, rfl⟩
  have some_ : ∀ {b u}, H b = some u → (b = a ∧ K.lookup a = none ∧ u = .frz { cls := .type "list", data := .seq vs.toArray } (.lst (ns.map V.int))) ∨ (b ≠ a ∧ b ∈ T ∧ u = .tbl #[]) := fun h => top_some (by rw [eH] at h; exact h)
  have hH : ∀ p ∈ cs, H p.2 = some (.tbl #[]) := fun p hp => by
    have ne : p.2 ≠ a := fun z => aT (z ▸ inT p hp)
    rw [eH]
    unfold top
    rw [if_neg ne, if_pos (inT p hp)]
  have hok : HOk P w H s₁.heap := fun b u z => by
    rcases some_ z with ⟨rfl, _, rfl⟩ | ⟨_, m, rfl⟩
    · exact ⟨ha, by rw [List.length_map]; exact hl, vs, _, rv, ha⟩
    · exact tab b m
  have hS : SqL K H a (ns.map V.int) := by
    cases hk : K.lookup a with
    | none =>
      refine .inl (.inr ⟨{ cls := .type "list", data := .seq vs.toArray }, ?_⟩)
      rw [eH]
      unfold top
      rw [if_pos rfl, if_pos hk]
    | some o =>
      have e := (KX a o hk).symm.trans ha
      cases e
      exact .inr ⟨_, vs.toArray, _, hk, rfl, rfl, rfl, by rw [List.size_toArray, hi.length]; exact hl, by simpa using rv⟩
  -- what is no list and no empty table is not tracked
  have bare : ∀ {b : Addr} {o : Obj}, s₁.heap.get? b = some o → (∀ vs n, o.data ≠ .seq vs n) → o.data ≠ .fields #[] → H b = none := fun {b o} e h1 h2 => by
    cases q : H b with
    | none => rfl
    | some u =>
      rcases some_ q with ⟨rfl, _, _⟩ | ⟨_, m, _⟩
      · cases e.symm.trans ha
        exact (h1 _ _ rfl).elim
      · cases e.symm.trans (tab b m)
        exact (h2 rfl).elim
  have under : ∀ {b : Addr} {o : Obj}, s₁.heap.get? b = some o → H b = none → (hidT s₁.heap H).get? b = some o := fun e n => hidT_get e n
  have names : ∀ {b : Addr} {m : Str → Option Value}, s₁.heap.Ns b m → (hidT s₁.heap H).Ns b m := fun {b m} ⟨o, es, ep, e, d, r⟩ =>
    ⟨o, es, ep, under e (bare e (fun vs n z => by rw [d] at z; cases z) fun z => by rw [d] at z; cases z), d, r⟩
  have hKb : K.In (hidT s₁.heap H) := fun b o e => under (KX b o e) (by
    cases q : H b with
    | none => rfl
    | some u =>
      rcases some_ q with ⟨rfl, n, _⟩ | ⟨_, m, _⟩
      · rw [n] at e
        cases e
      · obtain ⟨p, hp, rfl⟩ := ofT b m
        rw [nT p hp] at e
        cases e)
  have hM : L2.Mod K mg (hidT s₁.heap H) := ⟨hKb, names hns, ⟨mb, names hb, hbb⟩, let ⟨mc, h1, h2⟩ := hlim; ⟨mc, names h1, h2⟩⟩
  have TB : ∀ p ∈ cs, TabB (hidT s₁.heap H) mg p.1 p.2 := fun p hp => by
    have hTp := hT p hp
    refine ⟨?_, ?_, fun z => ?_⟩
    · obtain ⟨o, us, file, tf, flags, tg, inF, text, tt, e1, r1, r2, r3, rest⟩ := C p hp
      exact ⟨o, us, file, tf, flags, tg, inF, text, tt, under e1 (bare e1 (fun vs n z => by rw [r2] at z; cases z) fun z => by
        rw [r2] at z
        cases z
        simp at r3), r1, r2, r3, rest⟩
    · obtain ⟨bm, ob, b1, b2, b3, b4, b5, b6⟩ := hbm
      refine ⟨bm, ob, b1, b2, fun q => ?_, fun q => ?_, under b3 (bare b3 (fun vs n z => by rw [b6] at z; cases z) fun z => by rw [b6] at z; cases z), b4, b5, b6⟩
      · obtain ⟨o, es, ep, e, hd, _⟩ := hns
        rw [q, e] at b3
        cases b3
        rw [hd] at b6
        cases b6
      · rw [q, hTp] at b3
        cases b3
        cases b6
    · obtain ⟨o, es, ep, e, hd, _⟩ := hns
      rw [z, hTp] at e
      cases e
      cases hd
  have e0 : Env0 P w K mg (hidT s₁.heap H) callerA [] s₁ H := ⟨rfl, hM, fun b o e => of_hidT e, Nat.le_of_eq (hidT_size _ _), trivial, fun b hb => absurd (show b ∈ ([] : List Addr) from hb) (by simp), hok, .of_eq hg⟩
  refine codeAny_mono ((F _ hKb (names hns) TB).run callerA [] s₁ H ⟨[.ref a], []⟩ [.ref a] [.ref a] _ _ rfl hr e0 (hbind s₁ (.ref a)) (.cons rfl .nil) (hsp H hH hS)) fun r s' h => ?_
  match r, h with
  | .error e, h => exact (hCX H e s' h).elim
  | .ok (.ret u), h =>
    obtain ⟨v, H', os, bs, un, hok', r', q⟩ := h
    have q : v = .bl true := q
    subst q
    obtain rfl : u = Value.bool true := r'
    have key : ∀ b o, b ∉ T → s₁.heap.get? b = some o → s'.heap.get? b = some o := fun b o nb e => by
      cases q : H b with
      | none => exact un.keep b o e q (by intro z; exact absurd (show b ∈ ([] : List Addr) from z) (by simp)) (by simp)
      | some u =>
        rcases some_ q with ⟨rfl, _, rfl⟩ | ⟨_, m, _⟩
        · obtain ⟨e1, _⟩ := hok b _ q
          obtain ⟨e2, _⟩ := hok' b _ (un.frzs b _ _ q)
          rw [e] at e1
          cases e1
          exact e2
        · exact absurd m nb
    have grown : ∀ p ∈ cs, ∃ more : Array Value, s'.heap.get? p.2 = some { cls := .none, data := .fields more } := fun p hp => by
      obtain ⟨more, z⟩ := un.tbls p.2 #[] (hH p hp)
      exact ⟨_, hok' p.2 _ z⟩
    refine ⟨rfl, ⟨fun b o e => ?_, fun b o e => ?_⟩, os, bs⟩
    · by_cases m : b ∈ T
      · obtain ⟨p, hp, rfl⟩ := ofT b m
        obtain ⟨more, hm⟩ := grown p hp
        rw [hT p hp] at e
        cases e
        exact .inr (.inl ⟨((C p hp).tab (hT p hp)).isCodeTable, rfl, #[], more, rfl, by rw [Array.empty_append]; exact hm⟩)
      · exact .inl (key b o m e)
    · by_cases m : b ∈ T
      · obtain ⟨p, hp, rfl⟩ := ofT b m
        obtain ⟨more, hm⟩ := grown p hp
        exact ⟨_, hm⟩
      · exact ⟨o, key b o m e⟩
/-- what is known of the law's promise at the head's heap -/
def LawG (l : PySem.W.OpenLaw) (w : World) (K : PySem.W.Frag) (CX : CXT) (k n : Nat) (x : Str) (mg : Str → Option Value) (fa : Addr) (h : Heap) : Prop :=
  ∃ (fd : FuncData) (cs : List (Addr × Addr)) (sp : Sp), ((∀ p ∈ cs, h.get? p.2 = some { cls := .none, data := .fields #[] }) ∧ (∀ p ∈ cs, K.lookup p.2 = none) ∧ (∀ p ∈ cs, PySem.W.CodeHd h p.1 p.2)) ∧ (∀ (s : Shared) (u : Value), BindsTo s fd ⟨[u], []⟩ [(x, u)]) ∧
    (∀ (H : Hp) (a : Addr) (ns : List Int), ns.length ≤ n → (∀ z ∈ ns, Builtin.Int.intBits z ≤ 1048576) → (∀ p ∈ cs, H p.2 = some (.tbl #[])) → SqL K H a (ns.map V.int) → sp [.ref a] H (fun v _ => v = .bl true) fun _ _ _ => False) ∧
    ∀ base : Heap, K.In base → base.Ns mainGlobals mg → (∀ p ∈ cs, TabB base mg p.1 p.2) → FnG l.prog w K mg base CX k fa fd [x] sp
end
theorem walk_G {l : PySem.W.OpenLaw} {n k : Nat} {q : Program} {loose : List Str} {XP : (Str → Option Value) → Heap → Prop} {YP : World → Heap → Prop} {d : DefRec} {K : Params → PySem.W.Frag} {CX : World → CXT} {x : Str}
    (hn : l.most = some n) (hn2 : n ≤ sizeLine) (hdf : d.params.defaults = []) (hr : Room k callerA) (hY : ∀ (w : World) (h : Heap), YP w h → (K w.params).In h)
    (F : ∀ (w : World) (mg : Str → Option Value) (fa : Addr) (h : Heap), YP w h → (K w.params).In h → h.Ns mainGlobals mg → mg d.name = some (.ref fa) → LawG l w (K w.params) (CX w) k n x mg fa h)
    (hCX : ∀ (w : World) (H : Hp) (s : Shared) (e : Value) (s' : Shared), CX w [] H s (fun _ _ _ => False) e s' → False) :
    PySem.W.WalkO q loose XP YP l.row.toRowW d [] (fun f vs => PySem.call f vs) := by
  refine Att.attach_callB hn hdf fun w s₀ s₁ mg mb fa o pm cd doc a vs ns G Y ho hd hcd hmg hobj hints hlen hbits hg => ?_
  have KX := hY w _ Y
  obtain ⟨fd, cs, sp, ⟨hT, nT, C⟩, hb, hsp, hF⟩ := F w mg fa _ Y KX G.T.g hmg
  exact law_callG KX G.T.g G.T.b G.T.builtins G.T.nolimit hg hT nT C G.T.bmain hobj hints (Nat.le_trans hlen hn2) hr hF hb (fun H hH hS => hsp H a ns hlen hbits hH hS) fun H e s' => hCX w H s₁ e s'
end OB
/-! Own errors with two fields, raised. -/
namespace OB
open PySem PySem.Spec PyProof.Rows L2
/-- __init__(self, f, g): self.f = f; self.g = g of an own error -/
def spInit2 (K : PySem.W.Frag) (f g : Str) : Sp := fun vs H Q _ => ∃ (a C : Addr) (v u : V), vs = [.ref a, v, u] ∧ OexC K C ∧ PySem.W.findIn K (.ref C) f = some none ∧ PySem.W.findIn K (.ref C) g = some none ∧ H a = some (exo a C none) ∧
  ∀ dx, H dx = none → dx ≠ a → Q .non (upd (upd H dx (exd dx [(g, u), (f, v)])) a (exo a C (some dx)))
section
variable {P : Program} {w : World} {K : PySem.W.Frag} {mg : Str → Option Value} {base : Heap}
theorem ok_init2 {qual : Str} {st : Stmt} {fI : Addr} {fd : FuncData} {f g : Str} {p1 p2 p3 p4 r1 r2 r3 r4 : Pos} (F : Fun K "__init__" qual st fI fd) (S : FnScope ["self", f, g] ["self", f, g] (defScope st)) (hfg : ¬ f = g)
    (hb : defBody st = [.Assign [.Attribute (.Name "self" p1) f p2] (.Name f p3) p4, .Assign [.Attribute (.Name "self" r1) g r2] (.Name g r3) r4])
    (hv : Vis (defScope st) f) (hw : Vis (defScope st) g) (hs : Vis (defScope st) "self") (hd : (f == ("__debug__" : Str)) = false := by decide) (hcd : (f == ("__classdict__" : Str)) = false := by decide)
    (hd2 : (g == ("__debug__" : Str)) = false := by decide) (hcd2 : (g == ("__classdict__" : Str)) = false := by decide)
    (hsw : ∀ env : Env, swapsWith (.Name f p3) (some (.Attribute (.Name "self" p1) f p2)) p4.line env = pure false := by intro _; rfl)
    (hsw2 : ∀ env : Env, swapsWith (.Name g r3) (some (.Attribute (.Name "self" r1) g r2)) r4.line env = pure false := by intro _; rfl) :
    FnOk P w K mg base CX0 1 fI fd ["self", f, g] (spInit2 K f g) := by
  refine F.ok S (fun vs H Q E h => ?_) (fun cdv A outer s H vs Q E hr h => ?_)
  · obtain ⟨a, C, v, u, rfl, _⟩ := h
    rfl
  · obtain ⟨a, C, v, u, rfl, T, no, no2, ha, k⟩ := h
    rw [hb]
    refine ⟨_, pss_cons (ps_ost (pe_var (i := 0) rfl hs) (pe_var (i := 1) rfl hv hd hcd) (hsw _)) (pss_one (ps_ost (pe_var (i := 0) rfl hs) (pe_var (i := 2) rfl hw hd2 hcd2) (hsw2 _))), ?_⟩
    refine ⟨v, rfl, .ref a, rfl, a, C, rfl, T, no, .inl ⟨ha, fun dx n ne => ?_⟩⟩
    refine ⟨u, rfl, .ref a, rfl, a, C, rfl, T, no2, ?_⟩
    refine .inr ⟨dx, [(f, v)], upd_same, by rw [upd_ne ne, upd_same], (by show 1 ≤ 900; decide), ?_⟩
    have e : upd (upd (upd H dx (exd dx [(f, v)])) a (exo a C (some dx))) dx (exd dx ((g, u) :: [(f, v)])) = upd (upd H dx (exd dx [(g, u), (f, v)])) a (exo a C (some dx)) := by
      funext b
      by_cases h1 : b = a
      · rw [h1, upd_ne ne.symm, upd_same, upd_same]
      · by_cases h2 : b = dx
        · rw [h2, upd_same, upd_ne ne, upd_same]
        · rw [upd_ne h2, upd_ne h1, upd_ne h2, upd_ne h1, upd_ne h2]
    rw [e]
    exact k dx n ne
/-- an own error class with two fields, as the top leaves it -/
structure Err2 (P : Program) (w : World) (K : PySem.W.Frag) (mg : Str → Option Value) (base : Heap) (x f g : Str) (C fI : Addr) (fd : FuncData) : Prop where
  T : OexC K C
  iC : PySem.W.findIn K (.ref C) "__init__" = some (some (.ref fI))
  tI : PySem.W.typeIn K (.ref fI) = some (.type "function")
  F : FnOk P w K mg base CX0 1 fI fd ["self", f, g] (spInit2 K f g)
  b : Binds K fd ["self", f, g] []
  gl : mg x = some (.ref C)
  no : PySem.W.findIn K (.ref C) f = some none
  no2 : PySem.W.findIn K (.ref C) g = some none
end
/-- raise X(e, e2) -/
def tRaise2 (K : PySem.W.Frag) (C : Addr) (f g : Str) (W : WX) (te te2 : TE) : TS := fun _ σ H => tMkO C (spInit2 K f g) [] (tCons te (tCons te2 tNil)) σ H fun cls d H' => W cls d σ H'
theorem raise2_of {K : PySem.W.Frag} {C : Addr} {f g : Str} {W : WX} {σ : L2.St} {H1 : Hp} {v u : V} (T : OexC K C) (no : PySem.W.findIn K (.ref C) f = some none) (no2 : PySem.W.findIn K (.ref C) g = some none) (h : ∀ d, H1 d = none → W (.ref C) (some d) σ (upd H1 d (.xd [(g, u), (f, v)]))) :
    tNil σ H1 fun xs H2 => (v :: u :: xs).length ≤ 1000 ∧ ∀ a, H2 a = none → spInit2 K f g (.ref a :: ((v :: u :: xs) ++ [])) (upd H2 a (exo a C none))
      (fun z H3 => z = .non ∧ ∃ (d : Addr) (fs : List (Str × V)), H3 a = some (exo a C (some d)) ∧ H3 d = some (exd d fs) ∧ H2 d = none ∧ W (.ref C) (some d) σ (upd (del H3 a) d (.xd fs))) (fun _ _ _ => False) := by
  refine ⟨by show 2 ≤ 1000; decide, fun a ha => ⟨a, C, v, u, rfl, T, no, no2, upd_same, fun dx nd ne => ?_⟩⟩
  rw [upd_ne ne] at nd
  refine ⟨rfl, dx, [(g, u), (f, v)], upd_same, ?_, nd, ?_⟩
  · rw [upd_ne ne, upd_same]
  · rw [del_back ha ne]
    exact h dx nd
theorem ps_raise2 {X : Cx} {W : WX} {x f g : Str} {C fI : Addr} {fd : FuncData} {e e2 : Expr} {te te2 : TE} {p p2 pos : Pos} (hc : X.calm = true) (tk : Takes X W) (R : Err2 X.prog X.w X.K X.mg X.base x f g C fI fd) (hr : Room 2 X.A) (hg : Gl X x) (he : PE X e te) (he2 : PE X e2 te2)
    (hx : Passes CX0 X (fun _ _ _ => False) := by exact pass0) (hs2 : starEach [e2] X.env = [(false, eval e2 X.env)] := by rfl) (hs : starEach [e, e2] X.env = (false, eval e X.env) :: starEach [e2] X.env := by rfl) (hdb : (x == ("__debug__" : Str)) = false := by decide)
    (hpl : (backTo p2 (starEach [e2] X.env)).any (·.1) = false := by rfl) :
    PS X (.Raise (some (.Call (.Name x p) [e, e2] [] p2)) none pos) (tRaise2 X.K C f g W te te2) :=
  ps_raise (pos := pos) hc tk (pmk_oex (p := p) (pos := p2) R.T R.iC R.tI R.F hr R.b .nil hx hg R.gl (pa_cons he (pa_cons he2 pa_nil hs2) hs) hdb hs hpl)
end OB
/-! == and != of an own object with any value, by the class's own __eq__, with both answers. -/
namespace OB
open PySem PySem.Spec PyProof.Rows L2
section
variable {X : Cx} {n : Nat} {A : Around} {pins : List (Addr × Obj)} {σ : L2.St} {H : Hp} {s : Shared}
theorem sub_run {CX : CXT} {f : Addr} {fd : FuncData} {ps : List Str} {sp : Sp} {E : XK} {Q : VK} {us : List Value} {vs : List V} (F : FnOk X.prog X.w X.K X.mg X.base CX n f fd ps sp) (hb : L2.Binds X.K fd ps []) (hx : Passes CX X E)
    (sb : Sub X n A) (I : Inv X pins σ H s) (r : Vals vs us) (h : sp vs H Q E) : wpAny (model X.prog X.w) A (call (.ref f) us) (EP X pins σ Q) X.xe s := by
  have e0 : Env0 X.prog X.w X.K X.mg X.base A X.stack s H := by
    have e := I.env0
    exact ⟨by rw [sb.fr]; exact e.frames, e.mod, e.bs, e.bsz, e.funs, e.frf, e.hok, e.bare⟩
  have hl := F.len _ _ _ _ h
  have hl2 : us.length = ps.length := by rw [← r.length]; exact hl
  refine wpAny_call (codeAny_mono (F.run A X.stack s H ⟨us, []⟩ us vs Q E sb.room e0 (by
    have := hb s us I.kIn (by simpa using hl2)
    simpa using this) r h) fun r s' hq => ?_)
  cases r with
  | error e => exact hx pins σ H s e s' I hq
  | ok fl =>
    cases fl with
    | ret w =>
      obtain ⟨z, H', I', rz, q⟩ := I.after hq
      exact ⟨z, H', I', rz, q⟩
    | next => exact False.elim hq
    | brk => exact False.elim hq
    | cont => exact False.elim hq
end
/-- of the two the left one is asked first -/
def NotFirst (K : PySem.W.Frag) (C : Addr) (y : V) (H : Hp) : Prop := (∃ b dy gs, y = .ref b ∧ H b = some (.ins C dy gs)) ∨ (∃ b xs, y = .ref b ∧ SqT K H b xs ∧ PySem.W.subIn K (.type "tuple") (.ref C) = some false)
section
variable {X : Cx} {pins : List (Addr × Obj)} {σ : L2.St} {H : Hp} {s : Shared}
theorem nf_looks {C : Addr} {y : V} {v : Value} (I : Inv X pins σ H s) (ry : RelV y v) (h : NotFirst X.K C y H) : ∃ tb, PySem.W.Looks (model X.prog X.w) s.heap (typeOf v) tb ∧ PySem.W.notFirst X.K C tb = true := by
  rcases h with ⟨b, dy, gs, rfl, hb⟩ | ⟨b, xs, rfl, hb, hs⟩
  · cases (show v = Value.ref b from ry)
    obtain ⟨mB, J, _⟩ := ins_get I.hok hb
    obtain ⟨od, J, _⟩ := J.look
    exact ⟨.ref C, J.type, by simp [PySem.W.notFirst]⟩
  · cases (show v = Value.ref b from ry)
    obtain ⟨its, r, ⟨o, ho, hc, _⟩, z⟩ := I.tuple hb
    refine ⟨.type "tuple", hc ▸ (PySem.W.Looks.ld (part := none) ho).andThen .now, ?_⟩
    unfold PySem.W.notFirst
    rw [hs]
    simp
end
section
variable {prog : Program} {w : World} {A : Around} {E : Value → Shared → Prop} {s : Shared} {K : PySem.W.Frag} {x C L f : Addr} {h₀ : Heap} {m : Str → Option Value} {ox : Obj} {od : Option Obj} {name : Str} {b tb : Value}
open PySem.W PySem.Builtin in
theorem ifBound_bi {M : Model} {id : String} {args : List Value} {Q : Option Value → Shared → Prop} (X : K.In s.heap) (I : InstAt s.heap x ox C od) (hs : findIn K (.ref C) name = some (some (.builtin id)))
    (hb : ∀ self, bindSpecial (.builtin id) self = pure (.builtin id, [self])) (h : wpAny M A (call (.builtin id) (.ref x :: args)) (fun v => Q (some v)) E s) : wpAny M A (callSpecialIfBound? (.ref x) name args) Q E s := by
  simp only [callSpecialIfBound?, bindSpecialIfBound?]
  refine wpAny_holding (wpAny_bind (wpAny_bind (wpAny_bind (I.type.here ((looks_findIn X hs).here ?_)))))
  refine wpAny_bind (wpAny_askSetting (wpAny_ite ?_))
  have fin : wpAny M A (call (.builtin id) ([.ref x] ++ args) >>= fun v => pure (some v)) Q E s := wpAny_bind (wpAny_mono h (fun v s' h' => wpAny_pure h') fun _ _ h' => h')
  split
  · exact wpAny_bind ((Looks.of_pure (hb _)).here (wpAny_pure (by exact fin)))
  · exact wpAny_tryCatch (wpAny_bind ((Looks.of_pure (hb _)).here (wpAny_pure (by exact fin))))
open PySem.W PySem.Builtin in
theorem cmp_ne {Q : Value → Shared → Prop} (hu : A.units + 1 < cLine) (hu1 : A.in1.units < cLine) (F : Fr h₀ L s.heap m) (X₀ : K.In h₀) (I : InstAt s.heap x ox C od) (hb : Looks (model prog w) s.heap (typeOf b) tb) (hn : notFirst K C tb = true)
    (hne : findIn K (.ref C) "__ne__" = some (some (.builtin "object.__ne__"))) (hm : mroIn K C (.type "object") = some true)
    (hs : findIn K (.ref C) "__eq__" = some (some (.ref f))) (hf : isFn K (.ref f) = true)
    (h : wpAny (model prog w) A.in1 (call (.ref f) [.ref x, b]) (fun v s' => ∃ k, v = .bool k ∧ Q (.bool (!k)) s') E s) : wpAny (model prog w) A (richCompare .NotEq (.ref x) b) Q E s := by
  have X := X₀.keeps F.keep
  have body : wpAny (model prog w) A (call (.builtin "object.__ne__") [.ref x, b]) (fun v s' => ∃ k, v = .bool k ∧ Q v s') E s := by
    refine wpAny_call (codeAny_call_builtin PySem.F.slot_object_ne.plain PySem.F.entry_object_ne (check_slot (i := "object.__ne__") (owner := "object") (n := "__ne__") (by decide +kernel) (by decide +kernel) (I.type.andThen (looks_mroIn X hm)) (PySem.F.args_object_ne_2 _ _) ?_))
    unfold Builtin.«object.__ne__»
    refine wpAny_bind (m := slotArgs "__ne__" 1 _) (wpAny_pure ?_)
    refine wpAny_bind (m := cRoomFor _ _) (wpAny_cRoomFor hu1 ?_)
    refine wpAny_bind (m := callSpecialIfBound? (.ref x) (Str.ofString "__eq__") _) (ifBound_K X I hs hf (wpAny_mono h (fun r s' hq => ?_) fun _ _ y => y))
    obtain ⟨k, rfl, q⟩ := hq
    refine wpAny_bind (m := truthy (.bool k)) (wpAny_truthy_bool ?_)
    exact wpAny_pure ⟨!k, rfl, q⟩
  have one : wpAny (model prog w) A (tryCompare (.ref x) (cmpInfo .NotEq).2.1 b) (fun r s' => ∃ v, r = some v ∧ Q v s') E s := by
    unfold tryCompare
    refine wpAny_bind (ifBound_bi X I hne PySem.F.slot_object_ne.bind (wpAny_mono body (fun v s' hv => ?_) fun _ _ e => e))
    obtain ⟨k, rfl, q⟩ := hv
    exact wpAny_pure ⟨_, rfl, q⟩
  unfold richCompare
  simp only [oneThing_ref]
  refine wpAny_holding (wpAny_bind (wpAny_cRoomFor (Nat.lt_of_succ_lt hu) ?_))
  refine wpAny_bind (I.type.here (wpAny_bind (hb.here ?_)))
  split
  · rename_i q
    have e : subIn K tb (.ref C) = some false := by
      rcases Bool.or_eq_true_iff.mp hn with e | e
      · rw [beq_iff_eq.mp e] at q; simp at q
      · exact beq_iff_eq.mp e
    refine wpAny_bind ((looks_subIn X e).here ?_)
    simp only [Bool.false_eq_true, if_false]
    refine wpAny_bind (wpAny_mono one (fun r s' z => ?_) fun _ _ e => e)
    obtain ⟨v, rfl, hq⟩ := z
    exact wpAny_pure hq
  · refine wpAny_bind (wpAny_pure ?_)
    simp only [Bool.false_eq_true, if_false]
    refine wpAny_bind (wpAny_mono one (fun r s' z => ?_) fun _ _ e => e)
    obtain ⟨v, rfl, hq⟩ := z
    exact wpAny_pure hq
end
/-- a class's own ==: where its def stands, and that != is the usual one -/
structure OwnEqC (K : PySem.W.Frag) (C f : Addr) : Prop where
  eq : PySem.W.findIn K (.ref C) "__eq__" = some (some (.ref f))
  fn : PySem.W.isFn K (.ref f) = true
  ne : PySem.W.findIn K (.ref C) "__ne__" = some (some (.builtin "object.__ne__"))
  ob : PySem.W.mroIn K C (.type "object") = some true
def rEqO (K : PySem.W.Frag) (C : Addr) (sp : Sp) (E : XK) : R2 := fun x y H Q => ∃ a dx fs, x = .ref a ∧ H a = some (.ins C dx fs) ∧ NotFirst K C y H ∧ sp [x, y] H (fun v H' => ∃ b, v = .bl b ∧ Q (.bl b) H') E
def rNeO (K : PySem.W.Frag) (C : Addr) (sp : Sp) (E : XK) : R2 := fun x y H Q => ∃ a dx fs, x = .ref a ∧ H a = some (.ins C dx fs) ∧ NotFirst K C y H ∧ sp [x, y] H (fun v H' => ∃ b, v = .bl b ∧ Q (.bl (!b)) H') E
section
variable {X : Cx} {n : Nat} {CX : CXT} {C f : Addr} {fd : FuncData} {ps : List Str} {sp : Sp} {E : XK}
theorem op_eqO (F : FnOk X.prog X.w X.K X.mg X.base CX n f fd ps sp) (O : OwnEqC X.K C f) (hb : L2.Binds X.K fd ps []) (hx : Passes CX X E) (hr : Room n X.A) : OpR X (compareOp .Eq) (rEqO X.K C sp E) := by
  intro pins s σ H x y v u Q I rx ry hq
  obtain ⟨a, dx, fs, rfl, ha, nf, h⟩ := hq
  cases (show v = Value.ref a from rx)
  obtain ⟨mA, J, _⟩ := ins_get I.hok ha
  obtain ⟨od, J, _⟩ := J.look
  obtain ⟨m, hF⟩ := I.fr
  obtain ⟨tb, L, nf⟩ := nf_looks I ry nf
  show wpAny (model X.prog X.w) X.A (richCompare .Eq (.ref a) u) (EP X pins σ Q) X.xe s
  refine PySem.W.cmp_K (op := .Eq) hr.units0 hF I.ok.mod.kin J L nf O.eq O.fn ?_
  refine wpAny_mono (sub_run F hb hx ⟨hr, rfl⟩ I (Paired.cons (show L2.RelV (.ref a) (.ref a) from rfl) (.cons ry .nil)) h) (fun r s' q => ?_) fun _ _ z => z
  obtain ⟨z, H', I', rz, b, rfl, q⟩ := q
  cases rz
  exact ⟨.bl b, H', I', rfl, q⟩
theorem op_neO (F : FnOk X.prog X.w X.K X.mg X.base CX n f fd ps sp) (O : OwnEqC X.K C f) (hb : L2.Binds X.K fd ps []) (hx : Passes CX X E) (hr : Room (n + 1) X.A) : OpR X (compareOp .NotEq) (rNeO X.K C sp E) := by
  intro pins s σ H x y v u Q I rx ry hq
  obtain ⟨a, dx, fs, rfl, ha, nf, h⟩ := hq
  cases (show v = Value.ref a from rx)
  obtain ⟨mA, J, _⟩ := ins_get I.hok ha
  obtain ⟨od, J, _⟩ := J.look
  obtain ⟨m, hF⟩ := I.fr
  obtain ⟨tb, L, nf⟩ := nf_looks I ry nf
  show wpAny (model X.prog X.w) X.A (richCompare .NotEq (.ref a) u) (EP X pins σ Q) X.xe s
  refine cmp_ne (by have := hr.units; omega) hr.in1.units0 hF I.ok.mod.kin J L nf O.ne O.ob O.eq O.fn ?_
  refine wpAny_mono (sub_run F hb hx ⟨hr.in1, rfl⟩ I (Paired.cons (show L2.RelV (.ref a) (.ref a) from rfl) (.cons ry .nil)) h) (fun r s' q => ?_) fun _ _ z => z
  obtain ⟨z, H', I', rz, b, rfl, q⟩ := q
  cases rz
  exact ⟨b, rfl, .bl (!b), H', I', rfl, q⟩
end
end OB
/-! Static methods off a class, str of an own object by its own __str__, making by keywords alone. -/
namespace OB
open PySem PySem.Spec PyProof.Rows L2 ClX
/-- C.m is a static method: its record at p, its def at g -/
structure CStat (K : PySem.W.Frag) (C : Addr) (mc : Value) (m : Str) (p g : Addr) : Prop where
  at_ : PySem.W.findCls K (.ref C) mc m = some (.get (.builtin "staticmethod.__get__") (.ref p) .none (.ref C))
  rc : ∃ rest, PySem.W.recIn K p "staticmethod" = some (.ref g :: rest)
  kp : PySem.W.keepIn K (.ref g) = true
/-- e.m(..), e the class at C -/
def tSMeth (C : Addr) (sp : Sp) (E : XK) (ta : TE) (t : TA) : TE := fun σ H Q => ta σ H fun x H1 => x = .ref C ∧ t σ H1 fun vs H2 => sp vs H2 Q E
def tSMethK (C : Addr) (sp : Sp) (gV : List V → List V → List V) (E : XK) (ta : TE) (tk : TA) : TE := fun σ H Q => ta σ H fun x H1 => x = .ref C ∧ tk σ H1 fun zs H2 => sp (gV [] zs) H2 Q E
section
variable {X : Cx} {pins : List (Addr × Obj)} {σ : L2.St} {H : Hp} {s : Shared} {C p g : Addr} {mc : Value} {m : Str} {A : Around} {E : Value → Shared → Prop}
theorem getmethsm_ok {pl : Sem Bool} {Q : Value × List Value → Shared → Prop} (I : Inv X pins σ H s) (r : CRead X.K C mc) (k : CStat X.K C mc m p g)
    (h : ∀ s', Inv X pins σ H s' → Q (.ref g, []) s') : wpAny (model X.prog X.w) A (getMethod (.ref C) m pl) Q E s := by
  obtain ⟨rest, hp⟩ := k.rc
  exact PySem.W.method_cls I.kIn r.ga (PySem.W.cls_bind I.kIn r.rd k.at_ (wpAny_call (PySem.W.sm_get (s := { s with toks := s.toks + 1 }) I.kIn hp (PySem.W.handed_on rfl (h _ (I.tok _))))))
end
section
variable {X : Cx} {CX : CXT} {k : Nat} {C p g : Addr} {fd : FuncData} {ps ks : List Str} {mc : Value} {sp : Sp} {E : XK} {o e : Expr} {es : List Expr} {kws : List Keyword} {m : Str} {pos apos : Pos} {ta : TE} {t tk : TA} {pl : Sem Bool} {gg : List Value → List Value → List Value} {gV : List V → List V → List V}
theorem pe_smeth (he : PE X o ta) (r : CRead X.K C mc) (c : CStat X.K C mc m p g) (F : FnOk X.prog X.w X.K X.mg X.base CX k g fd ps sp) (hr : Room k X.A) (hb : L2.Binds X.K fd ps []) (hx : Passes CX X E) (ha : PA X (e :: es) t)
    (hst : starEach (e :: es) X.env = (false, eval e X.env) :: starEach es X.env := by rfl) (hpl : (backTo pos (starEach es X.env)).any (·.1) = false := by rfl)
    (ht : eval (.Call (.Attribute o m apos) (e :: es) [] pos) X.env = (do
      let ov ← eval o X.env
      standAt apos.atName
      let (f, first) ← holding [ov] (getMethod ov m pl)
      callWith pos f first (backTo pos (starEach (e :: es) X.env)) (backToKw pos (keywordEach [] X.env))) := by rfl) :
    PE X (.Call (.Attribute o m apos) (e :: es) [] pos) (tSMeth C sp E ta t) := by
  refine ⟨fun pins s σ H Q I h => ?_⟩
  refine PySem.W.methodCall_KW (pl := pl) (thn (he.run pins s σ H _ I h) fun u s1 ⟨x, H1, I1, rx, ex, q⟩ => ?_) ht
  subst ex
  obtain rfl : u = Value.ref C := rx
  refine getmethsm_ok I1 r c fun s2 I2 => ?_
  refine PySem.W.callWith_K (h₀ := X.base) (first := []) I.ok.mod.kin c.kp (thn (ha.run pos pins s2 σ H1 _ I2 q) fun us s3 ⟨vs, H2, I3, rv, q2⟩ => ⟨I3.kIn, ?_⟩) hst hpl
  exact run_fn F hr hb .nil hx I3 rv (by rw [List.append_nil]; exact q2)
theorem pe_smethK (he : PE X o ta) (r : CRead X.K C mc) (c : CStat X.K C mc m p g) (F : FnOk X.prog X.w X.K X.mg X.base CX k g fd ps sp) (hr : Room k X.A) (hb : KBinds X.K fd ps ks gg gV) (hx : Passes CX X E) (hkw : PK X kws tk)
    (hall : (backToKw pos (keywordEach kws X.env)).all (·.1.isSome) = true := by rfl) (hks : (backToKw pos (keywordEach kws X.env)).filterMap (·.1) = ks := by rfl)
    (hpl : ((backTo pos (starEach [] X.env)).any (·.1) || (backToKw pos (keywordEach kws X.env)).any (·.1.isNone)) = false := by rfl)
    (ht : eval (.Call (.Attribute o m apos) [] kws pos) X.env = (do
      let ov ← eval o X.env
      standAt apos.atName
      let (f, first) ← holding [ov] (getMethod ov m pl)
      callWith pos f first (backTo pos (starEach [] X.env)) (backToKw pos (keywordEach kws X.env))) := by rfl) :
    PE X (.Call (.Attribute o m apos) [] kws pos) (tSMethK C sp gV E ta tk) := by
  refine ⟨fun pins s σ H Q I h => ?_⟩
  refine PySem.W.methodCall_KW (pl := pl) (thn (he.run pins s σ H _ I h) fun u s1 ⟨x, H1, I1, rx, ex, q⟩ => ?_) ht
  subst ex
  obtain rfl : u = Value.ref C := rx
  refine getmethsm_ok I1 r c fun s2 I2 => ?_
  refine PySem.W.callWith_KW0 (h₀ := X.base) I.ok.mod.kin c.kp hall ?_ hpl
  refine thn (hkw.run pos pins s2 σ H1 _ I2 q) fun ws s3 ⟨zs, H2, I3, rz, q2⟩ => ⟨I3.kIn, ?_⟩
  rw [hks]
  exact run_fnk (us := []) F hr hb hx I3 .nil rz q2
end
/-- how keywords alone bind, from how they bind at all -/
theorem kbn {K : PySem.W.Frag} {fd : FuncData} {ps ks : List Str} {g : List Value → List Value → List Value} {gV : List V → List V → List V} {n : Nat} (h : KBinds K fd ps ks g gV) (hl : ∀ us ws, us.length = n → ws.length = ks.length → (g us ws).length = ps.length) : KBn K fd ps n ks g gV :=
  ⟨fun s us ws X h1 h2 => h.to s us ws X (hl us ws h1 h2), h.rel⟩
/-- a class's own __str__ -/
structure OwnStrC (K : PySem.W.Frag) (C f : Addr) : Prop where
  st : PySem.W.findIn K (.ref C) "__str__" = some (some (.ref f))
  fn : PySem.W.isFn K (.ref f) = true
section
variable {prog : Program} {w : World} {A : Around} {E : Value → Shared → Prop} {s : Shared} {K : PySem.W.Frag} {x C f : Addr} {ox : Obj} {od : Option Obj}
open PySem.W PySem.Builtin PySem.Builtin.Str in
theorem str_own {Q : Value → Shared → Prop} (hu : A.in1.in1.units < cLine) (X : K.In s.heap) (I : InstAt s.heap x ox C od) (hs : findIn K (.ref C) "__str__" = some (some (.ref f))) (hf : isFn K (.ref f) = true)
    (h : wpAny (model prog w) A.in1.in1 (call (.ref f) [.ref x]) (StrBack Q) E s) : wpAny (model prog w) A (call (.type "str") [.ref x]) Q E s := by
  refine callType_codes (T := "str") (Bi := Builtin.«object.__init__») (Q₁ := fun r s₁ => ∃ y u, r = .str y u ∧ Q r s₁) PySem.F.called_str (PySem.F.typeCall_str_1 _) PySem.F.entry_object_init ?_ ?_
  · refine codeAny_of_tree ?_
    show wpAny _ A.in1.in1 (do checkBuiltinCall "str.__new__" ⟨[.type "str", .ref x], []⟩; again (.builtin "str.__new__" ⟨[.type "str", .ref x], []⟩)) _ _ s
    refine wpAny_bind (wpAny_of_eq (PySem.F.newCall_str_1 _) (wpAny_pure ⟨plainId_quiet (by decide +kernel) _, codeAny_builtin PySem.F.entry_str_new ?_⟩))
    rw [Around.under_plainId (by decide +kernel) _]
    rw [str_new_tree]
    refine wpAny_bind (wpAny_pure ?_)
    refine wpAny_bind (wpAny_of_eq isSubtype_str_str ?_)
    have key : wpAny (model prog w) A.in1.in1 (PySem.Builtin.Str.strOf (.ref x)) (fun r s₁ => ∃ y u, r = .str y u ∧ Q r s₁) E s := by
      unfold PySem.Builtin.Str.strOf
      rw [show isExactStr (.ref x) = false from rfl]
      refine wpAny_bind (m := cRoomFor _ _) (wpAny_cRoomFor hu ?_)
      refine wpAny_bind (m := callSpecial? (.ref x) (Str.ofString "__str__")) (special_fn X I hs (beq_iff_eq.mp hf) (wpAny_mono h (fun r s' z => ?_) fun _ _ y => y))
      cases r <;> first | exact z.elim | exact wpAny_pure ⟨_, _, rfl, z⟩
    exact wpAny_bind (wpAny_mono key (fun r s₁ hr => wpAny_pure hr) fun _ _ y => y)
  · rintro obj s₁ ⟨y, u, rfl, hq⟩
    exact ⟨typeIs_str _ _ _, PySem.F.args_object_init_2 _ _, object_init_meets PySem.F.called_str.init.lookup PySem.F.called_str.made (by decide) prog w A.in1 _ s₁ ⟨typeIs_str _ _ _, rfl, hq⟩⟩
end
/-- str(o), o an instance of the class at C -/
def rStrO (C : Addr) (sp : Sp) (E : XK) : List V → Hp → VK → Prop := fun xs H Q => ∃ a dx fs, xs = [.ref a] ∧ H a = some (.ins C dx fs) ∧ sp [.ref a] H (fun v H' => ∃ z, v = .str z ∧ Q (.str z) H') E
section
variable {X : Cx} {n : Nat} {CX : CXT} {C f : Addr} {fd : FuncData} {ps : List Str} {sp : Sp} {E : XK}
theorem call_strO (F : FnOk X.prog X.w X.K X.mg X.base CX n f fd ps sp) (O : OwnStrC X.K C f) (hb : L2.Binds X.K fd ps []) (hx : Passes CX X E) (hr : Room (n + 2) X.A) : CallR X (.type "str") (rStrO C sp E) := by
  intro pins s σ H xs us Q I r h
  obtain ⟨a, dx, fs, rfl, ha, h⟩ := h
  rw [Vals.ref1 r]
  obtain ⟨mA, J, _⟩ := ins_get I.hok ha
  obtain ⟨od, J, _⟩ := J.look
  refine str_own hr.in1.in1.units0 I.kIn J O.st O.fn ?_
  refine wpAny_mono (sub_run F hb hx ⟨hr.in1.in1, rfl⟩ I (Paired.cons (show L2.RelV (.ref a) (.ref a) from rfl) .nil) h) (fun r s' q => ?_) fun _ _ z => z
  obtain ⟨z, H', I', rz, y, rfl, q⟩ := q
  obtain ⟨t, rfl⟩ := (show ∃ t, r = Value.str y t from rz)
  exact ⟨.str y, H', I', ⟨_, rfl⟩, q⟩
end
end OB
/-! An own class, as the top leaves it; what an object of it is when it is asked for its kind. -/
namespace OB
open PySem PySem.Spec PyProof.Rows L2 ClX
structure OwnC (K : PySem.W.Frag) (mg : Str → Option Value) (x : Str) (C fI : Addr) : Prop where
  cl : Cls K C
  g : mg x = some (.ref C)
  made : Mk K C fI
  ha : PySem.W.findIn K (.ref C) "__class__" = some (some (.builtin "object.__class__"))
  hn : PySem.W.specialIn K (.builtin "object.__class__") "__get__" = some (some (.builtin "getset_descriptor.__get__"))
  ht : PySem.W.takesIn K (.builtin "object.__class__") = some true
  hm : PySem.W.mroIn K C (.type "object") = some true
  self : PySem.W.kitOne K (.ref C) (.ref C) = some true
  no : ∀ n ∈ ["NoneType", "int", "bool", "str", "list", "tuple", "dict"], PySem.W.kitOne K (.type n) (.ref C) = some false
  sT : PySem.W.subIn K (.type "tuple") (.ref C) = some false
section
variable {K : PySem.W.Frag} {mg : Str → Option Value} {x : Str} {C fI : Addr}
theorem OwnC.ty (Z : OwnC K mg x C fI) {H : Hp} {a dx : Addr} {fs : List (Str × V)} (e : H a = some (.ins C dx fs)) : TyX K H (.ref a) (.ref C) := .base (.ins e Z.cl Z.ha Z.hn Z.ht Z.hm)
/-- a value is no object of the class -/
def NotO (K : PySem.W.Frag) (C : Addr) (H : Hp) (y : V) : Prop := ∃ t, TyX K H y t ∧ PySem.W.kitOne K t (.ref C) = some false
theorem OwnC.non (Z : OwnC K mg x C fI) {H : Hp} : NotO K C H .non := ⟨_, .base .non, Z.no _ (by decide)⟩
theorem OwnC.int (Z : OwnC K mg x C fI) {H : Hp} (i : Int) : NotO K C H (.int i) := ⟨_, .base (.int i), Z.no _ (by decide)⟩
theorem OwnC.bl (Z : OwnC K mg x C fI) {H : Hp} (i : Bool) : NotO K C H (.bl i) := ⟨_, .base (.bl i), Z.no _ (by decide)⟩
theorem OwnC.str (Z : OwnC K mg x C fI) {H : Hp} (i : Str) : NotO K C H (.str i) := ⟨_, .base (.str i), Z.no _ (by decide)⟩
theorem OwnC.lst (Z : OwnC K mg x C fI) {H : Hp} {a : Addr} {xs : List V} (e : H a = some (.lst xs)) : NotO K C H (.ref a) := ⟨_, .base (.lst e), Z.no _ (by decide)⟩
theorem OwnC.tup (Z : OwnC K mg x C fI) {H : Hp} {a : Addr} {xs : List V} (e : H a = some (.tup xs)) : NotO K C H (.ref a) := ⟨_, .base (.tup e), Z.no _ (by decide)⟩
theorem OwnC.dK (Z : OwnC K mg x C fI) {H : Hp} {a : Addr} {xs : List (Key × V)} (e : H a = some (.dK xs)) : NotO K C H (.ref a) := ⟨_, .base (.dK e), Z.no _ (by decide)⟩
end
end OB
/-! A call by keywords alone that may raise. -/
namespace OB
open PySem PySem.Spec PyProof.Rows L2
section
variable {X : Cx} {CX : CXT} {k : Nat} {f : Addr} {fd : FuncData} {ps ks : List Str} {sp : Sp} {E : L2.St → XK} {x : Str} {p pos : Pos} {e : Expr} {es : List Expr} {kws : List Keyword} {t tk : TA} {g : List Value → List Value → List Value} {gV : List V → List V → List V}
def tCallKS (sp : Sp) (gV : List V → List V → List V) (E : L2.St → XK) (t tk : TA) : TE := fun σ H Q => t σ H fun vs H1 => tk σ H1 fun zs H2 => sp (gV vs zs) H2 Q (E σ)
theorem run_fnkS {pins : List (Addr × Obj)} {σ : L2.St} {H : Hp} {s : Shared} {Q : VK} {us ws : List Value} {vs zs : List V} {E : XK} (F : FnOk X.prog X.w X.K X.mg X.base CX k f fd ps sp) (hr : Room k X.A) (hb : KBinds X.K fd ps ks g gV) (hx : PassesAt CX X σ E)
    (I : Inv X pins σ H s) (r : Vals vs us) (rz : Vals zs ws) (h : sp (gV vs zs) H Q E) : wpAny (model X.prog X.w) X.A (call (.ref f) us (ks.zip ws)) (EP X pins σ Q) X.xe s := by
  have r2 := hb.rel r rz
  have hl : (g us ws).length = ps.length := r2.length ▸ F.len _ _ _ _ h
  refine wpAny_call (codeAny_mono (F.run X.A X.stack s H ⟨us, ks.zip ws⟩ (g us ws) (gV vs zs) Q E hr I.env0 (hb.to s us ws I.kIn hl) r2 h) fun res s' hq => ?_)
  match res, hq with
  | .error _, hq => exact hx pins H s _ s' I hq
  | .ok (.ret _), hq => exact I.after hq
theorem pe_callKoS (F : FnOk X.prog X.w X.K X.mg X.base CX k f fd ps sp) (hr : Room k X.A) (hg : Gl X x) (hm : X.mg x = some (.ref f)) (hk : PySem.W.keepIn X.K (.ref f) = true) (hb : KBinds X.K fd ps ks g gV) (hx : ∀ σ, PassesAt CX X σ (E σ))
    (hkw : PK X kws tk) (hall : (backToKw pos (keywordEach kws X.env)).all (·.1.isSome) = true := by rfl) (hks : (backToKw pos (keywordEach kws X.env)).filterMap (·.1) = ks := by rfl)
    (hdb : (x == ("__debug__" : Str)) = false := by decide)
    (hpl : ((backTo pos (starEach [] X.env)).any (·.1) || (backToKw pos (keywordEach kws X.env)).any (·.1.isNone)) = false := by rfl) :
    PE X (.Call (.Name x p) [] kws pos) (tCallKS sp gV E tNil tk) := by
  refine ⟨fun pins s σ H Q I h => wpAny_Call_Name_kw (ld_glob I hg hm ?_ hdb)⟩
  refine PySem.W.callWith_KW0 (h₀ := X.base) I.ok.mod.kin hk hall ?_ hpl
  refine thn (hkw.run pos pins s σ H _ I h) fun ws s2 ⟨zs, H2, I2, rz, q2⟩ => ⟨I2.kIn, ?_⟩
  rw [hks]
  exact run_fnkS (us := []) F hr hb (hx σ) I2 .nil rz q2
end
/-- some of a list, by their places -/
def pm {α : Type} : List Nat → List α → List α
  | [], _ => []
  | i :: r, l => match l[i]? with
    | some x => x :: pm r l
    | none => pm r l
theorem pm_vals {vs : List V} {us : List Value} (h : Vals vs us) : ∀ is, Vals (pm is vs) (pm is us)
  | [] => .nil
  | i :: r => by
    unfold pm
    cases e : vs[i]? with
    | none =>
      have e2 : us[i]? = none := by
        rw [List.getElem?_eq_none_iff] at e ⊢
        rw [← h.length]
        exact e
      rw [e2]
      exact pm_vals h r
    | some x =>
      obtain ⟨u, hu, ru⟩ := h.get e
      rw [hu]
      exact .cons ru (pm_vals h r)
/-- keywords alone, in any order -/
def kg {α : Type} (is : List Nat) : List α → List α → List α
  | [], ws => pm is ws
  | _ :: _, _ => []
theorem kg_vals {is : List Nat} {vs : List V} {us : List Value} {zs : List V} {ws : List Value} (h : Vals vs us) (r : Vals zs ws) : Vals (kg is vs zs) (kg is us ws) := by
  cases h with
  | nil => exact pm_vals r is
  | cons _ _ => exact .nil
/-- .. behind the object itself -/
def kg1 {α : Type} (is : List Nat) : List α → List α → List α
  | [x], ws => x :: pm is ws
  | _, _ => []
theorem kg1_vals {is : List Nat} {vs : List V} {us : List Value} {zs : List V} {ws : List Value} (h : Vals vs us) (r : Vals zs ws) : Vals (kg1 is vs zs) (kg1 is us ws) := by
  cases h with
  | nil => exact .nil
  | cons a b =>
    cases b with
    | nil => exact .cons a (pm_vals r is)
    | cons _ _ => exact .nil
end OB
/-! repr of a text; numbers as items of texts. -/
namespace OB
open PySem PySem.Spec PyProof.Rows L2
section
variable {X : Cx}
def rReprS : List V → Hp → VK → Prop := fun xs H Q => ∃ z : Str, xs = [.str z] ∧ z.length ≤ 1000000 ∧ (∀ c ∈ z.cps.toList, c < 16 ^ 8) ∧ Q (.str (reprText z)) H
theorem call_reprS : CallR X (.builtin "repr") rReprS := by
  intro pins s σ H xs us Q I r h
  obtain ⟨z, rfl, hz, hc, q⟩ := h
  obtain ⟨u, rfl, t, rfl⟩ := vals1 r
  refine PySem.P.repr_of_str ⟨.str _, H, I.tok _, ⟨_, rfl⟩, q⟩ ?_
  have := PySem.StrLaws.reprText_len z hc
  rw [sizeLine_eq]
  omega
end
/-- how a number from 0 on is written -/
def ds (n : Nat) : Str := toString (n : Int)
/-- what the small ones are like -/
theorem ds_small : ∀ n < 256, Txt.removeprefix (ds n) "-" = ds n ∧ Txt.isascii (ds n) = true ∧ Txt.isdigit (ds n) = true ∧ (ds n).length ≤ 3 ∧ (Txt.startswith (ds n) "0" = true → n = 0) ∧ PySem.intText? (ds n) = some (n : Int) ∧ ds n ≠ "-" ∧ (∀ c ∈ (ds n).cps.toList, c ≠ 32 ∧ c < 256) := by decide +kernel
end OB
/-! repr of nested data of None, truths, ints, texts, lists and tuples: a bound of its length that is reckoned part by part. -/
namespace OB
open PySem PySem.Spec PyProof.Rows L2
mutual
/-- a bound for the length of the text -/
def sz : PyData → Nat
  | .none => 4
  | .bool _ => 5
  | .int _ => 1921
  | .str x => 10 * x.length + 2
  | .list xs => szAll xs + 2
  | .tuple xs => szAll xs + 2
  | .dict _ => 0
def szAll : List PyData → Nat
  | [] => 0
  | x :: xs => sz x + 2 + szAll xs
end
mutual
/-- ints that are not too great, texts of signs; no dict -/
def nice : PyData → Bool
  | .none | .bool _ => true
  | .int i => decide (i.natAbs.log2 < 1920)
  | .str x => x.cps.toList.all fun c => decide (c < 1114112)
  | .list xs | .tuple xs => niceAll xs
  | .dict _ => false
def niceAll : List PyData → Bool
  | [] => true
  | x :: xs => nice x && niceAll xs
end
mutual
theorem nice_show : ∀ d, nice d = true → d.showable = true
  | .none, _ => by simp [PyData.showable]
  | .bool _, _ => by simp [PyData.showable]
  | .int _, h => by simpa [nice, PyData.showable] using h
  | .str _, _ => by simp [PyData.showable]
  | .list xs, h => by
    have := niceAll_show xs (by simpa [nice] using h)
    simpa [PyData.showable] using this
  | .tuple xs, h => by
    have := niceAll_show xs (by simpa [nice] using h)
    simpa [PyData.showable] using this
  | .dict _, h => by simp [nice] at h
theorem niceAll_show : ∀ ds, niceAll ds = true → PyData.showableAll ds = true
  | [], _ => by simp [PyData.showableAll]
  | x :: xs, h => by
    have h : nice x = true ∧ niceAll xs = true := by simpa [niceAll] using h
    have h1 := nice_show x h.1
    have h2 := niceAll_show xs h.2
    simp [PyData.showableAll, h1, h2]
end
mutual
theorem shown_sz : ∀ d, nice d = true → d.shown.length ≤ sz d
  | .none, _ => by decide +kernel
  | .bool b, _ => by cases b <;> decide +kernel
  | .int i, h => int_text_len_1921 (by simpa [nice] using h)
  | .str x, h => PySem.StrLaws.reprText_len x fun c hc => by
    have h : (x.cps.toList.all fun c => decide (c < 1114112)) = true := h
    have := of_decide_eq_true (List.all_eq_true.mp h c hc)
    have : (1114112 : Nat) < 16 ^ 8 := by decide
    omega
  | .list xs, h => by
    have a := shownAll_sz xs (by simpa [nice] using h)
    have b := list_len (PyData.shownAll xs)
    show (listText (PyData.shownAll xs)).length ≤ szAll xs + 2
    omega
  | .tuple xs, h => by
    have a := shownAll_sz xs (by simpa [nice] using h)
    have b := fmt_text (PyData.shownAll xs)
    show (tupleText (PyData.shownAll xs)).length ≤ szAll xs + 2
    omega
  | .dict _, h => by simp [nice] at h
theorem shownAll_sz : ∀ ds, niceAll ds = true → piled (PyData.shownAll ds) ≤ szAll ds
  | [], _ => Nat.le_refl _
  | x :: xs, h => by
    have h : nice x = true ∧ niceAll xs = true := by simpa [niceAll] using h
    have h1 := shown_sz x h.1
    have h2 := shownAll_sz xs h.2
    show piled (x.shown :: PyData.shownAll xs) ≤ sz x + 2 + szAll xs
    rw [piled_cons]
    omega
end
theorem nice_ints : ∀ ns : List Int, (∀ n ∈ ns, n.natAbs.log2 < 1920) → niceAll (ns.map PyData.int) = true
  | [], _ => by simp [niceAll]
  | n :: r, h => by
    have h1 := h n List.mem_cons_self
    have h2 := nice_ints r fun x hx => h x (List.mem_cons_of_mem _ hx)
    simp [niceAll, nice, h1, h2]
theorem sz_ints : ∀ ns : List Int, szAll (ns.map PyData.int) = 1923 * ns.length
  | [] => rfl
  | n :: r => by
    have := sz_ints r
    show 1921 + 2 + szAll (r.map PyData.int) = _
    rw [List.length_cons]
    omega
section
variable {X : Cx}
/-- repr of nested data -/
def rReprN (K : PySem.W.Frag) : List V → Hp → VK → Prop := fun xs H Q => ∃ (a : Addr) (d : PyData), xs = [.ref a] ∧ Dp K H (.ref a) d ∧ nice d = true ∧ d.canLay0 = true ∧ d.depth ≤ 60 ∧ sz d ≤ 16000000 ∧ Q (.str d.shown) H
theorem call_reprN (hgd : X.A.guards = some []) (hu : X.A.units + 64 < cLine) : CallR X (.builtin "repr") (rReprN X.K) := by
  intro pins s σ H xs us Q I r h
  obtain ⟨a, d, rfl, hd, hn, hl, hdp, hz, q⟩ := h
  refine call_reprD hgd hu pins s σ H _ us Q I r ⟨a, d, rfl, hd, nice_show d hn, hl, hdp, ?_, q⟩
  have := shown_sz d hn
  rw [sizeLine_eq]
  omega
end
end OB
/-! sorted(set(x)) of a list or a tuple of ints, doubles among them. -/
namespace OB
open PySem PySem.Spec PyProof.Rows L2 SrtO Builtin
section
variable {P : Program} {w : World} {A : Around} {E : Value → Shared → Prop} {s : Shared}
abbrev setObj (w : World) : Obj := { cls := .type "set", dict := none, data := .set #[] 0 (.fresh 0 0 (!w.params.followText "set-order")) }
set_option maxHeartbeats 6400000 in
/-- set(x), x a list of ints -/
theorem set_of_list {l : Addr} {items : Array Value} (ns : List Int) {Q : Value → Shared → Prop} (hh : A.handled = none) (hl : s.heap.IsList l items) (hit : IntsAre items.toList ns) (hb : ns.length + 1 < scanBound)
    (h : ∀ (h' : Heap) (tk c : Nat), SetR w h' s.heap.objs.size (fun j => decide (j ∈ ns)) c → c ≤ ns.length → (∀ b o, s.heap.get? b = some o → h'.get? b = some o) → Q (.ref s.heap.objs.size) { s with heap := h', toks := tk }) :
    wpAny (model P w) A (call (.type "set") [.ref l]) Q E s := by
  have sz : items.size = ns.length := by
    have q := IntsAre.length hit
    rwa [Array.length_toList] at q
  obtain ⟨c, tl, hmro⟩ := F.called_set.mro
  have f1 := F.called_set.made
  have f2 := F.called_set.sub
  refine wpAny_call (codeAny_of_tree ?_)
  show wpAny _ _ (callAny (.type "set") _) _ _ _
  refine wpAny_pure ⟨Code.quiet_builtin _ (by decide +kernel), codeAny_builtin F.entry_type_call ?_⟩
  rw [Around.under_plain (weight_type_call_type "set" [.ref l] []) rfl]
  have f3 := F.called_set.notType
  have f4 := F.called_set.canCreate
  have f5 := F.typeCall_set_1 (.ref l)
  repeat (any_goals (first | assumption | wp_step))
  refine codeAny_mono (code_set_led1 (.ref l) (E := E) (Q₁ := fun z t => z = .ref s.heap.objs.size ∧ t = { s with heap := s.heap.push (setObj w) }) ⟨rfl, rfl⟩) fun r s₁ hr => ?_
  cases r with
  | error e => exact hr
  | ok fl =>
    cases fl with
    | ret obj =>
      obtain ⟨rfl, rfl⟩ := hr
      have hS : (s.heap.push (setObj w)).get? s.heap.objs.size = some (setObj w) := Heap.get?_push_size _ rfl
      have hT : Shared.TypeIs { s with heap := s.heap.push (setObj w) } (.ref s.heap.objs.size) "set" := ⟨_, hS, rfl⟩
      have f6 := F.called_set.init.lookup
      have f7 := F.called_set.init.bind (.ref s.heap.objs.size)
      repeat (any_goals (first | assumption | wp_step))
      refine codeAny_mono (codeAny_call_builtin (R := wants (fun r t => r = .none ∧ ∃ h' tk c, t = { s with heap := h', toks := tk } ∧ SetR w h' s.heap.objs.size (fun j => decide (j ∈ ns)) c ∧ c ≤ ns.length ∧
          (∀ b o, s.heap.get? b = some o → h'.get? b = some o)) E) F.called_set.init.plain F.entry_set_init (check_set_init_1 hT ?_)) fun r₂ s₂ hr₂ => ?_
      · have hlt : l < s.heap.objs.size := by
          obtain ⟨o, e, _⟩ := hl
          exact Heap.lt_size e
        have hl1 : (s.heap.push (setObj w)).IsList l items := hl.push _
        have n1 := F.sub_list_set
        have n2 := F.sub_list_frozenset
        have n3 : (Value.type "list" == Value.type "dict") = false := by decide
        obtain ⟨ol, e0, cl, nl, dl⟩ := id hl1
        unfold Builtin.«set.__init__» noKeywords Builtin.Frozenset.updateFrom
        generalize hPI : pyIter = PI
        obtain ⟨oc, od, dt, os⟩ := ol
        simp only at cl dl
        subst cl dl
        wp_walk
        subst hPI
        refine wpAny_pyIter_list hl1 ?_
        refine wpAny_bind (wpAny_runValue ?_)
        have ne : l ≠ (s.heap.push (setObj w)).objs.size := by
          rw [Heap.size_push]
          exact Nat.ne_of_lt (Nat.lt_succ_of_lt hlt)
        have hSf : s.heap.objs.size ∉ [(s.heap.push (setObj w)).objs.size, l] := by
          rw [Heap.size_push]
          simp only [List.mem_cons, List.mem_singleton, List.not_mem_nil, or_false, not_or]
          exact ⟨Nat.ne_of_lt (Nat.lt_succ_self _), Nat.ne_of_gt hlt⟩
        have hval : ∀ (i : Nat) (v : Value), items[i]? = some v → ∃ k t, ns[i]? = some k ∧ v = .int k t := fun i v hv => by
          have hi : i < ns.length := by
            rw [← sz]
            exact (Array.getElem?_eq_some_iff.mp hv).1
          obtain ⟨t, e⟩ := PyProof.Rows.IntsAre.int_at hit i v (by rw [Array.getElem?_toList]; exact hv)
          refine ⟨ns[i], t, List.getElem?_eq_getElem hi, ?_⟩
          rw [e, List.getD_eq_getElem?_getD, List.getElem?_eq_getElem hi] <;> rfl
        have h3 : A.in1.in1.in1.handled = none := by simp [hh]
        refine set_update_ints ((Walks.list h3 _ l ne items).toS) s.heap.objs.size hSf ns sz hb hval (items.size - 0) 0 _ (by omega) (Nat.zero_le _) ⟨⟨_, Heap.get?_push_size _ rfl, rfl, rfl⟩, (hl1.push _)⟩ ⟨0, Nat.le_refl 0, setR_new_at (Heap.get?_push_of_some _ hS)⟩ ?_
        intro t c' hm hc' hS'
        obtain ⟨h', g2, d', tk', os'⟩ := t
        have eg : g2 = s.gens := hm.gens
        have ed : d' = s.drawn := hm.drawn
        have eo : os' = s.os := hm.os
        subst eg ed eo
        rw [sz] at hc'
        refine wpAny_pure (wpAny_pure ⟨rfl, h', tk', c', rfl, hS', hc', fun b o e => ?_⟩)
        have b0 : b < s.heap.objs.size := Heap.lt_size e
        refine hm.heap b o ?_ (Heap.get?_push_of_some _ (Heap.get?_push_of_some _ e))
        rw [Heap.size_push]
        simp only [List.mem_cons, List.mem_singleton, List.not_mem_nil, or_false, not_or]
        exact ⟨Nat.ne_of_lt b0, Nat.ne_of_lt (Nat.lt_succ_of_lt b0)⟩
      · cases r₂ with
        | error e => exact hr₂
        | ok fl₂ =>
          cases fl₂ with
          | ret r =>
            obtain ⟨rfl, h', tk, c', rfl, k1, k2, k3⟩ := hr₂
            repeat (any_goals (first | assumption | wp_step))
            exact h _ _ _ k1 k2 k3
          | _ => exact hr₂.elim
    | _ => exact hr.elim
/-- sorted(x), x a set of ints -/
theorem sorted_of_set {a : Addr} {S : Int → Bool} {n : Nat} {Q : Value → Shared → Prop} (R : SetR w s.heap a S n) (hh : A.handled = none)
    (hQ : ∀ s' p (out : Array Value) (c : Nat) (ns : List Int), (∀ b o, s.heap.get? b = some o → s'.heap.get? b = some o) → s'.gens = s.gens → s'.os = s.os → s.heap.objs.size ≤ p →
      s'.heap.get? p = some (seqObj "list" out c) → IntsAre out.toList ns → ns.Pairwise (· < ·) → (∀ k, k ∈ ns ↔ S k = true) → ns.length ≤ sizeLine → Q (.ref p) s') :
    wpAny (model P w) A (call (.builtin "sorted") [.ref a]) Q E s := by
  obtain ⟨o, es, ep, t, ho, hex, hd, g, nd, hm, hb, hf, hn, hr, hl⟩ := R
  refine Calls.call_function_entry kind_sorted plain_sorted entry_sorted (args_sorted1 _) ?_
  unfold Builtin.«sorted»
  refine wpAny_bind (m := checkCount "sorted" 1 1 _) (wpAny_pure ?_)
  refine wpAny_bind (collect_set (A := A.in1) hh ⟨o, ho, hex.1, hd⟩ hf hb hr hl fun s1 vs k1 hz g1 o1 pm => ?_)
  have vl : vs.length = n := by rw [pm.length_eq, List.length_map, Array.length_toList]; exact hn
  have sl : vs.length ≤ sizeLine := by
    rw [vl, ← hn]
    have : scanBound ≤ sizeLine := by decide +kernel
    omega
  have hI : IntsAre vs (vs.map Builtin.Re.reRawOf) := ints_of vs fun v hv => by
    obtain ⟨e, he, q⟩ := List.mem_map.mp (pm.mem_iff.mp hv)
    obtain ⟨k, tk, h1, _⟩ := g e he
    exact ⟨k, tk, by rw [← q]; exact h1⟩
  have pk : (vs.map Builtin.Re.reRawOf).Perm (es.toList.map keyOf) := by
    have q := pm.map Builtin.Re.reRawOf
    rwa [List.map_map] at q
  refine wpAny_bind (wpAny_newList ?_ sl)
  have hoL : (s1.heap.push (seqObj "list" vs.toArray 0)).get? s1.heap.objs.size = some (seqObj "list" vs.toArray 0) := Heap.get?_push_size _ rfl
  refine wpAny_bind (wpAny_holding (wpAny_call_entry slot_list_sort ⟨_, hoL, rfl⟩ entry_list_sort (list_sort_ord swo_int hoL sl (fun h2 => ints_sortable hI h2) fun out a1 a2 => ⟨_, rfl, ?_⟩) (args_list_sort _)))
  obtain ⟨i1, i2, i3⟩ := ints_out hI a1 a2
  obtain ⟨c, hc⟩ := sortedHeap_at (vs := vs) (out := out.toArray) hoL
  have pn : (out.map iv).Perm (es.toList.map keyOf) := i2.trans pk
  refine wpAny_pure ⟨_, rfl, hQ _ s1.heap.objs.size out.toArray c (out.map iv) (fun b u e => ?_) g1 o1 hz hc (by simpa using i1) (lt_of_le_nodup _ i3 (pn.nodup_iff.mpr nd)) (fun k => by rw [pn.mem_iff, ← hm k]) ?_⟩
  · have q := k1 b u e
    have hlt := Heap.lt_size q
    show (sortedHeap (s1.heap.push (seqObj "list" vs.toArray 0)) s1.heap.objs.size vs out.toArray).get? b = some u
    rw [sortedHeap_old (Nat.ne_of_lt hlt) (by rw [size_push']; exact Nat.lt_succ_of_lt hlt)]
    exact Heap.get?_push_of_some _ q
  · rw [i2.length_eq, List.length_map]
    exact sl
end
theorem sorted_set_ep {X : Cx} {pins : List (Addr × Obj)} {σ : L2.St} {H : Hp} {s : Shared} {a : Addr} {S : Int → Bool} {n : Nat} {Q : VK} (hc : X.calm = true) (I : Inv X pins σ H s) (R : SetR X.w s.heap a S n)
    (h : ∀ (ms : List Int) (q : Addr), ms.Pairwise (· < ·) → (∀ k, k ∈ ms ↔ S k = true) → H q = none → Q (.ref q) (upd H q (.lst (ms.map V.int)))) : wpAny (model X.prog X.w) X.A (call (.builtin "sorted") [.ref a]) (EP X pins σ Q) X.xe s := by
  refine sorted_of_set R (I.ok.hd hc) fun s' p out c ms k2 g o hp hg hi hs hm hl2 => ?_
  have hz : (ms.map V.int).length ≤ sizeLine := by rw [List.length_map]; exact hl2
  have hn : H p = none := I.hok.fresh hp
  have J : Inv X pins σ (upd H p (.lst (ms.map V.int))) { s with heap := s'.heap, gens := s'.gens, drawn := s'.drawn, toks := s'.toks } :=
    I.call (ch := []) (Un.laid k2 hp hn) (I.hok.laid k2 hp ⟨hz, out.toList, c, vals_of_ints hi, hg⟩) (by rw [g]; exact I.bare) (fun _ z => nomatch z)
  have e : s' = { s with heap := s'.heap, gens := s'.gens, drawn := s'.drawn, toks := s'.toks } := by
    cases s'
    cases s
    cases o
    rfl
  rw [e]
  exact ⟨.ref p, _, J, rfl, h ms p hs hm hn⟩
/-- the unlike ints of x, ascending -/
def tSortedSet (K : PySem.W.Frag) (ta : TE) : TE := fun σ H Q => ta σ H fun x H1 => ∃ (p : Addr) (ns : List Int), x = .ref p ∧ (SqL K H1 p (ns.map V.int) ∨ SqT K H1 p (ns.map V.int)) ∧ ns.length ≤ 2000 ∧
  ∀ (ms : List Int) (q : Addr), ms.Pairwise (· < ·) → (∀ k, k ∈ ms ↔ k ∈ ns) → H1 q = none → Q (.ref q) (upd H1 q (.lst (ms.map V.int)))
theorem pe_sortedSet {X : Cx} {a : Expr} {ta : TE} {p p2 q pos : Pos} (hg : Gl X "sorted") (hm : X.mg "sorted" = none) (hg2 : Gl X "set") (hm2 : X.mg "set" = none) (ha : PE X a ta) (hc : X.calm = true := by rfl)
    (na : starEach [a] X.env = (false, eval a X.env) :: starEach [] X.env := by rfl) : PE X (.Call (.Name "sorted" p) [.Call (.Name "set" p2) [a] [] q] [] pos) (tSortedSet X.K ta) := by
  refine ⟨fun pins s σ H Q I h => ?_⟩
  refine Call_ (ld_blt I hg hm boot_sorted ?_)
  refine PyProof.Rows.callWith_builtin1 (PyProof.Rows.args_cons ?_ rfl) rfl rfl
  refine Call_ (ld_blt I hg2 hm2 boot_set ?_)
  refine PyProof.Rows.callWith_type1 (PyProof.Rows.args_cons (thn (ha.run pins s σ H _ I h) fun v s1 ⟨x, H1, I1, r1, q1⟩ => PyProof.Rows.args_nil ?_) na) na rfl
  obtain ⟨l, ns, rfl, hq, hl, q1⟩ := q1
  cases r1
  have fin : ∀ (h' : Heap) (tk c : Nat), SetR X.w h' s1.heap.objs.size (fun j => decide (j ∈ ns)) c → (∀ b o, s1.heap.get? b = some o → h'.get? b = some o) →
      wpAny (model X.prog X.w) X.A (call (.builtin "sorted") [.ref s1.heap.objs.size]) (EP X pins σ Q) X.xe { s1 with heap := h', toks := tk } := by
    intro h' tk c R k
    have I2 : Inv X pins σ H1 { s1 with heap := h', toks := tk } := I1.kept fun b o e => k b o e
    exact sorted_set_ep hc I2 R fun ms q hs hm hn => q1 ms q hs (fun k => by rw [hm k, decide_eq_true_eq]) hn
  rcases hq with hq | hq
  · obtain ⟨its, r, pl, hz⟩ := I1.list hq
    exact set_of_list ns (I1.ok.hd hc) pl.isList (by simpa using ints_of_vals r) (by unfold scanBound; omega) fun h' tk c R1 hcn k => PyProof.Rows.args_nil (fin h' tk c R1 k)
  · obtain ⟨its, r, pt, hz⟩ := I1.tuple hq
    exact call_set_tupI ns (I1.ok.hd hc) (show s1.heap.IsTuple l its.toArray from pt) (ints_of_vals r) (by unfold scanBound; omega) fun h' tk c R1 hcn k => PyProof.Rows.args_nil (fin h' tk c R1 k)
end OB
namespace K33
open PySem PySem.Spec PyProof.Rows L2 OB SkE
def top (i : Nat) : Stmt := PySem.Challenge.pw_oneflip_k33_codes_listed_and_layouts_dou.main.body.getD i (.Pass ⟨0, 0, 0, 0⟩)
abbrev s_init_BadNumber : Stmt := inClass (top 2) 0
abbrev s_init_BadWord : Stmt := inClass (top 3) 0
abbrev s_init_BadLayout : Stmt := inClass (top 4) 0
abbrev s_init_BadCode : Stmt := inClass (top 5) 0
abbrev s_init_Misfit : Stmt := inClass (top 6) 0
abbrev s_init_BadText : Stmt := inClass (top 7) 0
abbrev s_is_integer : Stmt := top 9
abbrev s_is_within : Stmt := top 10
abbrev s_is_list : Stmt := top 11
abbrev s_need_number : Stmt := top 12
abbrev s_items_of : Stmt := top 15
abbrev s_integer_of : Stmt := top 16
abbrev s_item_at : Stmt := top 17
abbrev s_integer_at : Stmt := top 18
abbrev s_need_end : Stmt := top 19
abbrev s_Code_init : Stmt := inClass (top 25) 0
abbrev s_Code_eq : Stmt := inClass (top 25) 1
abbrev s_Code_str : Stmt := inClass (top 25) 2
abbrev s_Code_read : Stmt := inClass (top 25) 3
abbrev s_need_code : Stmt := top 26
abbrev s__need_word_of : Stmt := top 27
abbrev s_meant_by : Stmt := top 28
abbrev s__base_word : Stmt := top 29
abbrev s__lower_bits : Stmt := top 30
abbrev s__counting_bits : Stmt := top 31
abbrev s_ones_in : Stmt := top 33
abbrev s_Layout_init : Stmt := inClass (top 38) 0
abbrev s_Layout_eq : Stmt := inClass (top 38) 1
abbrev s_Layout_str : Stmt := inClass (top 38) 2
abbrev s_Layout_read : Stmt := inClass (top 38) 3
abbrev s__is_meaning : Stmt := top 39
abbrev s__meaning_at : Stmt := top 40
abbrev s_need_layout : Stmt := top 41
abbrev s_listed : Stmt := top 44
abbrev s_doubled : Stmt := top 45
abbrev s__meant_above : Stmt := top 46
abbrev s__law_barn : Stmt := top 48
abbrev s__law_stack : Stmt := top 49
abbrev s__law_pick : Stmt := top 50
abbrev s__law_value : Stmt := top 51
abbrev s__law_heard : Stmt := top 52
abbrev s__law_listed_right : Stmt := top 53
abbrev s__law_doubled_right : Stmt := top 54
abbrev s__law_refused_right : Stmt := top 55
abbrev s_law : Stmt := top 56
theorem sc_init_BadNumber : FnScope ["self", "part"] ["self", "part"] (defScope s_init_BadNumber) := ⟨rfl, rfl, rfl, by decide +kernel, rfl, by decide +kernel, by decide +kernel⟩
theorem sc_init_BadWord : FnScope ["self", "part"] ["self", "part"] (defScope s_init_BadWord) := ⟨rfl, rfl, rfl, by decide +kernel, rfl, by decide +kernel, by decide +kernel⟩
theorem sc_init_BadLayout : FnScope ["self", "part"] ["self", "part"] (defScope s_init_BadLayout) := ⟨rfl, rfl, rfl, by decide +kernel, rfl, by decide +kernel, by decide +kernel⟩
theorem sc_init_BadCode : FnScope ["self", "part"] ["self", "part"] (defScope s_init_BadCode) := ⟨rfl, rfl, rfl, by decide +kernel, rfl, by decide +kernel, by decide +kernel⟩
theorem sc_init_Misfit : FnScope ["self", "part"] ["self", "part"] (defScope s_init_Misfit) := ⟨rfl, rfl, rfl, by decide +kernel, rfl, by decide +kernel, by decide +kernel⟩
theorem sc_init_BadText : FnScope ["self", "line", "item"] ["self", "line", "item"] (defScope s_init_BadText) := ⟨rfl, rfl, rfl, by decide +kernel, rfl, by decide +kernel, by decide +kernel⟩
/-- what the module leaves as it is, and its own constants -/
structure Blt (mg : Str → Option Value) : Prop where
  g_MOST_DIGITS : ∃ t, mg "MOST_DIGITS" = some (.int 140 t)
  g_LEAST_BASE : ∃ t, mg "LEAST_BASE" = some (.int 2 t)
  g_MOST_BASE : ∃ t, mg "MOST_BASE" = some (.int 3 t)
  g_MOST_DOUBLES : ∃ t, mg "MOST_DOUBLES" = some (.int 199 t)
  g_MOST_BITS : ∃ t, mg "MOST_BITS" = some (.int 8 t)
  g_MOST_STATE : ∃ t, mg "MOST_STATE" = some (.int 63 t)
  g_NOTHING : ∃ t, mg "NOTHING" = some (.str "-" t)
  g_MOST_STATES : ∃ t, mg "MOST_STATES" = some (.int 64 t)
  n_abs : mg "abs" = none
  n_all : mg "all" = none
  n_any : mg "any" = none
  n_bool : mg "bool" = none
  n_enumerate : mg "enumerate" = none
  n_int : mg "int" = none
  n_isinstance : mg "isinstance" = none
  n_len : mg "len" = none
  n_list : mg "list" = none
  n_max : mg "max" = none
  n_min : mg "min" = none
  n_range : mg "range" = none
  n_repr : mg "repr" = none
  n_str : mg "str" = none
  n_sum : mg "sum" = none
  n_tuple : mg "tuple" = none
section
variable {P : Program} {w : World} {K : PySem.W.Frag} {mg : Str → Option Value} {base : Heap}
/-! ### checks -/
theorem sc_is_integer : FnScope ["value"] ["value"] (defScope s_is_integer) := ⟨rfl, rfl, rfl, by decide +kernel, rfl, by decide +kernel, by decide +kernel⟩
theorem ok_is_integer {f : Addr} {fd : FuncData} (F : Fun K "is_integer" "is_integer" s_is_integer f fd) (T : Blt mg) : FnOk P w K mg base CX0 1 f fd ["value"] (spIsInt K) := by
  refine F.ok sc_is_integer (fun vs H Q E h => ?_) (fun cdv A outer s H vs Q E hr h => ?_)
  · obtain ⟨x, b, rfl, _⟩ := h
    rfl
  · obtain ⟨x, b, rfl, ⟨n, b1, b2, ty, e1, e2, e3⟩, k⟩ := h
    refine ⟨_, (pss_one (ps_ret (pe_and (pe_callB call_isi (by rfl) T.n_isinstance (by decide +kernel) (pa_cons (pv 0) (pa_cons (pe_bltn (v := .ty "int") (by rfl) T.n_int (by decide +kernel) rfl) pa_nil))) (pe_one (pe_not (pe_callB call_isi (by rfl) T.n_isinstance (by decide +kernel) (pa_cons (pv 0) (pa_cons (pe_bltn (v := .ty "bool") (by rfl) T.n_bool (by decide +kernel) rfl) pa_nil)))))))), ?_⟩
    refine ⟨x, rfl, x, .ty "int", .type n, .type "int", b1, rfl, .ty _, ty, kit_ty e1, b1, rfl, ?_⟩
    refine iteB (fun c => ?_) (fun c => ?_)
    · refine ⟨x, rfl, x, .ty "bool", .type n, .type "bool", b2, rfl, .ty _, ty, kit_ty e2, b2, rfl, ?_⟩
      rw [c] at e3
      rw [show (!b2) = b by rw [e3, Bool.true_and]]
      exact k
    · rw [c] at e3
      rw [show false = b by rw [e3, Bool.false_and]]
      exact k
theorem sc_is_within : FnScope ["value", "least", "most"] ["value", "least", "most"] (defScope s_is_within) := ⟨rfl, rfl, rfl, by decide +kernel, rfl, by decide +kernel, by decide +kernel⟩
theorem within_end {lo hi : Option Int} {x : V} {b : Bool} {Q : VK} {H : Hp} (hI : IsI K H x b) (k : Q (.bl (b && inB lo hi x)) H) (hb : b = true) : ∃ i, x = .int i ∧ Q (.bl (loOk lo i && hiOk hi i)) H := by
  subst hb
  obtain ⟨i, rfl⟩ := isI_true hI
  exact ⟨i, rfl, k⟩
theorem ok_is_within {f f1 : Addr} {fd fd1 : FuncData} (F : Fun K "is_within" "is_within" s_is_within f fd) (D_is_integer : Df K mg "is_integer" s_is_integer ["value"] f1 fd1) (T : Blt mg) : FnOk P w K mg base CX0 2 f fd ["value", "least", "most"] (spWithin K) := by
  have G_is_integer : FnOk P w K mg base CX0 1 f1 fd1 ["value"] (spIsInt K) := ok_is_integer D_is_integer.F T
  refine F.ok sc_is_within (fun vs H Q E h => ?_) (fun cdv A outer s H vs Q E hr h => ?_)
  · obtain ⟨x, lo, hi, b, rfl, _⟩ := h
    rfl
  · obtain ⟨x, lo, hi, b, rfl, hI, k⟩ := h
    refine ⟨_, (pss_cons (ps_if (pt_not (pt_val (pe_call G_is_integer (hr.mono (by decide)) (by rfl) D_is_integer.g D_is_integer.F.kp D_is_integer.b .nil pass0 (pa_cons (pv 0) pa_nil)))) (pss_one (ps_ret pe_bl)) pss_nil)
  (pss_one (ps_ret (pe_and (pe_or (pe_cmpR op_isN (pv 1) pe_non (nomark _)) (pe_one (pe_cmpR op_le (pv 1) (pv 0) (nomark _)))) (pe_one (pe_or (pe_cmpR op_isN (pv 2) pe_non (nomark _)) (pe_one (pe_cmpR op_le (pv 0) (pv 2) (nomark _))))))))), ?_⟩
    refine ⟨x, rfl, x, b, rfl, hI, b, rfl, ?_⟩
    cases b with
    | false => exact iteT k
    | true =>
      obtain ⟨i, rfl, k'⟩ := within_end hI k rfl
      clear k
      have k := k'
      clear k'
      refine iteF ?_
      refine ⟨_, rfl, rfl, _, rfl, ?_⟩
      cases lo with
      | none =>
        refine iteT ?_
        refine ⟨_, rfl, iteT ?_⟩
        refine ⟨_, rfl, rfl, _, rfl, ?_⟩
        cases hi with
        | none => exact iteT k
        | some h => exact iteF ⟨_, rfl, _, rfl, _, _, rfl, rfl, k⟩
      | some l =>
        refine iteF ?_
        refine ⟨_, rfl, _, rfl, _, _, rfl, rfl, _, rfl, ?_⟩
        refine iteB (fun c => ?_) (fun c => ?_)
        · refine ⟨_, rfl, rfl, _, rfl, ?_⟩
          have e : loOk (some l) i = true := c
          rw [e, Bool.true_and] at k
          cases hi with
          | none => exact iteT k
          | some h => exact iteF ⟨_, rfl, _, rfl, _, _, rfl, rfl, k⟩
        · have e : loOk (some l) i = false := c
          rw [e, Bool.false_and] at k
          exact k
/-! ### what raises -/
/-! ### what raises -/
theorem sc_need_number : FnScope ["value", "part", "least", "most"] ["value", "part", "least", "most"] (defScope s_need_number) := ⟨rfl, rfl, rfl, by decide +kernel, rfl, by decide +kernel, by decide +kernel⟩
theorem ok_need_number {f f1 f2 C fI : Addr} {fd fd1 fd2 fdI : FuncData} (F : Fun K "need_number" "need_number" s_need_number f fd) (D_is_within : Df K mg "is_within" s_is_within ["value", "least", "most"] f2 fd2) (D_is_integer : Df K mg "is_integer" s_is_integer ["value"] f1 fd1) (T : Blt mg)
    (R_BadNumber : Err P w K mg base "BadNumber" "part" C fI fdI) : FnOk P w K mg base (L2.CX P w) 4 f fd ["value", "part", "least", "most"] (spNeedNumber K C) := by
  have G_is_within : FnOk P w K mg base CX0 2 f2 fd2 ["value", "least", "most"] (spWithin K) := ok_is_within D_is_within.F D_is_integer T
  refine F.okX sc_need_number (fun vs H Q E h => ?_) (fun cdv A outer s H vs Q E hr h => ?_)
  · obtain ⟨x, part, lo, hi, b, rfl, _⟩ := h
    rfl
  · obtain ⟨x, part, lo, hi, b, rfl, hI, k1, k2⟩ := h
    refine ⟨_, (pss_one (ps_if (pt_not (pt_val (pe_call G_is_within (hr.mono (by decide)) (by rfl) D_is_within.g D_is_within.F.kp D_is_within.b .nil pass0 (pa_cons (pv 0) (pa_cons (pv 2) (pa_cons (pv 3) pa_nil)))))) (pss_one (ps_raise1 rfl (takes_of rfl rfl rfl rfl) R_BadNumber (hr.mono (by decide)) (by rfl) (pv 1))) pss_nil)), ?_⟩
    refine ⟨x, rfl, _, rfl, _, rfl, x, lo, hi, b, rfl, hI, _, rfl, ?_⟩
    refine iteB (fun c => ?_) (fun c => ?_)
    · have c' : (b && inB lo hi x) = false := by
        cases e : (b && inB lo hi x) with
        | false => rfl
        | true => rw [e] at c; cases c
      refine ⟨.str part, rfl, ?_⟩
      refine raise1_of (W := fun cls d _ H => E cls d H) R_BadNumber.T R_BadNumber.no ?_
      exact fun d hd => k2 c' d hd
    · have c' : (b && inB lo hi x) = true := by
        cases e : (b && inB lo hi x) with
        | true => rfl
        | false => rw [e] at c; cases c
      exact k1 c'
end
end K33
namespace K33
open PySem PySem.Spec PyProof.Rows L2 OB SkE
section
variable {P : Program} {w : World} {K : PySem.W.Frag} {mg : Str → Option Value} {base : Heap}
theorem cut60 (ns : List Int) : cutV (ns.map V.int) none (some 60) = (ns.take 60).map V.int := by
  unfold cutV
  have a : HT.sIx (ns.map V.int).length 0 none = 0 := rfl
  rw [a, List.drop_zero, Nat.sub_zero, List.map_take]
  have e : HT.sIx (ns.map V.int).length (ns.map V.int).length (some 60) = min 60 (ns.map V.int).length := HT.sIx_nat _ _ 60
  rw [e]
  by_cases h : (ns.map V.int).length ≤ 60
  · rw [Nat.min_eq_right h, List.take_length, List.take_of_length_le h]
  · rw [Nat.min_eq_left (by omega)]
theorem take_more {α : Type} {l : List α} {i : Nat} {x : α} (h : l[i]? = some x) : l.take (i + 1) = l.take i ++ [x] := by
  rw [List.take_add_one, h]
  rfl
theorem sc__law_barn : FnScope ["script", "cell"] ["script"] (defScope s__law_barn) := ⟨rfl, rfl, rfl, by decide +kernel, rfl, by decide +kernel, by decide +kernel⟩
abbrev N__law_barn : List Str := ["script", "cell"]
theorem ok__law_barn {f : Addr} {fd : FuncData} (F : Fun K "_law_barn" "_law_barn" s__law_barn f fd) (T : Blt mg) : FnOk P w K mg base CX0 1 f fd ["script"] (spLot K) := by
  refine F.ok sc__law_barn (fun vs H Q E h => ?_) (fun cdv A outer s H vs Q E hr h => ?_)
  · obtain ⟨a, ns, rfl, _⟩ := h
    rfl
  · obtain ⟨a, ns, rfl, hS, hl, k⟩ := h
    refine ⟨_, (pss_one (ps_ret (pe_lst (pa_cons (pe_lc (own := [("cell", 1)]) (g := (gName 1)) (tt := tYes) rfl sc__law_barn.nd (pi_list (pe_slice sl_list (pv 0) po_none (po_some pe_int))) (blkOk_by (N := N__law_barn) (own := [("cell", 1)]) (sc := defScope s__law_barn) (by decide +kernel)) (fun _ _ _ _ _ => (pg_name (i := 1) sc__law_barn.nd rfl (Or.inl rfl))) (fun _ _ _ _ _ => pts_nil) (fun _ _ _ _ _ => (pe_callTy call_int1 (by rfl) T.n_int (by decide +kernel) (pa_cons (pv 1) pa_nil)))) (pa_cons pe_int (pa_cons pe_int pa_nil)))))), ?_⟩
    refine ⟨_, rfl, _, rfl, a, _, rfl, hS, fun c hc => ?_⟩
    have e1 : cutV (ns.map V.int) none (some 60) = (ns.take 60).map V.int := cut60 ns
    rw [e1]
    have S0 : Same H (upd H c (.lst ((ns.take 60).map V.int))) := same_new hc
    refine ⟨c, rfl, ⟨_, .inl (.inl upd_same)⟩, fun b hb => ?_⟩
    have ncb : c ≠ b := ne_of_none upd_same hb
    refine lc_list (K := K) (a := c) (xs := (ns.take 60).map V.int) (fun i H' => Same (upd H c (.lst ((ns.take 60).map V.int))) H' ∧ H' b = some (.lst (((ns.take 60).map V.int).take i)))
      ⟨same_new hb, upd_same⟩ (fun i H' _ h => h.1.seq (.inl (.inl upd_same))) ?_ ?_
    · rintro i y H' hy ⟨S1, h1⟩
      obtain ⟨z, hz, rfl⟩ : ∃ z, (ns.take 60)[i]? = some z ∧ y = V.int z := by
        rw [List.getElem?_map] at hy
        cases e : (ns.take 60)[i]? with
        | none => rw [e] at hy; cases hy
        | some z => rw [e] at hy; exact ⟨z, rfl, (Option.some.inj hy).symm⟩
      refine ⟨rfl, _, rfl, .inl ⟨_, rfl, _, h1, ?_, ?_, ?_⟩⟩
      · refine small1000 ?_
        rw [List.length_take, List.length_map, List.length_take]
        omega
      · intro q o e
        have nb : q ≠ b := ne_of_none e hb
        rw [upd_ne nb]
        exact S1 q o e
      · rw [upd_same, ← List.map_take, ← List.map_take, take_more hz, List.map_append]
        rfl
    · rintro H' ⟨S1, h1⟩
      rw [List.take_length] at h1
      refine ⟨(by show 3 ≤ sizeLine; decide), fun p hp => ?_⟩
      have S2 : Same H H' := S0.trans S1
      have hb0 : H b = none := S0.free hb
      refine k p b _ (S2.free hp) hb0 ⟨ns.take 60, 0, 0, upd_same, ?_, Int.le_refl _, Int.le_refl _⟩ (S2.trans (same_new hp))
      rw [upd_ne (ne_of_none h1 hp)]
      exact h1
theorem sc__law_stack : FnScope ["barn", "many", "left", "turn", "cell", "mixed"] ["barn", "many"] (defScope s__law_stack) := ⟨rfl, rfl, rfl, by decide +kernel, rfl, by decide +kernel, by decide +kernel⟩
theorem ok__law_stack {f : Addr} {fd : FuncData} (F : Fun K "_law_stack" "_law_stack" s__law_stack f fd) (T : Blt mg) : FnOk P w K mg base CX0 1 f fd ["barn", "many"] spDraw := by
  refine F.ok sc__law_stack (fun vs H Q E h => ?_) (fun cdv A outer s H vs Q E hr h => ?_)
  · obtain ⟨p, b, n, many, rfl, _⟩ := h
    rfl
  · obtain ⟨p, b, n, many, rfl, O, hn, hm, hm2, k⟩ := h
    obtain ⟨ns, t, l, hp, hb, ht, htn⟩ := id O
    have npb : p ≠ b := O.ne
    refine ⟨_, (pss_cons (ps_if (pt_cmpR op_gt (pe_ix ix_list (pv 0) pe_int (fun _ _ => rfl)) pe_int (nomark _)) (pss_cons (ps_set (i := 2) sc__law_stack.nd rfl (Or.inl rfl) (pe_callTy call_int1 (by rfl) T.n_int (by decide +kernel) (pa_cons (pe_ix ix_list (pv 0) pe_int (fun _ _ => rfl)) pa_nil)))
  (pss_cons (ps_asg (pe_op op_fdivW (pv 2) (pv 1)) (pg_sub (pv 0) pe_int set_list))
  (pss_one (ps_ret (pe_op op_mod (pe_callTy call_int1 (by rfl) T.n_int (by decide +kernel) (pa_cons (pv 2) pa_nil)) (pv 1)))))) pss_nil)
  (pss_cons (ps_set (i := 3) sc__law_stack.nd rfl (Or.inl rfl) (pe_ix ix_list (pv 0) pe_int (fun _ _ => rfl)))
  (pss_cons (ps_asg (pe_op op_add (pv 3) pe_int) (pg_sub (pv 0) pe_int set_list))
  (pss_cons (ps_set (i := 4) sc__law_stack.nd rfl (Or.inl rfl) (pe_op op_add (pe_op op_mul pe_int (pv 3)) pe_int))
  (C8.pss_cut (ps_if (pt_cmpR (op_neD hr.units) (pe_ix ix_list (pv 0) pe_int (fun _ _ => rfl)) (pe_lst pa_nil) (nomark _)) (pss_one (ps_set (i := 4) sc__law_stack.nd rfl (Or.inl rfl) (pe_ix ix_list (pe_ix ix_list (pv 0) pe_int (fun _ _ => rfl)) (pe_op op_mod (pe_callTy call_int1 (by rfl) T.n_int (by decide +kernel) (pa_cons (pv 3) pa_nil)) (pe_callB call_len_seq (by rfl) T.n_len (by decide +kernel) (pa_cons (pe_ix ix_list (pv 0) pe_int (fun _ _ => rfl)) pa_nil))) (fun _ _ => rfl)))) pss_nil)
  (pss_cons (ps_if (PW.pt (pw_and (pt_cmpR op_lt (pv 3) (pe_callB call_len_seq (by rfl) T.n_len (by decide +kernel) (pa_cons (pe_ix ix_list (pv 0) pe_int (fun _ _ => rfl)) pa_nil)) (nomark _)) (pw_and1 (pt_cmpR op_ge (pe_callB call_abs (by rfl) T.n_abs (by decide +kernel) (pa_cons (pv 4) pa_nil)) (pe_op op_pow pe_int pe_int) (nomark _))))) (pss_cons (ps_set (i := 2) sc__law_stack.nd rfl (Or.inl rfl) (pe_op op_add (pe_op op_mul pe_int (pe_op op_sub (pe_callB call_abs (by rfl) T.n_abs (by decide +kernel) (pa_cons (pe_callTy call_int1 (by rfl) T.n_int (by decide +kernel) (pa_cons (pv 4) pa_nil)) pa_nil)) (pe_op op_pow pe_int pe_int))) (pe_callTy call_int1 (by rfl) T.n_int (by decide +kernel) (pa_cons (pe_cmpR op_lt (pv 4) pe_int (nomark _)) pa_nil))))
  (pss_cons (ps_asg (pe_op op_fdivW (pv 2) (pv 1)) (pg_sub (pv 0) pe_int set_list))
  (pss_one (ps_ret (pe_op op_mod (pe_callTy call_int1 (by rfl) T.n_int (by decide +kernel) (pa_cons (pv 2) pa_nil)) (pv 1)))))) pss_nil)
  (pss_cons (ps_set (i := 5) sc__law_stack.nd rfl (Or.inl rfl) (pe_op op_mod (pe_callTy call_int1 (by rfl) T.n_int (by decide +kernel) (pa_cons (pe_op op_pow (pe_op op_add (pe_op op_add (pe_op op_mod (pe_callTy call_int1 (by rfl) T.n_int (by decide +kernel) (pa_cons (pv 4) pa_nil)) pe_int) (pe_op op_mul pe_int (pv 3))) pe_int) pe_int) pa_nil)) pe_int))
  (pss_cons (ps_set (i := 5) sc__law_stack.nd rfl (Or.inl rfl) (pe_op op_mod (pe_callTy call_int1 (by rfl) T.n_int (by decide +kernel) (pa_cons (pe_op op_pow (pe_op op_add (pe_op op_add (pe_op op_mul (pv 5) (pe_op op_add (pe_op op_mul pe_int (pv 3)) pe_int)) (pe_op op_mul (pe_op op_mul pe_int (pv 3)) (pv 3))) pe_int) pe_int) pa_nil)) pe_int))
  (pss_one (ps_ret (pe_op op_mod (pe_callTy call_int1 (by rfl) T.n_int (by decide +kernel) (pa_cons (pe_op op_fdiv (pv 5) pe_int) pa_nil)) (pv 1)))))))))))), ?_⟩
    -- quay[2] > 0
    refine ⟨_, rfl, p, _, _, _, rfl, rfl, SqL.of hp, rfl, _, _, rfl, rfl, _, rfl, ?_⟩
    refine ite2 (fun c => ?_) (fun c => ?_)
    · -- left = int(quay[2]); quay[2] = left // many; return int(left) % many
      refine ⟨_, rfl, p, _, _, _, rfl, rfl, SqL.of hp, rfl, .inl ⟨_, rfl, ?_⟩⟩
      refine ⟨_, rfl, _, rfl, _, _, rfl, rfl, wide_div hm hm2 (by decide) (by decide), _, rfl, p, _, _, _, rfl, rfl, hp, rfl, ?_⟩
      refine ⟨_, rfl, .inl ⟨_, rfl, _, rfl, _, _, rfl, rfl, hm, ?_⟩⟩
      refine k _ _ (Int.emod_nonneg _ (by omega)) (Int.emod_lt_of_pos _ hm) ⟨ns, t, _, upd_same, ?_, ht, by omega⟩ but_at
      rw [upd_ne npb.symm]
      exact hb
    · -- turn = quay[1]; quay[1] = turn + 1; cell = A * turn + B
      refine ⟨_, rfl, p, _, _, _, rfl, rfl, SqL.of hp, rfl, ?_⟩
      refine ⟨_, rfl, _, _, rfl, rfl, _, rfl, p, _, _, _, rfl, rfl, hp, rfl, ?_⟩
      refine ⟨_, rfl, _, _, rfl, rfl, .inl ⟨by decide, by decide⟩, _, _, rfl, rfl, ?_⟩
      -- quay[0] != []
      refine ⟨fun σ' H' => ∃ c0 : Int, σ' = [some (.ref p), some (.int many), none, some (.int t), some (.int c0), none] ∧ H' p = some (.lst [.ref b, .int (t + 1), .int l]) ∧ H' b = some (.lst (ns.map V.int)) ∧ But p H H', ?_, ?_⟩
      rotate_left
      · rintro σ' H' ⟨c0, rfl, hp2, hb2, S2⟩
        have ht2 : t ≤ 1000000 := by omega
        have fin : ∀ r : Int, 0 ≤ r → r < many → Q (.int r) H' := fun r h1 h2 => k r H' h1 h2 ⟨ns, t + 1, l, hp2, hb2, by omega, by omega⟩ S2
        have end_ : ∀ x : Int, Q (.int (x % many)) H' := fun x => fin _ (Int.emod_nonneg _ (by omega)) (Int.emod_lt_of_pos _ hm)
        refine ⟨_, rfl, _, rfl, p, _, _, _, rfl, rfl, SqL.of hp2, rfl, b, _, rfl, .inl (SqL.of hb2), _, _, rfl, rfl, _, rfl, ?_⟩
        refine ite2 (fun c1 => ?_) (fun c1 => ?_)
        · refine ⟨_, rfl, _, rfl, _, _, rfl, rfl, ⟨by decide, by decide, by decide⟩, _, _, rfl, rfl, _, rfl, ?_⟩
          refine ite2 (fun c2 => ?_) (fun c2 => ?_)
          · refine ⟨_, rfl, .inl ⟨_, rfl, _, rfl, _, _, rfl, rfl, ⟨by decide, by decide, by decide⟩, _, _, rfl, rfl, _, _, rfl, rfl, .inl ⟨by decide, by decide⟩, ?_⟩⟩
            refine ⟨_, rfl, _, _, rfl, rfl, .inr ⟨_, rfl, _, _, rfl, rfl, ?_⟩⟩
            refine ⟨_, rfl, _, rfl, _, _, rfl, rfl, wide_div hm hm2 (by decide) (by decide), _, rfl, p, _, _, _, rfl, rfl, hp2, rfl, ?_⟩
            refine ⟨_, rfl, .inl ⟨_, rfl, _, rfl, _, _, rfl, rfl, hm, ?_⟩⟩
            refine k _ _ (Int.emod_nonneg _ (by omega)) (Int.emod_lt_of_pos _ hm) ⟨ns, t + 1, _, upd_same, ?_, by omega, by omega⟩ (S2.trans but_at)
            rw [upd_ne npb.symm]
            exact hb2
          · refine ⟨_, rfl, .inl ⟨_, rfl, _, _, rfl, rfl, (by show (0 : Int) < _; decide), _, rfl, _, _, rfl, rfl, .inl ⟨by decide, by decide⟩, _, _, rfl, rfl, _, _, rfl, rfl, _, _, rfl, rfl, ⟨by decide, by decide, mix1 (by decide) (by decide) ht ht2 (by decide) (by decide) (by decide) (by decide)⟩, .inl ⟨_, rfl, _, _, rfl, rfl, (by show (0 : Int) < _; decide), ?_⟩⟩⟩
            refine ⟨_, rfl, _, rfl, _, _, rfl, rfl, .inl ⟨by decide, by decide⟩, _, _, rfl, rfl, _, _, rfl, rfl, .inl (mod_lim (by decide) (by decide)), _, rfl, _, _, rfl, rfl, .inl ⟨by decide, by decide⟩, _, rfl, _, _, rfl, rfl, .inr ⟨by omega, by omega⟩, _, _, rfl, rfl, _, _, rfl, rfl, _, _, rfl, rfl,
              ⟨by decide, by decide, mix2 (by decide) (by decide) ht ht2 (by decide) (by decide) (by decide) (by decide) (by decide) (by decide)⟩, .inl ⟨_, rfl, _, _, rfl, rfl, (by show (0 : Int) < _; decide), ?_⟩⟩
            exact ⟨_, rfl, _, _, rfl, rfl, ⟨by decide, by decide⟩, .inl ⟨_, rfl, _, rfl, _, _, rfl, rfl, hm, end_ _⟩⟩
        · refine ⟨_, rfl, .inl ⟨_, rfl, _, _, rfl, rfl, (by show (0 : Int) < _; decide), _, rfl, _, _, rfl, rfl, .inl ⟨by decide, by decide⟩, _, _, rfl, rfl, _, _, rfl, rfl, _, _, rfl, rfl, ⟨by decide, by decide, mix1 (by decide) (by decide) ht ht2 (by decide) (by decide) (by decide) (by decide)⟩, .inl ⟨_, rfl, _, _, rfl, rfl, (by show (0 : Int) < _; decide), ?_⟩⟩⟩
          refine ⟨_, rfl, _, rfl, _, _, rfl, rfl, .inl ⟨by decide, by decide⟩, _, _, rfl, rfl, _, _, rfl, rfl, .inl (mod_lim (by decide) (by decide)), _, rfl, _, _, rfl, rfl, .inl ⟨by decide, by decide⟩, _, rfl, _, _, rfl, rfl, .inr ⟨by omega, by omega⟩, _, _, rfl, rfl, _, _, rfl, rfl, _, _, rfl, rfl,
            ⟨by decide, by decide, mix2 (by decide) (by decide) ht ht2 (by decide) (by decide) (by decide) (by decide) (by decide) (by decide)⟩, .inl ⟨_, rfl, _, _, rfl, rfl, (by show (0 : Int) < _; decide), ?_⟩⟩
          exact ⟨_, rfl, _, _, rfl, rfl, ⟨by decide, by decide⟩, .inl ⟨_, rfl, _, rfl, _, _, rfl, rfl, hm, end_ _⟩⟩
      refine ⟨_, rfl, p, _, _, _, rfl, rfl, SqL.of upd_same, rfl, Nat.zero_le _, fun l0 hl0 => ?_⟩
      have hp1 : (upd (upd H p (.lst [.ref b, .int (t + 1), .int l])) l0 (.lst [])) p = some (.lst [.ref b, .int (t + 1), .int l]) := by
        rw [upd_ne (ne_of_none upd_same hl0), upd_same]
      have hb1 : (upd (upd H p (.lst [.ref b, .int (t + 1), .int l])) l0 (.lst [])) b = some (.lst (ns.map V.int)) := by
        have e : (upd H p (.lst [.ref b, .int (t + 1), .int l])) b = some (.lst (ns.map V.int)) := by
          rw [upd_ne npb.symm]
          exact hb
        rw [upd_ne (ne_of_none e hl0)]
        exact e
      have S1 : But p H (upd (upd H p (.lst [.ref b, .int (t + 1), .int l])) l0 (.lst [])) := but_at.trans (But.of (same_new hl0))
      refine ⟨.list (ns.map PyData.int), .list [], Dp.lst (SqL.of hb1) (dp_ints ns), Dp.lst (SqL.of upd_same) .nil, shaped_ints ns, shaped_ints [], _, rfl, ?_⟩
      rw [eqv_nil]
      refine ite2 (fun c => ?_) (fun c => ?_)
      · have c : ns ≠ [] := by simpa using c
        have hl : 0 < ns.length := List.length_pos_iff.mpr c
        have hl2 : (0 : Int) < ((ns.map V.int).length : Nat) := by
          rw [List.length_map]
          omega
        have h1 := Int.emod_nonneg t (show (((ns.map V.int).length : Nat) : Int) ≠ 0 by omega)
        have h2 := Int.emod_lt_of_pos t hl2
        obtain ⟨j, hj⟩ : ∃ j : Nat, t % (((ns.map V.int).length : Nat) : Int) = (j : Int) := ⟨_, (Int.toNat_of_nonneg h1).symm⟩
        have hj2 : j < ns.length := by
          rw [List.length_map] at hj h2
          omega
        have hx : (ns.map V.int)[j]? = some (V.int ns[j]) := by
          rw [List.getElem?_map, List.getElem?_eq_getElem hj2]
          rfl
        refine ⟨_, rfl, p, _, _, _, rfl, rfl, SqL.of hp1, rfl, ?_⟩
        refine ⟨_, rfl, .inl ⟨_, rfl, _, rfl, p, _, _, _, rfl, rfl, SqL.of hp1, rfl, b, _, rfl, .inl (SqL.of hb1), _, _, rfl, rfl, hl2, ?_⟩⟩
        exact ⟨b, _, _, V.int ns[j], rfl, rfl, SqL.of hb1, at_of hj hx, ns[j], rfl, hp1, hb1, S1⟩
      · exact ⟨_, rfl, hp1, hb1, S1⟩

/-- one of some things, drawn -/
def spOne : Sp := fun vs H Q _ => ∃ (p b l : Addr) (n : Nat) (xs : List V), vs = [.ref p, .ref l] ∧ Orch H p b n ∧ n < 1000000 ∧ H l = some (.lst xs) ∧ l ≠ p ∧ 0 < xs.length ∧ xs.length ≤ 1000 ∧
  ∀ (j : Nat) (x : V) (H' : Hp), xs[j]? = some x → Orch H' p b (n + 1) → But p H H' → Q x H'

theorem sc__law_pick : FnScope ["barn", "some"] ["barn", "some"] (defScope s__law_pick) := ⟨rfl, rfl, rfl, by decide +kernel, rfl, by decide +kernel, by decide +kernel⟩
theorem ok__law_pick {f f1 : Addr} {fd fd1 : FuncData} (F : Fun K "_law_pick" "_law_pick" s__law_pick f fd) (T : Blt mg) (D__law_stack : Df K mg "_law_stack" s__law_stack ["barn", "many"] f1 fd1) : FnOk P w K mg base CX0 2 f fd ["barn", "some"] spOne := by
  have G__law_stack : FnOk P w K mg base CX0 1 f1 fd1 ["barn", "many"] spDraw := ok__law_stack D__law_stack.F T
  refine F.ok sc__law_pick (fun vs H Q E h => ?_) (fun cdv A outer s H vs Q E hr h => ?_)
  · obtain ⟨p, b, l, n, xs, rfl, _⟩ := h
    rfl
  · obtain ⟨p, b, l, n, xs, rfl, O, hn, hl, nlp, h0, h1, k⟩ := h
    refine ⟨_, (pss_one (ps_ret (pe_ix ix_list (pv 1) (pe_call G__law_stack (hr.mono (by decide)) (by rfl) D__law_stack.g D__law_stack.F.kp D__law_stack.b .nil pass0 (pa_cons (pv 0) (pa_cons (pe_callB call_len_seq (by rfl) T.n_len (by decide +kernel) (pa_cons (pv 1) pa_nil)) pa_nil))) (fun _ _ => rfl)))), ?_⟩
    refine ⟨_, rfl, _, rfl, _, rfl, l, xs, rfl, .inl (SqL.of hl), p, b, n, _, rfl, O, hn, by omega, ?_, fun r H' r0 r1 O' B' => ?_⟩
    · show (xs.length : Int).natAbs < 2 ^ 9000
      rw [Int.natAbs_natCast]
      exact Nat.lt_of_le_of_lt h1 (by decide)
    · obtain ⟨j, rfl⟩ := Int.eq_ofNat_of_zero_le r0
      have hj : j < xs.length := by omega
      exact ⟨l, xs, _, xs[j], rfl, rfl, SqL.of (B' l _ hl nlp), atI_nat (List.getElem?_eq_getElem hj), k j _ H' (List.getElem?_eq_getElem hj) O' B'⟩

end
end K33
/-! Codes of doublings: what words mean, and the roads between values. Words are functions of places. -/
namespace MC
abbrev Wd := Nat → Bool
def flip (f : Wd) (i : Nat) : Wd := fun j => if j = i then !f j else f j
def flips (f : Wd) (r : List Nat) : Wd := r.foldl flip f
def par (f : Wd) : Nat → Bool
  | 0 => false
  | n + 1 => xor (par f n) (f n)
def sel (f : Wd) (l : Nat) : Bool := if par f l then f l else f (l + 1)
/-- the base's value: of base 2 the bit, of base 3 what two bits tell -/
def bv (b : Nat) (f : Wd) : Nat := if b = 2 then (f 0).toNat else if f 1 then (if f 0 then 2 else 1) else 0
def val (b : Nat) (f : Wd) : Nat → Nat
  | 0 => bv b f
  | j + 1 => val b f j + (sel f (b - 1 + 2 * j)).toNat * (b * 2 ^ j)
theorem flip_same {f : Wd} {i : Nat} : flip f i i = !f i := by simp [flip]
theorem flip_ne {f : Wd} {i j : Nat} (h : j ≠ i) : flip f i j = f j := by simp [flip, h]
theorem flips_nil {f : Wd} : flips f [] = f := rfl
theorem flips_cons {f : Wd} {i : Nat} {r : List Nat} : flips f (i :: r) = flips (flip f i) r := rfl
theorem flips_app {f : Wd} {r s : List Nat} : flips f (r ++ s) = flips (flips f r) s := by simp [flips, List.foldl_append]
theorem flips_out {j : Nat} : ∀ {r : List Nat} {f : Wd}, (∀ i ∈ r, j ≠ i) → flips f r j = f j
  | [], _, _ => rfl
  | i :: r, f, h => by
    rw [flips_cons, flips_out fun k hk => h k (List.mem_cons_of_mem _ hk), flip_ne (h i List.mem_cons_self)]
theorem par_out {n : Nat} {f g : Wd} (h : ∀ i, i < n → f i = g i) : par f n = par g n := by
  induction n with
  | zero => rfl
  | succ n ih => unfold par; rw [ih fun i hi => h i (by omega), h n (by omega)]
theorem par_flip {n i : Nat} {f : Wd} (h : i < n) : par (flip f i) n = !par f n := by
  induction n with
  | zero => exact absurd h (Nat.not_lt_zero i)
  | succ n ih =>
    unfold par
    by_cases e : i = n
    · subst e
      rw [flip_same, par_out (g := f) fun j hj => flip_ne (by omega)]
      cases par f i <;> cases f i <;> rfl
    · rw [ih (by omega), flip_ne (fun z => e z.symm)]
      cases par f n <;> cases f n <;> rfl
theorem par_flips {n : Nat} : ∀ {r : List Nat} {f : Wd}, (∀ i ∈ r, i < n) → par (flips f r) n = xor (par f n) (decide (r.length % 2 = 1))
  | [], f, _ => by simp [flips_nil]
  | i :: r, f, h => by
    rw [flips_cons, par_flips fun k hk => h k (List.mem_cons_of_mem _ hk), par_flip (h i List.mem_cons_self), List.length_cons]
    rcases Nat.mod_two_eq_zero_or_one r.length with e | e
    · rw [show (r.length + 1) % 2 = 1 by omega, e]
      cases par f n <;> rfl
    · rw [show (r.length + 1) % 2 = 0 by omega, e]
      cases par f n <;> rfl
theorem val_out {b j : Nat} (hb : b = 2 ∨ b = 3) {f g : Wd} (h : ∀ i, i < b - 1 + 2 * j → f i = g i) : val b f j = val b g j := by
  induction j with
  | zero =>
    unfold val bv
    rcases hb with rfl | rfl
    · rw [if_pos rfl, if_pos rfl, h 0 (by omega)]
    · rw [if_neg (show ¬ 3 = 2 by decide), if_neg (show ¬ 3 = 2 by decide), h 0 (by omega), h 1 (by omega)]
  | succ j ih =>
    unfold val
    rw [ih fun i hi => h i (by omega)]
    unfold sel
    rw [par_out fun i hi => h i (by omega), h (b - 1 + 2 * j) (by omega), h (b - 1 + 2 * j + 1) (by omega)]
theorem val_lt {b : Nat} (hb : b = 2 ∨ b = 3) (f : Wd) : ∀ j, val b f j < b * 2 ^ j
  | 0 => by
    unfold val bv
    rcases hb with rfl | rfl
    · rw [if_pos rfl]
      cases f 0 <;> decide
    · rw [if_neg (by decide)]
      cases f 0 <;> cases f 1 <;> decide
  | j + 1 => by
    have ih := val_lt hb f j
    unfold val
    have : (sel f (b - 1 + 2 * j)).toNat ≤ 1 := by cases sel f (b - 1 + 2 * j) <;> decide
    have : (sel f (b - 1 + 2 * j)).toNat * (b * 2 ^ j) ≤ 1 * (b * 2 ^ j) := Nat.mul_le_mul_right _ this
    rw [show b * 2 ^ (j + 1) = 2 * (b * 2 ^ j) by rw [Nat.pow_succ, Nat.mul_comm (2 ^ j) 2, Nat.mul_left_comm]]
    omega
/-- a road in the code of j doublings, from what f means to v -/
structure Road (b j : Nat) (f : Wd) (v : Nat) (r : List Nat) : Prop where
  low : ∀ i ∈ r, i < b - 1 + 2 * j
  len : r.length ≤ b - 1 + 2 * j
  old : ∀ k, k < r.length → val b (flips f (r.take k)) j = val b f j
  new : val b (flips f r) j = v
  ne : r ≠ [] → val b f j ≠ v
/-- one more doubling, as the program goes: row, the bits that count and that idle, what is wanted -/
def withD (row : List Nat) (counts idle : Nat) (cs is_ wanted : Bool) : List Nat :=
  let first := if 1 < row.length ∧ is_ ≠ cs then [idle] else []
  let is2 := if 1 < row.length ∧ is_ ≠ cs then cs else is_
  let behind := if row.length % 2 = 1 then idle else counts
  let bs := if row.length % 2 = 1 then is2 else cs
  let last := if bs = wanted then [] else [behind]
  first ++ row.take (row.length - 1) ++ last ++ row.drop (row.length - 1)
def cts (f : Wd) (l : Nat) : Nat := if par f l then l else l + 1
def idl (f : Wd) (l : Nat) : Nat := if par f l then l + 1 else l
theorem cts_ne (f : Wd) (l : Nat) : idl f l ≠ cts f l := by
  unfold cts idl
  cases par f l <;> simp
theorem cts_ge (f : Wd) (l : Nat) : l ≤ cts f l ∧ l ≤ idl f l ∧ cts f l < l + 2 ∧ idl f l < l + 2 := by
  unfold cts idl
  cases par f l <;> simp
theorem flips_count {i : Nat} : ∀ (r : List Nat) (f : Wd), flips f r i = xor (f i) (decide (r.count i % 2 = 1))
  | [], f => by simp [flips_nil]
  | a :: r, f => by
    rw [flips_cons, flips_count r]
    by_cases e : a = i
    · subst e
      rw [flip_same, List.count_cons_self]
      rcases Nat.mod_two_eq_zero_or_one (r.count a) with z | z
      · rw [show (r.count a + 1) % 2 = 1 by omega, z]
        cases f a <;> rfl
      · rw [show (r.count a + 1) % 2 = 0 by omega, z]
        cases f a <;> rfl
    · rw [flip_ne fun z => e z.symm, List.count_cons_of_ne e]
/-- what a word means in one more doubling, its low places as q leaves them -/
theorem val_step {b j : Nat} (hb : b = 2 ∨ b = 3) {f g : Wd} {q : List Nat} (hq : ∀ i ∈ q, i < b - 1 + 2 * j) (hg : ∀ i, i < b - 1 + 2 * j → g i = flips f q i) :
    val b g (j + 1) = val b (flips f q) j + (g (if q.length % 2 = 1 then idl f (b - 1 + 2 * j) else cts f (b - 1 + 2 * j))).toNat * (b * 2 ^ j) := by
  show val b g j + (sel g (b - 1 + 2 * j)).toNat * (b * 2 ^ j) = _
  rw [val_out hb hg]
  have : sel g (b - 1 + 2 * j) = g (if q.length % 2 = 1 then idl f (b - 1 + 2 * j) else cts f (b - 1 + 2 * j)) := by
    unfold sel cts idl
    rw [par_out hg, par_flips hq]
    rcases Nat.mod_two_eq_zero_or_one q.length with z | z <;> rw [z] <;> cases par f (b - 1 + 2 * j) <;> simp
  rw [this]
theorem no_count {r : List Nat} {l i : Nat} (h : ∀ k ∈ r, k < l) (hi : l ≤ i) : r.count i = 0 := List.count_eq_zero.mpr fun m => by have := h i m; omega
theorem xor_ne (x y : Bool) : xor x (decide (¬ x = y)) = y := by cases x <;> cases y <;> rfl
theorem road_step {b j vl : Nat} (hb : b = 2 ∨ b = 3) {f : Wd} {row : List Nat} (R : Road b j f vl row) (wanted : Bool) :
    Road b (j + 1) f (vl + wanted.toNat * (b * 2 ^ j)) (withD row (cts f (b - 1 + 2 * j)) (idl f (b - 1 + 2 * j)) (f (cts f (b - 1 + 2 * j))) (f (idl f (b - 1 + 2 * j))) wanted) := by
  obtain ⟨c1, c2, c3, c4⟩ := cts_ge f (b - 1 + 2 * j)
  have ne := cts_ne f (b - 1 + 2 * j)
  have low := R.low
  have hv := val_step (j := j) hb (f := f) (g := f) (q := []) (fun i hi => by cases hi) (fun i _ => rfl)
  have vs := fun (g : Wd) (q : List Nat) => val_step (j := j) hb (f := f) (g := g) (q := q)
  rw [flips_nil, List.length_nil, if_neg (by decide)] at hv
  generalize cts f (b - 1 + 2 * j) = c at *
  generalize idl f (b - 1 + 2 * j) = d at *
  generalize hl : b - 1 + 2 * j = l at *
  have hl1 : b - 1 + 2 * (j + 1) = l + 2 := by omega
  have T0 : 0 < b * 2 ^ j := Nat.mul_pos (by omega) (Nat.two_pow_pos j)
  generalize hT : b * 2 ^ j = T at *
  generalize hi2 : (if 1 < row.length ∧ f d ≠ f c then f c else f d) = is2
  have is_eq : 1 < row.length → is2 = f c := fun h => by
    rw [← hi2]
    by_cases z : f d = f c
    · rw [if_neg fun w => w.2 z, z]
    · rw [if_pos ⟨h, z⟩]
  generalize hF : (if 1 < row.length ∧ f d ≠ f c then [d] else []) = F
  generalize hbs : (if row.length % 2 = 1 then is2 else f c) = bs
  generalize hbh : (if row.length % 2 = 1 then d else c) = bh
  generalize hL : (if bs = wanted then [] else [bh]) = L
  have eR : withD row c d (f c) (f d) wanted = F ++ row.take (row.length - 1) ++ L ++ row.drop (row.length - 1) := by
    unfold withD
    simp only [hF, hi2, hbs, hbh, hL]
  have Fd : ∀ i ∈ F, i = d := by
    intro i hi
    rw [← hF] at hi
    split at hi
    · exact List.mem_singleton.mp hi
    · cases hi
  have Lb : ∀ i ∈ L, i = if row.length % 2 = 1 then d else c := by
    intro i hi
    rw [← hL] at hi
    rw [hbh]
    by_cases w : bs = wanted
    · rw [if_pos w] at hi
      cases hi
    · rw [if_neg w] at hi
      exact List.mem_singleton.mp hi
  have Flen : F.length ≤ 1 := by rw [← hF]; split <;> simp
  have Llen : L.length ≤ 1 := by
    rw [← hL]
    by_cases w : bs = wanted
    · rw [if_pos w]; exact Nat.zero_le _
    · rw [if_neg w]; exact Nat.le_refl _
  have Fc : F.count c = 0 := List.count_eq_zero.mpr fun m => ne (Fd c m).symm
  have Fs : xor (f d) (decide (F.count d % 2 = 1)) = is2 := by
    rw [← hF, ← hi2]
    split
    · rename_i h
      rw [List.count_singleton_self]
      have := h.2
      cases h1 : f d <;> cases h2 : f c <;> simp_all
    · simp
  have tk : ∀ m, ∀ i ∈ row.take m, i < l := fun m i hi => low i (List.mem_of_mem_take hi)
  have at' : ∀ (m : Nat) (t : List Nat), (∀ i ∈ t, i = c ∨ i = d) → val b (flips f (F ++ row.take m ++ t)) (j + 1) = val b (flips f (row.take m)) j +
      (if (row.take m).length % 2 = 1 then xor (f d) (decide ((F.count d + t.count d) % 2 = 1)) else xor (f c) (decide (t.count c % 2 = 1))).toNat * T := by
    intro m t ht
    rw [vs _ (row.take m) (tk m) (fun i hi => ?_)]
    · refine congrArg (fun z : Bool => val b (flips f (row.take m)) j + z.toNat * T) ?_
      have e1 : (row.take m).count d = 0 := no_count (tk m) c2
      have e2 : (row.take m).count c = 0 := no_count (tk m) c1
      by_cases z : (row.take m).length % 2 = 1
      · rw [if_pos z, if_pos z, flips_count, List.count_append, List.count_append, e1, Nat.add_zero]
      · rw [if_neg z, if_neg z, flips_count, List.count_append, List.count_append, e2, Fc, Nat.zero_add]; try rw [Nat.zero_add]
    · have n1 : F.count i = 0 := List.count_eq_zero.mpr fun w => by have := Fd i w; omega
      have n2 : t.count i = 0 := List.count_eq_zero.mpr fun w => by have := ht i w; omega
      rw [flips_count, flips_count, List.count_append, List.count_append, n1, n2, Nat.zero_add, Nat.add_zero]
  have tl : ∀ m, m ≤ row.length → (row.take m).length = m := fun m h => by rw [List.length_take]; omega
  -- before the last flip
  have way : ∀ m, m + 1 ≤ row.length → val b (flips f (F ++ row.take m ++ [])) (j + 1) = val b f (j + 1) := by
    intro m hm
    rw [at' m [] (fun i hi => by cases hi), hv, R.old m (by omega), tl m (by omega)]
    refine congrArg (fun z : Bool => val b f j + z.toNat * T) ?_
    by_cases z : m % 2 = 1
    · rw [if_pos z, List.count_nil, Nat.add_zero, Fs, is_eq (by omega)]
    · rw [if_neg z]
      simp
  have way2 : 1 ≤ row.length → val b (flips f (F ++ row.take (row.length - 1) ++ L)) (j + 1) = val b f (j + 1) := by
    intro hn
    rw [at' (row.length - 1) L (fun i hi => by have := Lb i hi; split at this <;> omega), hv, R.old (row.length - 1) (by omega), tl _ (by omega)]
    refine congrArg (fun z : Bool => val b f j + z.toNat * T) ?_
    by_cases z : (row.length - 1) % 2 = 1
    · have z2 : ¬ row.length % 2 = 1 := by omega
      have n2 : L.count d = 0 := List.count_eq_zero.mpr fun w => by
        have := Lb d w
        rw [if_neg z2] at this
        exact ne this
      rw [if_pos z, n2, Nat.add_zero, Fs, is_eq (by omega)]
    · have z2 : row.length % 2 = 1 := by omega
      have n2 : L.count c = 0 := List.count_eq_zero.mpr fun w => by
        have := Lb c w
        rw [if_pos z2] at this
        exact ne this.symm
      rw [if_neg z, n2]
      simp
  have last : val b (flips f (F ++ row.take row.length ++ L)) (j + 1) = vl + wanted.toNat * T := by
    rw [at' row.length L (fun i hi => by have := Lb i hi; split at this <;> omega), tl _ (Nat.le_refl _), List.take_length, R.new]
    refine congrArg (fun z : Bool => vl + z.toNat * T) ?_
    by_cases z : row.length % 2 = 1
    · rw [if_pos z]
      have n2 : decide (L.count d % 2 = 1) = decide (¬ is2 = wanted) := by
        rw [← hL, ← hbs, ← hbh, if_pos z, if_pos z]
        by_cases w : is2 = wanted
        · rw [if_pos w]
          simp [w]
        · rw [if_neg w]
          simp [w]
      have n3 : xor (f d) (decide ((F.count d + L.count d) % 2 = 1)) = xor (xor (f d) (decide (F.count d % 2 = 1))) (decide (L.count d % 2 = 1)) := by
        rcases Nat.mod_two_eq_zero_or_one (F.count d) with h1 | h1 <;> rcases Nat.mod_two_eq_zero_or_one (L.count d) with h2 | h2 <;> rw [Nat.add_mod, h1, h2] <;> cases f d <;> rfl
      rw [n3, Fs, n2, xor_ne]
    · rw [if_neg z]
      have n2 : decide (L.count c % 2 = 1) = decide (¬ f c = wanted) := by
        rw [← hL, ← hbs, ← hbh, if_neg z, if_neg z]
        by_cases w : f c = wanted
        · rw [if_pos w]
          simp [w]
        · rw [if_neg w]
          simp [w]
      rw [n2, xor_ne]
  have whole : flips f (F ++ row.take (row.length - 1) ++ L ++ row.drop (row.length - 1)) = flips f (F ++ row.take row.length ++ L) := by
    funext i
    rw [flips_count, flips_count]
    have e := congrArg (List.count i) (List.take_append_drop (row.length - 1) row)
    rw [List.count_append] at e
    rw [List.take_length]
    simp only [List.count_append]
    rw [show F.count i + (row.take (row.length - 1)).count i + L.count i + (row.drop (row.length - 1)).count i = F.count i + row.count i + L.count i by omega]
  rw [eR]
  have tot : (F ++ row.take (row.length - 1) ++ L ++ row.drop (row.length - 1)).length = F.length + row.length + L.length := by
    simp only [List.length_append, List.length_take, List.length_drop]
    omega
  refine ⟨fun i hi => ?_, ?_, fun k hk => ?_, ?_, fun hne => ?_⟩
  · rw [hl1]
    simp only [List.mem_append] at hi
    rcases hi with ((hi | hi) | hi) | hi
    · rw [Fd i hi]; exact c4
    · have := tk _ i hi; omega
    · have := Lb i hi; split at this <;> omega
    · have := low i (List.mem_of_mem_drop hi); omega
  · rw [tot, hl1]
    have := R.len
    omega
  · rw [tot] at hk
    by_cases k0 : k = 0
    · rw [k0, List.take_zero, flips_nil]
    by_cases n0 : row.length = 0
    · exfalso
      have F0 : F = [] := by
        rw [← hF, if_neg fun w => by omega]
      rw [F0, List.length_nil] at hk
      omega
    have e1 : F.take k = F := List.take_of_length_le (by omega)
    by_cases z : k ≤ F.length + (row.length - 1)
    · rw [List.append_assoc, List.append_assoc, List.take_append, e1, List.take_append, List.take_take, show k - F.length - (row.take (row.length - 1)).length = 0 by rw [tl _ (by omega)]; omega, List.take_zero,
        show min (k - F.length) (row.length - 1) = k - F.length by omega, ← List.append_assoc]
      exact way (k - F.length) (by omega)
    · have e2 : k = F.length + (row.length - 1) + 1 ∧ L.length = 1 := by omega
      have e3 : (F ++ row.take (row.length - 1) ++ L).length = k := by
        simp only [List.length_append]
        rw [tl _ (by omega)]
        omega
      rw [List.take_left' e3]
      exact way2 (by omega)
  · rw [whole]
    exact last
  · -- it is no road to where it stands
    intro eq
    rw [hv] at eq
    by_cases n0 : row = []
    · subst n0
      have v0 := R.new
      rw [flips_nil] at v0
      have ew : (f c).toNat * T = wanted.toNat * T := by omega
      have w : f c = wanted := by
        have := Nat.eq_of_mul_eq_mul_right T0 ew
        cases h1 : f c <;> cases h2 : wanted <;> simp_all
      have F0 : F = [] := by rw [← hF, if_neg fun w => by simp at w]
      have L0 : L = [] := by rw [← hL, ← hbs]; simp [w]
      rw [F0, L0] at hne
      exact hne rfl
    · have n1 := R.ne n0
      have a1 := val_lt hb f j
      have a2 : vl < b * 2 ^ j := by rw [← R.new]; exact val_lt hb _ j
      rw [hT] at a1 a2
      cases h1 : f c <;> cases h2 : wanted <;> rw [h1, h2] at eq <;> simp only [Bool.toNat_false, Bool.toNat_true] at eq <;> omega
end MC
/-! Words as numbers: their bits; the base's part. -/
namespace MC
def wd (w : Nat) : Wd := fun i => w.testBit i
theorem bit_wd (w i : Nat) : w / 2 ^ i % 2 = (wd w i).toNat := (Nat.toNat_testBit w i).symm
theorem bit0 (w : Nat) : w % 2 = (wd w 0).toNat := by
  have := bit_wd w 0
  rw [Nat.pow_zero, Nat.div_one] at this
  exact this
theorem bit1 (w : Nat) : w / 2 % 2 = (wd w 1).toNat := by
  have := bit_wd w 1
  rw [Nat.pow_one] at this
  exact this
theorem mod4 (w : Nat) : w % 4 = (wd w 0).toNat + 2 * (wd w 1).toNat := by
  have := bit0 w
  have := bit1 w
  omega
theorem base_par {b : Nat} (hb : b = 2 ∨ b = 3) (w : Nat) : ((w % 2 ^ (b - 1)) ^^^ (w % 2 ^ (b - 1)) / 2) % 2 = (par (wd w) (b - 1)).toNat := by
  rcases hb with rfl | rfl
  · show (w % 2 ^^^ w % 2 / 2) % 2 = (xor false (wd w 0)).toNat
    have h := bit0 w
    generalize w % 2 = m at h
    subst h
    cases wd w 0 <;> decide
  · show (w % 4 ^^^ w % 4 / 2) % 2 = (xor (xor false (wd w 0)) (wd w 1)).toNat
    rw [mod4]
    cases wd w 0 <;> cases wd w 1 <;> decide
theorem bv2 (w : Nat) : ([0, 1] : List Int)[w % 2]? = some ((bv 2 (wd w) : Nat) : Int) := by
  unfold bv
  rw [if_pos rfl, bit0]
  cases wd w 0 <;> rfl
theorem bv3 (w : Nat) : ([0, 0, 1, 2] : List Int)[w % 4]? = some ((bv 3 (wd w) : Nat) : Int) := by
  unfold bv
  rw [if_neg (show ¬ 3 = 2 by decide), mod4]
  cases wd w 0 <;> cases wd w 1 <;> rfl
theorem par_two (f : Wd) (l : Nat) : par f (l + 2) = xor (xor (par f l) (f l)) (f (l + 1)) := rfl
theorem xor_nat (x y : Bool) : x.toNat ^^^ y.toNat = (xor x y).toNat := by cases x <;> cases y <;> rfl
/-- the word of a value: the base's first one, then both bits of each doubling alike -/
def idx (b v : Nat) : Nat := if b = 2 then v % 2 else if v % 3 = 0 then 0 else v % 3 + 1
def fw (b v : Nat) : Nat → Nat
  | 0 => idx b v
  | j + 1 => fw b v j + (v / b / 2 ^ j % 2) * (3 * 2 ^ (b - 1 + 2 * j))
theorem idx_lt {b : Nat} (hb : b = 2 ∨ b = 3) (v : Nat) : idx b v < 2 ^ (b - 1) := by
  unfold idx
  rcases hb with rfl | rfl
  · rw [if_pos rfl]
    show _ < 2
    omega
  · rw [if_neg (by decide)]
    show _ < 4
    split <;> omega
theorem fw_lt {b : Nat} (hb : b = 2 ∨ b = 3) (v : Nat) : ∀ j, fw b v j < 2 ^ (b - 1 + 2 * j)
  | 0 => idx_lt hb v
  | j + 1 => by
    have ih := fw_lt hb v j
    show fw b v j + _ < _
    have e : 2 ^ (b - 1 + 2 * (j + 1)) = 4 * 2 ^ (b - 1 + 2 * j) := by
      rw [show b - 1 + 2 * (j + 1) = b - 1 + 2 * j + 2 by omega, Nat.pow_add, Nat.mul_comm]
    rw [e]
    rcases Nat.mod_two_eq_zero_or_one (v / b / 2 ^ j) with z | z <;> rw [z] <;> omega
theorem fw_or {b : Nat} (hb : b = 2 ∨ b = 3) (v j : Nat) : fw b v j ||| 3 * 2 ^ (b - 1 + 2 * j) = fw b v j + 3 * 2 ^ (b - 1 + 2 * j) := by
  rw [Nat.or_comm, Nat.mul_comm 3, ← Nat.two_pow_add_eq_or_of_lt (fw_lt hb v j), Nat.add_comm]
/-- the bits of a word of a value -/
theorem fw_low {b : Nat} (hb : b = 2 ∨ b = 3) (v j : Nat) {i : Nat} (h : i < b - 1 + 2 * j) : wd (fw b v (j + 1)) i = wd (fw b v j) i := by
  show (fw b v j + (v / b / 2 ^ j % 2) * (3 * 2 ^ (b - 1 + 2 * j))).testBit i = (fw b v j).testBit i
  rw [show (v / b / 2 ^ j % 2) * (3 * 2 ^ (b - 1 + 2 * j)) = 2 ^ (b - 1 + 2 * j) * ((v / b / 2 ^ j % 2) * 3) by rw [Nat.mul_comm (2 ^ _), Nat.mul_assoc], Nat.add_comm]
  exact Nat.testBit_two_pow_mul_add _ (fw_lt hb v j) i |>.trans (by rw [if_pos h])
theorem fw_two {b : Nat} (hb : b = 2 ∨ b = 3) (v j : Nat) : wd (fw b v (j + 1)) (b - 1 + 2 * j) = decide (v / b / 2 ^ j % 2 = 1) ∧ wd (fw b v (j + 1)) (b - 1 + 2 * j + 1) = decide (v / b / 2 ^ j % 2 = 1) := by
  have e : ∀ i, wd (fw b v (j + 1)) i = if i < b - 1 + 2 * j then (fw b v j).testBit i else ((v / b / 2 ^ j % 2) * 3).testBit (i - (b - 1 + 2 * j)) := fun i => by
    show (fw b v j + (v / b / 2 ^ j % 2) * (3 * 2 ^ (b - 1 + 2 * j))).testBit i = _
    rw [show (v / b / 2 ^ j % 2) * (3 * 2 ^ (b - 1 + 2 * j)) = 2 ^ (b - 1 + 2 * j) * ((v / b / 2 ^ j % 2) * 3) by rw [Nat.mul_comm (2 ^ _), Nat.mul_assoc], Nat.add_comm]
    exact Nat.testBit_two_pow_mul_add _ (fw_lt hb v j) i
  rw [e, e, if_neg (by omega), if_neg (by omega), Nat.sub_self, show b - 1 + 2 * j + 1 - (b - 1 + 2 * j) = 1 by omega]
  rcases Nat.mod_two_eq_zero_or_one (v / b / 2 ^ j) with z | z <;> rw [z] <;> decide
theorem val_fw {b : Nat} (hb : b = 2 ∨ b = 3) (v : Nat) : ∀ j, val b (wd (fw b v j)) j = v % (b * 2 ^ j)
  | 0 => by
    unfold val bv fw idx
    rcases hb with rfl | rfl
    · rw [if_pos rfl, if_pos rfl, ← bit0]
      show v % 2 % 2 = v % 2
      omega
    · rw [if_neg (show ¬ 3 = 2 by decide), if_neg (show ¬ 3 = 2 by decide)]
      show _ = v % 3
      have h : v % 3 = 0 ∨ v % 3 = 1 ∨ v % 3 = 2 := by omega
      rcases h with h | h | h <;> rw [h] <;> decide
  | j + 1 => by
    have ih := val_fw hb v j
    obtain ⟨e1, e2⟩ := fw_two hb v j
    show val b (wd (fw b v (j + 1))) j + (sel (wd (fw b v (j + 1))) (b - 1 + 2 * j)).toNat * (b * 2 ^ j) = _
    rw [val_out hb fun i hi => fw_low hb v j hi, ih]
    have s : sel (wd (fw b v (j + 1))) (b - 1 + 2 * j) = decide (v / b / 2 ^ j % 2 = 1) := by
      unfold sel
      rw [e1, e2]
      split <;> rfl
    rw [s]
    have e : v % (b * 2 ^ (j + 1)) = v % (b * 2 ^ j) + b * 2 ^ j * (v / (b * 2 ^ j) % 2) := by
      rw [Nat.pow_succ, ← Nat.mul_assoc, Nat.mod_mul]
    rw [e, ← Nat.div_div_eq_div_mul, Nat.mul_comm (b * 2 ^ j)]
    rcases Nat.mod_two_eq_zero_or_one (v / b / 2 ^ j) with z | z <;> rw [z] <;> rfl
end MC
/-! A dict of the module whose keys are ints. -/
namespace OB
open PySem PySem.Spec PyProof.Rows L2
def KDcI (K : PySem.W.Frag) (a : Addr) (i : Int) (v : V) : Prop :=
  ∃ (es : Array DictEntry) (n : Nat) (u : Value), K.lookup a = some ⟨.type "dict", none, .dict es n, #[]⟩ ∧ (∀ e ∈ es.toList, ∃ (k : Int) (t : Tok), e.key = .int k t ∧ e.hash = hashInt k) ∧ findBy Value.isInt es i = some u ∧ RelV v u
def rIxI (K : PySem.W.Frag) : R2 := fun x y H Q => ∃ p i v, x = .ref p ∧ y = .int i ∧ KDcI K p i v ∧ Q v H
theorem ix_kint {X : Cx} : IxR X (rIxI X.K) := by
  intro value slice pins s σ H x y v u Q I rx ry h hs
  obtain ⟨p, i, r, rfl, rfl, ⟨es, n, u0, hl, hk, hf, ru⟩, q⟩ := h
  obtain rfl : v = Value.ref p := rx
  obtain ⟨t, rfl⟩ := ry
  have at' : s.heap.MapOf (intKind X.prog X.w) p (fun k => findBy Value.isInt es k) := ⟨_, es, n, I.kIn _ _ hl, ⟨rfl, rfl, rfl⟩, rfl, fun e he => by
    obtain ⟨k, t, e1, e2⟩ := hk e (Array.mem_toList_iff.mpr he)
    exact ⟨k, by rw [e1]; exact intKind_is X.prog X.w k t, e2⟩, fun _ => rfl⟩
  exact tail_any at'.typeIs slot_dict_getitem.lookup (wpAny_getItem_of (intKind_is X.prog X.w i t) at' hf ⟨r, H, I.tok _, ru, q⟩) hs
end OB
/-! list(range(a, b, 2)); the place of a number in a tuple. -/
namespace OB
open PySem PySem.Spec PyProof.Rows L2
section
variable {X : Cx} {a b : Expr} {ta tb : TE}
/-- every second number from i on, n of them -/
def r2V (i : Int) (n : Nat) : List V := (List.range n).map fun k => V.int (i + 2 * (k : Nat))
def tLstR2 (ta tb : TE) : TE := fun σ H Q => ta σ H fun x H1 => tb σ H1 fun y H2 => ∃ (i j : Int) (n : Nat), x = .int i ∧ y = .int j ∧ 0 ≤ i ∧ i ≤ 10000 ∧ j = i + 2 * (n : Int) ∧ j ≤ 10000 ∧ ∀ q, H2 q = none → Q (.ref q) (upd H2 q (.lst (r2V i n)))
theorem size2 {i : Int} {n : Nat} : Builtin.Range.rangeSize i (i + 2 * (n : Int)) 2 = (n : Int) := by
  unfold Builtin.Range.rangeSize
  rw [if_pos (by decide)]
  by_cases z : i < i + 2 * (n : Int)
  · rw [if_pos z]
    omega
  · rw [if_neg z]
    omega
theorem small2 {i : Int} {n : Nat} (h0 : 0 ≤ i) (h1 : i + 2 * (n : Int) ≤ 10000) : Builtin.Range.small i (i + 2 * (n : Int)) 2 = true := by
  unfold Builtin.Range.small
  rw [size2]
  simp [Builtin.Range.rangeFitsLong]
  omega
theorem vals_r2 {i : Int} {n : Nat} {acc : Array Value} (h : ItemsOf (fun k v => ∃ t, v = .int (i + k * 2) t) acc n) : Vals (r2V i n) acc.toList := by
  have e : acc.toList.length = n := by rw [Array.length_toList]; exact h.1
  unfold r2V
  rw [← e]
  refine vals_of_get acc.toList _ fun j u hj => ?_
  obtain ⟨t, rfl⟩ := h.2 j u (by rw [← hj, Array.getElem?_toList])
  exact ⟨t, by rw [Int.mul_comm]⟩
theorem pe_listR2 {p p2 pos pos2 dp : Pos} {jj} (hc : X.calm = true) (hg : Gl X "list") (hm : X.mg "list" = none) (hg2 : Gl X "range") (hm2 : X.mg "range" = none) (ha : PE X a ta) (hb : PE X b tb)
    (na : starEach [a, b, .Constant (.int 2) jj dp] X.env = (false, eval a X.env) :: starEach [b, .Constant (.int 2) jj dp] X.env := by rfl) (nb : starEach [b, .Constant (.int 2) jj dp] X.env = (false, eval b X.env) :: starEach [.Constant (.int 2) jj dp] X.env := by rfl)
    (n2 : starEach [.Constant (.int 2) jj dp] X.env = (false, eval (.Constant (.int 2) jj dp) X.env) :: starEach [] X.env := by rfl)
    (hp : (backTo pos2 (starEach [b, .Constant (.int 2) jj dp] X.env)).any (·.1) = false := by rfl)
    (ne : starEach [.Call (.Name "range" p2) [a, b, .Constant (.int 2) jj dp] [] pos2] X.env = (false, eval (.Call (.Name "range" p2) [a, b, .Constant (.int 2) jj dp] [] pos2) X.env) :: starEach [] X.env := by rfl) :
    PE X (.Call (.Name "list" p) [.Call (.Name "range" p2) [a, b, .Constant (.int 2) jj dp] [] pos2] [] pos) (tLstR2 ta tb) := by
  refine ⟨fun pins s σ H Q I h => ?_⟩
  have inner : wpAny (model X.prog X.w) X.A (eval (.Call (.Name "range" p2) [a, b, .Constant (.int 2) jj dp] [] pos2) X.env) (fun x s' => ∃ (r : Addr) (i : Int) (n : Nat) (t u v : Tok) (H' : Hp), x = .ref r ∧ IsRange s'.heap r i (i + 2 * (n : Int)) 2 t u v ∧ 0 ≤ i ∧ i + 2 * (n : Int) ≤ 10000 ∧ Inv X pins σ H' s' ∧ ∀ q, H' q = none → Q (.ref q) (upd H' q (.lst (r2V i n)))) X.xe s := by
    refine Call_ (ld_blt I hg2 hm2 boot_range (PyProof.Rows.callWith_type1 (args_cons (thn (ha.run pins s σ H _ I h) fun v s1 ⟨x, H1, I1, r1, q1⟩ => args_cons (thn (hb.run pins s1 σ H1 _ I1 q1) fun u s2 ⟨y, H2, I2, r2, q2⟩ =>
      one_arg (pe_int (X := X)) (R := fun z H3 => z = .int 2 ∧ H3 = H2) I2 ⟨rfl, rfl⟩ (fun w s3 z H3 I3 r3 q3 => ?_) n2) nb) na) na hp))
    obtain ⟨rfl, rfl⟩ := q3
    obtain ⟨i, j, n, rfl, rfl, h0, h1, rfl, h2, q⟩ := q2
    obtain ⟨t, rfl⟩ := r1
    obtain ⟨t2, rfl⟩ := r2
    obtain ⟨t3, rfl⟩ := r3
    exact call_range_3 (by decide) ⟨_, i, n, _, _, _, H3, rfl, IsRange.new _ _ _ _ _ _ _, h0, h2, I3.kept fun b u e => Heap.get?_push_of_some _ e, q⟩ (Or.inl (PyProof.noPylong_small (by omega)))
  refine Call_ (ld_blt I hg hm boot_list (PyProof.Rows.callWith_type1 (args_cons (thn inner fun x s1 ⟨r, i, n, t, u, v, H1, ex, hr, h0, h2, I1, q⟩ => args_nil ?_) ne) ne))
  subst ex
  refine call_list_range (n := n) (I1.ok.hd hc) hr (small2 h0 h2) size2 (by omega) fun h' tk acc c' hk e' hi => ?_
  refine ⟨.ref s1.heap.objs.size, upd H1 s1.heap.objs.size (.lst (r2V i n)), I1.laid hk (Nat.le_refl _) (show ObjOk X.prog X.w _ _ _ (.lst (r2V i n)) from ⟨?_, acc.toList, c', vals_r2 hi, ?_⟩), rfl, q _ (I1.hok.fresh (Nat.le_refl _))⟩
  · unfold r2V
    rw [List.length_map, List.length_range, sizeLine_eq]
    omega
  · rw [Array.toArray_toList]
    exact e'
/-- t.index(n), the first place of a number in a tuple of numbers -/
def rTIndex (K : PySem.W.Frag) : V → List V → Hp → VK → Prop := fun x xs H Q => ∃ (p : Addr) (ns : List Int) (n : Int) (j : Nat), x = .ref p ∧ xs = [.int n] ∧ SqT K H p (ns.map V.int) ∧ ns[j]? = some n ∧ (∀ m, m < j → ns[m]? ≠ some n) ∧ Q (.int (j : Nat)) H
theorem mt_tindex : MtR X "tuple.index" (rTIndex X.K) := by
  intro pins s σ H x xs v us Q I rx rs h
  obtain ⟨p, ns, n, j, rfl, rfl, hq, hn, hno, q⟩ := h
  cases rx
  obtain ⟨u, rfl, t, rfl⟩ := vals1 rs
  obtain ⟨its, r, pl, hz⟩ := I.tuple hq
  obtain ⟨⟨cls, dd, dt, sl⟩, ho, hc, m0, hd⟩ := pl
  simp only at hc hd
  subst hc
  subst hd
  have flat : (ns.map V.int).all flatV = true := by
    rw [List.all_map]
    exact List.all_eq_true.mpr fun _ _ => rfl
  have hl : its.toArray.size = ns.length := by rw [List.size_toArray, ← r.length, List.length_map]
  have hj : j < its.toArray.size := by rw [hl]; exact (List.getElem?_eq_some_iff.mp hn).1
  have item : ∀ (m : Nat) (hm : m < its.toArray.size), ∃ y t', ns[m]? = some y ∧ its.toArray[m] = Value.int y t' := fun m hm => by
    have hm' : m < ns.length := by rw [← hl]; exact hm
    obtain ⟨w, hw, t', hw'⟩ := r.get (i := m) (x := .int ns[m]) (by simp [hm'])
    refine ⟨ns[m], t', List.getElem?_eq_getElem hm', ?_⟩
    have e := (List.getElem?_eq_some_iff.mp hw).2
    rw [← hw', ← e]
    simp
  refine call_meets PySem.F.slot_tuple_index ⟨_, ho, rfl⟩ PySem.F.entry_tuple_index (PySem.F.args_tuple_index_2 _ _) (TI.tuple_indexAt p its.toArray m0 dd sl (.int n t) (eqU (.int n)) j hj ?_ ?_)
    ⟨ho, fun w hw => mem_eqAt (x := .int n) ⟨t, rfl⟩ rfl r flat w (by simpa using hw), ⟨.int (j : Nat), H, I.tok _, ⟨_, rfl⟩, q⟩⟩
  · obtain ⟨y, t', h1, h2⟩ := item j hj
    rw [hn] at h1
    cases h1
    rw [h2]
    show (n == n) = true
    exact beq_self_eq_true n
  · intro m hm hmj
    obtain ⟨y, t', h1, h2⟩ := item m hm
    rw [h2]
    show (y == n) = false
    exact beq_eq_false_iff_ne.mpr fun e => hno m hmj (e ▸ h1)
end
end OB
namespace K33
open PySem PySem.Spec PyProof.Rows L2 OB SkE LamX
def Bad (K : PySem.W.Frag) (H : Hp) (x : V) (lo hi : Option Int) : Prop := ∃ b, IsI K H x b ∧ (b && inB lo hi x) = false
theorem yes_no {b : Bool} {A : Prop} (h : b = true) (z : b = false) : A := by
  rw [h] at z
  cases z
theorem in_bounds {lo hi i : Int} (h1 : lo ≤ i) (h2 : i ≤ hi) : (true && inB (some lo) (some hi) (.int i)) = true := by
  show (true && (decide (lo ≤ i) && decide (i ≤ hi))) = true
  rw [decide_eq_true h1, decide_eq_true h2]
  rfl
structure CodeOk (b d : Nat) : Prop where
  b2 : 2 ≤ b
  b3 : b ≤ 3
  d199 : d ≤ 199
theorem pow_le {d : Nat} (h : d ≤ 199) : 2 ^ d ≤ 2 ^ 199 := Nat.pow_le_pow_right (by decide) h
/-- a code stands at x -/
def IsCode (H : Hp) (C x : Addr) (b d : Nat) : Prop := ∃ dx fs, H x = some (.ins C dx fs) ∧ fs.lookup ("base" : Str) = some (.int (b : Int)) ∧ fs.lookup ("doubles" : Str) = some (.int (d : Int)) ∧ fs.lookup ("many" : Str) = some (.int ((b * 2 ^ d : Nat) : Int)) ∧ fs.lookup ("bits" : Str) = some (.int ((b - 1 + 2 * d : Nat) : Int))
theorem IsCode.same {H H' : Hp} {C x : Addr} {b d : Nat} (h : IsCode H C x b d) (s : Same H H') : IsCode H' C x b d := by
  obtain ⟨dx, fs, h1, h2⟩ := h
  exact ⟨dx, fs, s _ _ h1, h2⟩
theorem IsCode.but {H H' : Hp} {C x p : Addr} {b d : Nat} {xs : List V} (h : IsCode H C x b d) (s : But p H H') (hp : H p = some (.lst xs)) : IsCode H' C x b d := by
  obtain ⟨dx, fs, h1, h2⟩ := h
  exact ⟨dx, fs, s _ _ h1 (ne_of h1 hp (by intro z; cases z)), h2⟩
theorem IsCode.ext {H H' : Hp} {C x : Addr} {b d : Nat} (h : IsCode H C x b d) (e : ExtN H H') : IsCode H' C x b d := by
  obtain ⟨dx, fs, h1, h2⟩ := h
  exact ⟨dx, fs, e _ _ h1 (fun _ z => nomatch z), h2⟩
def spCodeInit (C : Addr) : Sp := fun vs H Q _ => ∃ (p dx : Addr) (b d : Nat), vs = [.ref p, .int (b : Int), .int (d : Int)] ∧ CodeOk b d ∧ H p = some (.ins C dx []) ∧
  ∀ H', IsCode H' C p b d → (∀ a o, H a = some o → a ≠ p → H' a = some o) → Q .non H'
def spCodeEq (K : PySem.W.Frag) (C : Addr) : Sp := fun vs H Q _ => ∃ (x : Addr) (y : V) (b d : Nat), vs = [.ref x, y] ∧ IsCode H C x b d ∧
  ((∃ y' b' d', y = .ref y' ∧ IsCode H C y' b' d' ∧ Q (.bl (decide (b = b' ∧ d = d'))) H) ∨ (NotO K C H y ∧ Q (.bl false) H))
theorem make_code {C x dx : Addr} {b d : Nat} {H1 : Hp} {R : Hp → Prop} {E : XK} (ok : CodeOk b d) (nx : H1 x = none) (ndx : H1 dx = none)
    (k : ∀ H3, Same H1 H3 → IsCode H3 C x b d → R H3) : spCodeInit C [.ref x, .int (b : Int), .int (d : Int)] (upd (upd H1 dx (.own x)) x (.ins C dx [])) (fun v H2 => v = .non ∧ R H2) E := by
  have old : ∀ a o, H1 a = some o → (upd (upd H1 dx (.own x)) x (.ins C dx [])) a = some o := fun a o e => by
    rw [upd_ne (ne_of_none e nx), upd_ne (ne_of_none e ndx)]
    exact e
  exact ⟨x, dx, b, d, rfl, ok, upd_same, fun H3 hl keep => ⟨rfl, k H3 (fun a o e => keep a o (old a o e) (ne_of_none e nx)) hl⟩⟩
theorem ne_code {K : PySem.W.Frag} {C x y : Addr} {b d b' d' : Nat} {H : Hp} {Q : VK} {E : XK} (hx : IsCode H C x b d) (hy : IsCode H C y b' d') (k : Q (.bl (!decide (b = b' ∧ d = d'))) H) : rNeO K C (spCodeEq K C) E (.ref x) (.ref y) H Q := by
  obtain ⟨dx, fs, h1, _⟩ := id hx
  obtain ⟨dy, gs, g1, _⟩ := id hy
  exact ⟨x, dx, fs, rfl, h1, .inl ⟨y, dy, gs, rfl, g1⟩, x, .ref y, b, d, rfl, hx, .inl ⟨y, b', d', rfl, hy, _, rfl, k⟩⟩
theorem mul_cast (b d : Nat) : (b : Int) * 2 ^ d = ((b * 2 ^ d : Nat) : Int) := by
  rw [Int.natCast_mul, Int.natCast_pow]
  rfl
theorem shl_ok {b d : Nat} (hb : b ≤ 3) (hd : d ≤ 199) : CShl (b : Int) (d : Int) := by
  have e : Builtin.Int.intBits (b : Int) ≤ 2 := (show ∀ c < 4, Builtin.Int.intBits ((c : Nat) : Int) ≤ 2 by decide) b (by omega)
  exact ⟨by omega, by omega⟩
section
variable {P : Program} {w : World} {K : PySem.W.Frag} {mg : Str → Option Value} {base : Heap}
theorem sc_Code_init : FnScope ["self", "base", "doubles"] ["self", "base", "doubles"] (defScope s_Code_init) := ⟨rfl, rfl, rfl, by decide +kernel, rfl, by decide +kernel, by decide +kernel⟩
abbrev N_Code_init : List Str := ["self", "base", "doubles"]
theorem ok_Code_init {f f1 f2 C : Addr} {fd fd1 fd2 : FuncData} (F : Fun K "__init__" "Code.__init__" s_Code_init f fd) (T : Blt mg) (O_Code : OwnC K mg "Code" C f) (n1 : NoAttr K C "base") (n2 : NoAttr K C "doubles") (n3 : NoAttr K C "many") (n4 : NoAttr K C "bits") (D_is_within : Df K mg "is_within" s_is_within ["value", "least", "most"] f1 fd1) (D_is_integer : Df K mg "is_integer" s_is_integer ["value"] f2 fd2) :
    FnOk P w K mg base CX0 3 f fd ["self", "base", "doubles"] (spCodeInit C) := by
  have G_is_within : FnOk P w K mg base CX0 2 f1 fd1 ["value", "least", "most"] (spWithin K) := ok_is_within D_is_within.F D_is_integer T
  refine F.ok sc_Code_init (fun vs H Q E h => ?_) (fun cdv A outer s H vs Q E hr h => ?_)
  · obtain ⟨p, dx, b, d, rfl, _⟩ := h
    rfl
  · obtain ⟨p, dx, b, d, rfl, ok, hp, k⟩ := h
    have b2 := ok.b2
    have b3 := ok.b3
    have d1 := ok.d199
    refine ⟨_, (pss_cons (ps_if (pt_not (pt_val (pe_call G_is_within (hr.mono (by decide)) (by rfl) D_is_within.g D_is_within.F.kp D_is_within.b .nil pass0 (pa_cons (pv 1) (pa_cons (pe_glob (v := .int 2) rfl T.g_LEAST_BASE.choose_spec ⟨_, rfl⟩) (pa_cons (pe_glob (v := .int 3) rfl T.g_MOST_BASE.choose_spec ⟨_, rfl⟩) pa_nil)))))) (pss_one ps_never) pss_nil)
  (pss_cons (ps_if (pt_not (pt_val (pe_call G_is_within (hr.mono (by decide)) (by rfl) D_is_within.g D_is_within.F.kp D_is_within.b .nil pass0 (pa_cons (pv 2) (pa_cons pe_int (pa_cons (pe_glob (v := .int 199) rfl T.g_MOST_DOUBLES.choose_spec ⟨_, rfl⟩) pa_nil)))))) (pss_one ps_never) pss_nil)
  (pss_cons (ps_fld (pv 0) (pv 1) rfl)
  (pss_cons (ps_fld (pv 0) (pv 2) rfl)
  (pss_cons (ps_fld (pv 0) (pe_op op_shlN (pv 1) (pv 2)) rfl)
  (pss_one (ps_fld (pv 0) (pe_op op_add (pe_op op_sub (pv 1) pe_int) (pe_op op_mul pe_int (pv 2))) rfl))))))), ?_⟩
    refine ⟨_, rfl, _, some 2, some 3, true, rfl, isI_int _, _, rfl, ?_⟩
    rw [in_bounds (show (2 : Int) ≤ (b : Int) by omega) (show (b : Int) ≤ 3 by omega)]
    refine iteF ?_
    refine ⟨_, rfl, _, some 0, some 199, true, rfl, isI_int _, _, rfl, ?_⟩
    rw [in_bounds (show (0 : Int) ≤ (d : Int) by omega) (show (d : Int) ≤ 199 by omega)]
    refine iteF ?_
    refine ⟨_, rfl, _, rfl, p, C, dx, [], rfl, hp, O_Code.cl, n1, (by show 0 < 1000; decide), ?_⟩
    refine ⟨_, rfl, _, rfl, p, C, dx, _, rfl, upd_same, O_Code.cl, n2, (by show 1 < 1000; decide), ?_⟩
    refine ⟨_, rfl, _, rfl, _, d, rfl, rfl, shl_ok b3 d1, _, rfl, p, C, dx, _, rfl, upd_same, O_Code.cl, n3, (by show 2 < 1000; decide), ?_⟩
    refine ⟨_, rfl, _, _, rfl, rfl, _, rfl, _, _, rfl, rfl, .inl ⟨by decide, by decide⟩, _, _, rfl, rfl, _, rfl, p, C, dx, _, rfl, upd_same, O_Code.cl, n4, (by show 3 < 1000; decide), ?_⟩
    refine k _ ⟨dx, _, upd_same, rfl, rfl, ?_, ?_⟩ fun a o e na => ?_
    · show some (V.int ((b : Int) * 2 ^ d)) = _
      rw [Int.natCast_mul, Int.natCast_pow]
      rfl
    · show some (V.int ((b : Int) - 1 + 2 * (d : Int))) = _
      exact congrArg (fun z => some (V.int z)) (by omega)
    · rw [upd_ne na, upd_ne na, upd_ne na, upd_ne na]
      exact e
theorem sc_Code_eq : FnScope ["self", "other"] ["self", "other"] (defScope s_Code_eq) := ⟨rfl, rfl, rfl, by decide +kernel, rfl, by decide +kernel, by decide +kernel⟩
abbrev N_Code_eq : List Str := ["self", "other"]
theorem ok_Code_eq {f fI C : Addr} {fd : FuncData} (F : Fun K "__eq__" "Code.__eq__" s_Code_eq f fd) (T : Blt mg) (O_Code : OwnC K mg "Code" C fI) (n1 : NoAttr K C "base") (n2 : NoAttr K C "doubles") : FnOk P w K mg base CX0 1 f fd ["self", "other"] (spCodeEq K C) := by
  refine F.ok sc_Code_eq (fun vs H Q E h => ?_) (fun cdv A outer s H vs Q E hr h => ?_)
  · obtain ⟨x, y, b, d, rfl, _⟩ := h
    rfl
  · obtain ⟨x, y, b, d, rfl, hx, h⟩ := h
    refine ⟨_, (pss_one (ps_ret (pe_and (pe_callB call_isi (by rfl) T.n_isinstance (by decide +kernel) (pa_cons (pv 1) (pa_cons (pe_glob (v := .ref _) (by rfl) O_Code.g rfl) pa_nil))) (pe_and (pe_cmpR op_eq (pe_fld (pv 0) rfl) (pe_fld (pv 1) rfl) (nomark _)) (pe_one (pe_cmpR op_eq (pe_fld (pv 0) rfl) (pe_fld (pv 1) rfl) (nomark _))))))), ?_⟩
    rcases h with ⟨y', b', d', rfl, hy, k⟩ | ⟨⟨t, ty, ht⟩, k⟩
    · obtain ⟨dx, fs, h1, h2, h3, h4, h5⟩ := hx
      obtain ⟨dy, gs, g1, g2, g3, g4, g5⟩ := hy
      refine ⟨_, rfl, _, .ref C, .ref C, .ref C, true, rfl, .own C, O_Code.ty g1, O_Code.self, true, rfl, ?_⟩
      refine iteT ?_
      refine ⟨_, rfl, x, C, dx, _, _, rfl, h1, O_Code.cl, n1, h2, _, rfl, y', C, dy, _, _, rfl, g1, O_Code.cl, n1, g2, rfl, _, rfl, ?_⟩
      refine iteB (fun c => ?_) (fun c => ?_)
      · have e : b = b' := by
          have := V.int.inj (of_decide_eq_true c)
          omega
        refine ⟨_, rfl, x, C, dx, _, _, rfl, h1, O_Code.cl, n2, h3, _, rfl, y', C, dy, _, _, rfl, g1, O_Code.cl, n2, g3, rfl, ?_⟩
        rw [show decide (b = b' ∧ d = d') = decide (V.int (d : Int) = V.int (d' : Int)) from decide_eq_decide.mpr ⟨fun z => by rw [z.2], fun z => ⟨e, by have := V.int.inj z; omega⟩⟩] at k
        exact k
      · have e : ¬ b = b' := fun z => of_decide_eq_false c (by rw [z])
        rw [show decide (b = b' ∧ d = d') = false by simp [e]] at k
        exact k
    · exact ⟨_, rfl, y, .ref C, t, .ref C, false, rfl, .own C, ty, ht, false, rfl, iteF k⟩
end
/-! ### what words of codes mean -/
structure BaseV (K : PySem.W.Frag) (mg : Str → Option Value) : Prop where
  g : ∃ d : Addr, mg "BASE_VALUES" = some (.ref d) ∧ ∀ b : Nat, b = 2 ∨ b = 3 → ∃ a : Addr, KDcI K d (b : Int) (.ref a) ∧ (∃ o, K.lookup a = some o ∧ o.cls = .type "tuple" ∧ o.dict = none) ∧ ∀ H, SqT K H a ((if b = 2 then [0, 1] else [0, 0, 1, 2]).map V.int)
theorem two_case {b d : Nat} (ok : CodeOk b d) : b = 2 ∨ b = 3 := by have := ok.b2; have := ok.b3; omega
theorem and_one (x : Nat) : Builtin.bitAnd (x : Int) 1 = ((x % 2 : Nat) : Int) := by
  rw [show (1 : Int) = ((1 : Nat) : Int) from rfl, bitAnd_pp (Int.natCast_nonneg _) (Int.natCast_nonneg _), Int.toNat_natCast, Int.toNat_natCast, Nat.and_one_is_mod]
theorem shr_nat (x k : Nat) : (x : Int) / 2 ^ k = ((x / 2 ^ k : Nat) : Int) := by
  rw [Int.natCast_ediv, Int.natCast_pow]
  rfl
theorem bit_is (w i : Nat) : Builtin.bitAnd ((w : Int) / 2 ^ i) 1 = ((MC.wd w i).toNat : Int) := by
  rw [shr_nat, and_one, MC.bit_wd]
theorem xor_is (x y : Nat) : Builtin.bitXor (x : Int) (y : Int) = ((x ^^^ y : Nat) : Int) := by
  rw [Bits.bitXor_pp (Int.natCast_nonneg _) (Int.natCast_nonneg _), Int.toNat_natCast, Int.toNat_natCast]
def lwN (b j : Nat) : Nat := b - 1 + 2 * j
def cntL (b w d : Nat) : List Nat := (List.range d).map fun j => MC.cts (MC.wd w) (lwN b j)
def nV (ns : List Nat) : List V := ns.map fun n : Nat => V.int (n : Int)
theorem nV_len (ns : List Nat) : (nV ns).length = ns.length := List.length_map _
theorem nV_at {ns : List Nat} {i n : Nat} (h : ns[i]? = some n) : (nV ns)[i]? = some (.int (n : Int)) := by
  unfold nV
  rw [List.getElem?_map, h]
  rfl
def spBaseWord (C : Addr) : Sp := fun vs H Q _ => ∃ (x : Addr) (b d w : Nat), vs = [.ref x, .int (w : Int)] ∧ IsCode H C x b d ∧ CodeOk b d ∧ Q (.int ((w % 2 ^ (b - 1) : Nat) : Int)) H
def spLower (C : Addr) : Sp := fun vs H Q _ => ∃ (x : Addr) (b d : Nat), vs = [.ref x] ∧ IsCode H C x b d ∧ CodeOk b d ∧ ∀ q, H q = none → Q (.ref q) (upd H q (.lst (nV ((List.range d).map (lwN b)))))
def spCounting (C : Addr) : Sp := fun vs H Q _ => ∃ (x : Addr) (b d w : Nat), vs = [.ref x, .int (w : Int)] ∧ IsCode H C x b d ∧ CodeOk b d ∧ ∀ q H', H q = none → Same H H' → H' q = some (.lst (nV (cntL b w d))) → Q (.ref q) H'
def spNeedCode (K : PySem.W.Frag) (C CC : Addr) : Sp := fun vs H Q E => ∃ x : V, vs = [x] ∧ ((NotO K C H x ∧ RaisesP CC "code" E H) ∨ ∃ (y : Addr) (b d : Nat), x = .ref y ∧ IsCode H C y b d ∧ Q .non H)
def hiW (b d : Nat) : Int := ((2 ^ (b - 1 + 2 * d) : Nat) : Int) - 1
def spNeedWordC (K : PySem.W.Frag) (C CW : Addr) : Sp := fun vs H Q E => ∃ (x : Addr) (b d : Nat) (y : V) (c : Bool), vs = [.ref x, y] ∧ IsCode H C x b d ∧ CodeOk b d ∧ IsI K H y c ∧
  ((c && inB (some 0) (some (hiW b d)) y) = true → Q .non H) ∧ ((c && inB (some 0) (some (hiW b d)) y) = false → RaisesP CW "word" E H)
def spMeant (K : PySem.W.Frag) (C CC CW : Addr) : Sp := fun vs H Q E => ∃ x y : V, vs = [x, y] ∧ ((NotO K C H x ∧ RaisesP CC "code" E H) ∨ ∃ (c : Addr) (b d : Nat), x = .ref c ∧ IsCode H C c b d ∧ CodeOk b d ∧
  ((Bad K H y (some 0) (some (hiW b d)) ∧ RaisesP CW "word" E H) ∨ ∃ w : Nat, y = .int (w : Int) ∧ w < 2 ^ (b - 1 + 2 * d) ∧ ∀ H', Same H H' → Q (.int ((MC.val b (MC.wd w) d : Nat) : Int)) H'))
def hiV (b d : Nat) : Int := ((b * 2 ^ d : Nat) : Int) - 1
def spFirst (K : PySem.W.Frag) (C CC CN : Addr) : Sp := fun vs H Q E => ∃ x y : V, vs = [x, y] ∧ ((NotO K C H x ∧ RaisesP CC "code" E H) ∨ ∃ (c : Addr) (b d : Nat), x = .ref c ∧ IsCode H C c b d ∧ CodeOk b d ∧
  ((Bad K H y (some 0) (some (hiV b d)) ∧ RaisesP CN "value" E H) ∨ ∃ v : Nat, y = .int (v : Int) ∧ v < b * 2 ^ d ∧ ∀ H', Same H H' → Q (.int ((MC.fw b v d : Nat) : Int)) H'))
theorem shl_wide {d : Nat} (hd : d ≤ 1000) : CShl 3 (d : Int) := by
  have e : Builtin.Int.intBits 3 ≤ 2 := by decide
  exact ⟨by omega, by omega⟩
theorem sel_cts (f : MC.Wd) (l : Nat) : MC.sel f l = f (MC.cts f l) := by
  unfold MC.sel MC.cts
  split <;> rfl
theorem p399 {b d : Nat} (ok : CodeOk b d) : b - 1 + 2 * d ≤ 400 := by have := ok.b3; have := ok.d199; omega
section
variable {P : Program} {w : World} {K : PySem.W.Frag} {mg : Str → Option Value} {base : Heap}
theorem sc__base_word : FnScope ["code", "word"] ["code", "word"] (defScope s__base_word) := ⟨rfl, rfl, rfl, by decide +kernel, rfl, by decide +kernel, by decide +kernel⟩
abbrev N__base_word : List Str := ["code", "word"]
theorem ok__base_word {f fI C : Addr} {fd : FuncData} (F : Fun K "_base_word" "_base_word" s__base_word f fd) (T : Blt mg) (O_Code : OwnC K mg "Code" C fI) (n1 : NoAttr K C "base") : FnOk P w K mg base CX0 1 f fd ["code", "word"] (spBaseWord C) := by
  refine F.ok sc__base_word (fun vs H Q E h => ?_) (fun cdv A outer s H vs Q E hr h => ?_)
  · obtain ⟨x, b, d, wn, rfl, _⟩ := h
    rfl
  · obtain ⟨x, b, d, wn, rfl, ⟨dx, fs, h1, h2, h3, h4, h5⟩, ok, k⟩ := h
    have b2 := ok.b2
    refine ⟨_, (pss_one (ps_ret (pe_op op_and (pv 1) (pe_op op_sub (pe_op op_oneN pe_int (pe_op op_sub (pe_fld (pv 0) rfl) pe_int)) pe_int)))), ?_⟩
    refine ⟨_, rfl, _, rfl, x, C, dx, _, _, rfl, h1, O_Code.cl, n1, h2, _, _, rfl, rfl, b - 1, rfl, congrArg V.int (by omega), by have := ok.b3; omega, _, _, rfl, rfl, _, _, rfl, rfl, ?_⟩
    have p := M07.two_pos (b - 1)
    show Q (V.int (Builtin.bitAnd (wn : Int) (((2 ^ (b - 1) : Nat) : Int) - 1))) H
    rw [show ((2 ^ (b - 1) : Nat) : Int) - 1 = ((2 ^ (b - 1) - 1 : Nat) : Int) by omega, bitAnd_pp (Int.natCast_nonneg _) (Int.natCast_nonneg _), Int.toNat_natCast, Int.toNat_natCast, Nat.and_two_pow_sub_one_eq_mod]
    exact k
theorem sc__lower_bits : FnScope ["code"] ["code"] (defScope s__lower_bits) := ⟨rfl, rfl, rfl, by decide +kernel, rfl, by decide +kernel, by decide +kernel⟩
abbrev N__lower_bits : List Str := ["code"]
theorem ok__lower_bits {f fI C : Addr} {fd : FuncData} (F : Fun K "_lower_bits" "_lower_bits" s__lower_bits f fd) (T : Blt mg) (O_Code : OwnC K mg "Code" C fI) (n1 : NoAttr K C "base") (n4 : NoAttr K C "bits") : FnOk P w K mg base CX0 1 f fd ["code"] (spLower C) := by
  refine F.ok sc__lower_bits (fun vs H Q E h => ?_) (fun cdv A outer s H vs Q E hr h => ?_)
  · obtain ⟨x, b, d, rfl, _⟩ := h
    rfl
  · obtain ⟨x, b, d, rfl, ⟨dx, fs, h1, h2, h3, h4, h5⟩, ok, k⟩ := h
    have b2 := ok.b2
    have b3 := ok.b3
    have d1 := ok.d199
    refine ⟨_, (pss_one (ps_ret (pe_listR2 rfl (by rfl) T.n_list (by rfl) T.n_range (pe_op op_sub (pe_fld (pv 0) rfl) pe_int) (pe_fld (pv 0) rfl)))), ?_⟩
    refine ⟨_, rfl, x, C, dx, _, _, rfl, h1, O_Code.cl, n1, h2, _, _, rfl, rfl, _, rfl, x, C, dx, _, _, rfl, h1, O_Code.cl, n4, h5, _, _, d, rfl, rfl, by omega, by omega, by omega, by omega, fun q hq => ?_⟩
    have e : r2V ((b : Int) - 1) d = nV ((List.range d).map (lwN b)) := by
      unfold r2V nV lwN
      rw [List.map_map]
      refine List.map_congr_left fun j _ => congrArg V.int ?_
      show (b : Int) - 1 + 2 * (j : Int) = ((b - 1 + 2 * j : Nat) : Int)
      omega
    rw [e]
    exact k q hq
theorem sc__counting_bits : FnScope ["code", "word", "base_word", "odd", "counting", "lower"] ["code", "word"] (defScope s__counting_bits) := ⟨rfl, rfl, rfl, by decide +kernel, rfl, by decide +kernel, by decide +kernel⟩
abbrev N__counting_bits : List Str := ["code", "word", "base_word", "odd", "counting", "lower"]
theorem ok__counting_bits {f f1 f2 fI C : Addr} {fd fd1 fd2 : FuncData} (F : Fun K "_counting_bits" "_counting_bits" s__counting_bits f fd) (T : Blt mg) (O_Code : OwnC K mg "Code" C fI) (n1 : NoAttr K C "base") (n4 : NoAttr K C "bits") (D__base_word : Df K mg "_base_word" s__base_word ["code", "word"] f1 fd1) (D__lower_bits : Df K mg "_lower_bits" s__lower_bits ["code"] f2 fd2) : FnOk P w K mg base CX0 2 f fd ["code", "word"] (spCounting C) := by
  have G__base_word : FnOk P w K mg base CX0 1 f1 fd1 ["code", "word"] (spBaseWord C) := ok__base_word D__base_word.F T O_Code n1
  have G__lower_bits : FnOk P w K mg base CX0 1 f2 fd2 ["code"] (spLower C) := ok__lower_bits D__lower_bits.F T O_Code n1 n4
  refine F.ok sc__counting_bits (fun vs H Q E h => ?_) (fun cdv A outer s H vs Q E hr h => ?_)
  · obtain ⟨x, b, d, wn, rfl, _⟩ := h
    rfl
  · obtain ⟨x, b, d, wn, rfl, hx, ok, k⟩ := h
    have hb := two_case ok
    have d1 := ok.d199
    refine ⟨_, (pss_cons (ps_set (i := 2) sc__counting_bits.nd rfl (Or.inl rfl) (pe_call G__base_word (hr.mono (by decide)) (by rfl) D__base_word.g D__base_word.F.kp D__base_word.b .nil pass0 (pa_cons (pv 0) (pa_cons (pv 1) pa_nil))))
  (pss_cons (ps_set (i := 3) sc__counting_bits.nd rfl (Or.inl rfl) (pe_op op_and (pe_op op_xor (pv 2) (pe_op op_shrN (pv 2) pe_int)) pe_int))
  (pss_cons (ps_set (i := 4) sc__counting_bits.nd rfl (Or.inl rfl) (pe_lst pa_nil))
  (pss_cons (ps_for PassesOwn.never rfl (pi_list (pe_call G__lower_bits (hr.mono (by decide)) (by rfl) D__lower_bits.g D__lower_bits.F.kp D__lower_bits.b .nil pass0 (pa_cons (pv 0) pa_nil))) (pg_name (i := 5) sc__counting_bits.nd rfl (Or.inl rfl)) (pss_cons (ps_expr (pe_bm PySem.F.plainAttrs_list PySem.F.slot_list_append PySem.F.type_list_append mt_append (pv 4) (pa_cons (pe_ifExp (pt_truth (pv 3) (by intro _; rfl)) (pv 5) (pe_op op_add (pv 5) pe_int)) pa_nil)))
  (pss_one (ps_set (i := 3) sc__counting_bits.nd rfl (Or.inl rfl) (pe_op op_xor (pe_op op_xor (pv 3) (pe_op op_and (pe_op op_shrN (pv 1) (pv 5)) pe_int)) (pe_op op_and (pe_op op_shrN (pv 1) (pe_op op_add (pv 5) pe_int)) pe_int))))))
  (pss_one (ps_ret (pv 4))))))), ?_⟩
    refine ⟨_, rfl, _, rfl, x, b, d, wn, rfl, hx, ok, ?_⟩
    refine ⟨_, rfl, _, rfl, _, 1, rfl, rfl, _, _, rfl, rfl, _, _, rfl, rfl, ?_⟩
    have e0 : Builtin.bitAnd (Builtin.bitXor ((wn % 2 ^ (b - 1) : Nat) : Int) (((wn % 2 ^ (b - 1) : Nat) : Int) / 2 ^ 1)) 1 = ((MC.par (MC.wd wn) (lwN b 0)).toNat : Int) := by
      rw [shr_nat, xor_is, and_one, Nat.pow_one, MC.base_par hb]
      rfl
    show gName 3 (V.int (Builtin.bitAnd (Builtin.bitXor ((wn % 2 ^ (b - 1) : Nat) : Int) (((wn % 2 ^ (b - 1) : Nat) : Int) / 2 ^ 1)) 1)) _ _ _
    rw [e0]
    refine ⟨Nat.zero_le _, fun D hD => ?_⟩
    have S1 := same_new (o := .lst []) hD
    refine ⟨_, rfl, x, b, d, rfl, hx.same S1, ok, fun q hq => ?_⟩
    have S2 := same_new (o := .lst (nV ((List.range d).map (lwN b)))) hq
    have g2 := upd_same (H := upd H D (.lst [])) (a := q) (o := .lst (nV ((List.range d).map (lwN b))))
    have nqD : q ≠ D := (ne_of_none (upd_same (H := H) (a := D) (o := .lst [])) hq).symm
    have gD := S2 _ _ (upd_same (H := H) (a := D) (o := .lst []))
    have S := S1.trans S2
    generalize upd (upd H D (.lst [])) q (.lst (nV ((List.range d).map (lwN b)))) = H2 at g2 gD S ⊢
    clear S1 S2 hq
    refine ⟨q, rfl, ⟨_, SqL.of g2⟩, ?_⟩
    refine for_list (xs := nV ((List.range d).map (lwN b))) (fun j σ H' => Same H H' ∧ H' q = some (.lst (nV ((List.range d).map (lwN b)))) ∧ H' D = some (.lst (nV (cntL b wn j))) ∧ ∃ u : Option V, σ = [some (.ref x), some (.int (wn : Int)), some (.int ((wn % 2 ^ (b - 1) : Nat) : Int)), some (.int ((MC.par (MC.wd wn) (lwN b j)).toNat : Int)), some (.ref D), u])
      ⟨S, g2, gD, none, rfl⟩ (fun i σ H' _ h => SqL.of h.2.1) ?_ ?_
    · rintro j y σ H' hy ⟨S3, q3, D3, u, rfl⟩
      have hj : j < d := by
        have := (List.getElem?_eq_some_iff.mp hy).1
        rw [nV_len, List.length_map, List.length_range] at this
        exact this
      rw [nV_at (n := lwN b j) (by rw [List.getElem?_map, List.getElem?_range hj]; rfl)] at hy
      cases hy
      have fin : ∀ z : Int, z = ((MC.cts (MC.wd wn) (lwN b j) : Nat) : Int) → Same H (upd H' D (.lst (nV (cntL b wn j) ++ [V.int z]))) ∧ (upd H' D (.lst (nV (cntL b wn j) ++ [V.int z]))) q = some (.lst (nV ((List.range d).map (lwN b)))) ∧ (upd H' D (.lst (nV (cntL b wn j) ++ [V.int z]))) D = some (.lst (nV (cntL b wn (j + 1)))) := fun z hz => by
        refine ⟨fun a o e => by rw [upd_ne (ne_of_none e hD)]; exact S3 a o e, by rw [upd_ne nqD]; exact q3, ?_⟩
        rw [upd_same, hz]
        unfold cntL nV
        rw [List.range_succ, List.map_append, List.map_append]
        rfl
      have size : (nV (cntL b wn j)).length < sizeLine := by
        unfold cntL
        rw [nV_len, List.length_map, List.length_range, sizeLine_eq]
        omega
      have eo : Builtin.bitXor (Builtin.bitXor ((MC.par (MC.wd wn) (lwN b j)).toNat : Int) (Builtin.bitAnd ((wn : Int) / 2 ^ lwN b j) 1)) (Builtin.bitAnd ((wn : Int) / 2 ^ (lwN b j + 1)) 1) = ((MC.par (MC.wd wn) (lwN b (j + 1))).toNat : Int) := by
        rw [bit_is, bit_is, xor_is, xor_is, MC.xor_nat, MC.xor_nat]
        rfl
      refine ⟨_, rfl, .inl ⟨rfl, _, SqL.of D3⟩, ?_⟩
      have shift : ∀ u : Option V, [some (V.ref x), some (V.int (wn : Int)), some (V.int ((wn % 2 ^ (b - 1) : Nat) : Int)), some (V.int (Builtin.bitXor (Builtin.bitXor ((MC.par (MC.wd wn) (lwN b j)).toNat : Int) (Builtin.bitAnd ((wn : Int) / 2 ^ lwN b j) 1)) (Builtin.bitAnd ((wn : Int) / 2 ^ (lwN b j + 1)) 1))), some (V.ref D), u] = [some (V.ref x), some (V.int (wn : Int)), some (V.int ((wn % 2 ^ (b - 1) : Nat) : Int)), some (V.int ((MC.par (MC.wd wn) (lwN b (j + 1))).toNat : Int)), some (V.ref D), u] := fun u => by rw [eo]
      cases hp : MC.par (MC.wd wn) (lwN b j) with
      | true =>
        rw [hp] at shift
        obtain ⟨e1, e2, e3⟩ := fin (lwN b j : Int) (by unfold MC.cts; rw [hp]; rfl)
        refine ⟨_, rfl, true, rfl, iteT ?_⟩
        refine ⟨_, rfl, D, _, _, rfl, rfl, D3, size, ?_⟩
        exact ⟨_, rfl, _, rfl, _, rfl, _, _, rfl, rfl, _, _, rfl, rfl, _, _, rfl, rfl, _, rfl, _, rfl, _, _, rfl, rfl, _, _, rfl, rfl, _, _, rfl, rfl, _, _, rfl, rfl, e1, e2, e3, _, shift _⟩
      | false =>
        rw [hp] at shift
        obtain ⟨e1, e2, e3⟩ := fin ((lwN b j : Int) + 1) (by unfold MC.cts; rw [hp]; rfl)
        refine ⟨_, rfl, false, rfl, iteF ?_⟩
        refine ⟨_, rfl, _, _, rfl, rfl, D, _, _, rfl, rfl, D3, size, ?_⟩
        exact ⟨_, rfl, _, rfl, _, rfl, _, _, rfl, rfl, _, _, rfl, rfl, _, _, rfl, rfl, _, rfl, _, rfl, _, _, rfl, rfl, _, _, rfl, rfl, _, _, rfl, rfl, _, _, rfl, rfl, e1, e2, e3, _, shift _⟩
    · rintro σ H' ⟨S3, q3, D3, u, rfl⟩
      rw [nV_len, List.length_map, List.length_range] at D3
      exact ⟨_, rfl, k D _ hD S3 D3⟩
theorem sc_need_code : FnScope ["value"] ["value"] (defScope s_need_code) := ⟨rfl, rfl, rfl, by decide +kernel, rfl, by decide +kernel, by decide +kernel⟩
abbrev N_need_code : List Str := ["value"]
theorem ok_need_code {f fI C CC fC : Addr} {fd fdC : FuncData} (F : Fun K "need_code" "need_code" s_need_code f fd) (T : Blt mg) (O_Code : OwnC K mg "Code" C fI) (R_BadCode : Err P w K mg base "BadCode" "part" CC fC fdC) : FnOk P w K mg base (L2.CX P w) 4 f fd ["value"] (spNeedCode K C CC) := by
  refine F.okX sc_need_code (fun vs H Q E h => ?_) (fun cdv A outer s H vs Q E hr h => ?_)
  · obtain ⟨x, rfl, _⟩ := h
    rfl
  · obtain ⟨x, rfl, h⟩ := h
    refine ⟨_, (pss_one (ps_if (pt_not (pt_val (pe_callB call_isi (by rfl) T.n_isinstance (by decide +kernel) (pa_cons (pv 0) (pa_cons (pe_glob (v := .ref _) (by rfl) O_Code.g rfl) pa_nil))))) (pss_one (ps_raise1 rfl (takes_of rfl rfl rfl rfl) R_BadCode (hr.mono (by decide)) (by rfl) pe_str)) pss_nil)), ?_⟩
    rcases h with ⟨⟨t, ty, ht⟩, kx⟩ | ⟨y, b, d, rfl, ⟨dx, fs, h1, h2⟩, k⟩
    · refine ⟨_, rfl, x, .ref C, t, .ref C, false, rfl, .own C, ty, ht, false, rfl, iteT ?_⟩
      refine raise1_of (σ := []) (W := fun cls d _ H => E cls d H) R_BadCode.T R_BadCode.no ?_
      exact fun d hd => kx d hd
    · exact ⟨_, rfl, _, .ref C, .ref C, .ref C, true, rfl, .own C, O_Code.ty h1, O_Code.self, true, rfl, iteF k⟩
theorem sc__need_word_of : FnScope ["code", "word"] ["code", "word"] (defScope s__need_word_of) := ⟨rfl, rfl, rfl, by decide +kernel, rfl, by decide +kernel, by decide +kernel⟩
abbrev N__need_word_of : List Str := ["code", "word"]
theorem ok__need_word_of {f f1 f2 fI C CW fC : Addr} {fd fd1 fd2 fdC : FuncData} (F : Fun K "_need_word_of" "_need_word_of" s__need_word_of f fd) (T : Blt mg) (O_Code : OwnC K mg "Code" C fI) (n4 : NoAttr K C "bits") (D_is_within : Df K mg "is_within" s_is_within ["value", "least", "most"] f1 fd1) (D_is_integer : Df K mg "is_integer" s_is_integer ["value"] f2 fd2) (R_BadWord : Err P w K mg base "BadWord" "part" CW fC fdC) : FnOk P w K mg base (L2.CX P w) 4 f fd ["code", "word"] (spNeedWordC K C CW) := by
  have G_is_within : FnOk P w K mg base CX0 2 f1 fd1 ["value", "least", "most"] (spWithin K) := ok_is_within D_is_within.F D_is_integer T
  refine F.okX sc__need_word_of (fun vs H Q E h => ?_) (fun cdv A outer s H vs Q E hr h => ?_)
  · obtain ⟨x, b, d, y, c, rfl, _⟩ := h
    rfl
  · obtain ⟨x, b, d, y, c, rfl, ⟨dx, fs, h1, h2, h3, h4, h5⟩, ok, hI, k1, k2⟩ := h
    have p4 := p399 ok
    refine ⟨_, (pss_one (ps_if (pt_not (pt_val (pe_call G_is_within (hr.mono (by decide)) (by rfl) D_is_within.g D_is_within.F.kp D_is_within.b .nil pass0 (pa_cons (pv 1) (pa_cons pe_int (pa_cons (pe_op op_sub (pe_op op_oneN pe_int (pe_fld (pv 0) rfl)) pe_int) pa_nil)))))) (pss_one (ps_raise1 rfl (takes_of rfl rfl rfl rfl) R_BadWord (hr.mono (by decide)) (by rfl) pe_str)) pss_nil)), ?_⟩
    refine ⟨_, rfl, _, rfl, x, C, dx, _, _, rfl, h1, O_Code.cl, n4, h5, b - 1 + 2 * d, rfl, rfl, by omega, _, _, rfl, rfl, _, some 0, some (hiW b d), c, rfl, hI, _, rfl, ?_⟩
    refine iteB (fun e => ?_) (fun e => ?_)
    · have e' : (c && inB (some 0) (some (hiW b d)) y) = false := by
        cases z : (c && inB (some 0) (some (hiW b d)) y) with
        | false => rfl
        | true => rw [z] at e; cases e
      refine raise1_of (σ := []) (W := fun cls d _ H => E cls d H) R_BadWord.T R_BadWord.no ?_
      exact fun d hd => k2 e' d hd
    · have e' : (c && inB (some 0) (some (hiW b d)) y) = true := by
        cases z : (c && inB (some 0) (some (hiW b d)) y) with
        | true => rfl
        | false => rw [z] at e; cases e
      exact k1 e'
theorem sc_meant_by : FnScope ["code", "word", "value", "double", "bit"] ["code", "word"] (defScope s_meant_by) := ⟨rfl, rfl, rfl, by decide +kernel, rfl, by decide +kernel, by decide +kernel⟩
abbrev N_meant_by : List Str := ["code", "word", "value", "double", "bit"]
theorem ok_meant_by {f f1 f2 f3 f4 fI C CC CW : Addr} {fd fd1 fd2 fd3 fd4 : FuncData} (F : Fun K "meant_by" "meant_by" s_meant_by f fd) (T : Blt mg) (O_Code : OwnC K mg "Code" C fI) (n1 : NoAttr K C "base") (n4 : NoAttr K C "bits") (BV : BaseV K mg)
    (D_need_code : Df K mg "need_code" s_need_code ["value"] f1 fd1) (G_need_code : FnOk P w K mg base (L2.CX P w) 4 f1 fd1 ["value"] (spNeedCode K C CC)) (D__need_word_of : Df K mg "_need_word_of" s__need_word_of ["code", "word"] f2 fd2) (G__need_word_of : FnOk P w K mg base (L2.CX P w) 4 f2 fd2 ["code", "word"] (spNeedWordC K C CW))
    (D__base_word : Df K mg "_base_word" s__base_word ["code", "word"] f3 fd3) (D__counting_bits : Df K mg "_counting_bits" s__counting_bits ["code", "word"] f4 fd4) (G__counting_bits : FnOk P w K mg base CX0 2 f4 fd4 ["code", "word"] (spCounting C)) : FnOk P w K mg base (L2.CX P w) 6 f fd ["code", "word"] (spMeant K C CC CW) := by
  have G__base_word : FnOk P w K mg base CX0 1 f3 fd3 ["code", "word"] (spBaseWord C) := ok__base_word D__base_word.F T O_Code n1
  obtain ⟨dV, gBV, bv⟩ := BV.g
  refine F.okX sc_meant_by (fun vs H Q E h => ?_) (fun cdv A outer s H vs Q E hr h => ?_)
  · obtain ⟨x, y, rfl, _⟩ := h
    rfl
  · obtain ⟨x, y, rfl, h⟩ := h
    refine ⟨_, (pss_cons (ps_expr (pe_callS G_need_code (hr.mono (by decide)) (by rfl) D_need_code.g D_need_code.F.kp D_need_code.b (fun σ => passAt (takes_of rfl rfl rfl rfl) σ) (pa_cons (pv 0) pa_nil)))
  (pss_cons (ps_expr (pe_callS G__need_word_of (hr.mono (by decide)) (by rfl) D__need_word_of.g D__need_word_of.F.kp D__need_word_of.b (fun σ => passAt (takes_of rfl rfl rfl rfl) σ) (pa_cons (pv 0) (pa_cons (pv 1) pa_nil))))
  (pss_cons (ps_set (i := 2) sc_meant_by.nd rfl (Or.inl rfl) (pe_ix ix_tup (pe_ix ix_kint (pe_glob (v := .ref _) (by rfl) gBV rfl) (pe_fld (pv 0) rfl) (fun _ _ => rfl)) (pe_call G__base_word (hr.mono (by decide)) (by rfl) D__base_word.g D__base_word.F.kp D__base_word.b .nil pass0 (pa_cons (pv 0) (pa_cons (pv 1) pa_nil))) (fun _ _ => rfl)))
  (pss_cons (ps_for (passes_of rfl) rfl (pi_enum (by rfl) T.n_enumerate (pa_cons (pe_call G__counting_bits (hr.mono (by decide)) (by rfl) D__counting_bits.g D__counting_bits.F.kp D__counting_bits.b .nil pass0 (pa_cons (pv 0) (pa_cons (pv 1) pa_nil))) pa_nil)) (pg_tup (by rfl) (pgs_cons (pg_name (i := 3) sc_meant_by.nd rfl (Or.inl rfl)) (pgs_cons (pg_name (i := 4) sc_meant_by.nd rfl (Or.inl rfl)) pgs_nil))) (pss_one (ps_set (i := 2) sc_meant_by.nd rfl (Or.inl rfl) (pe_op op_add (pv 2) (pe_op op_shlN (pe_op op_mul (pe_op op_and (pe_op op_shrN (pv 1) (pv 4)) pe_int) (pe_fld (pv 0) rfl)) (pv 3))))))
  (pss_one (ps_ret (pv 2))))))), ?_⟩
    rcases h with ⟨nx, kx⟩ | ⟨c, b, d, rfl, hc, ok, h⟩
    · exact ⟨_, rfl, _, rfl, .inl ⟨nx, kx⟩⟩
    refine ⟨_, rfl, _, rfl, .inr ⟨c, b, d, rfl, hc, ?_⟩⟩
    rcases h with ⟨⟨e, hI, hb⟩, kx⟩ | ⟨wn, rfl, hw, k⟩
    · exact ⟨_, rfl, _, rfl, c, b, d, y, e, rfl, hc, ok, hI, fun z => yes_no z hb, fun _ => kx⟩
    refine ⟨_, rfl, _, rfl, c, b, d, _, true, rfl, hc, ok, isI_int _, fun _ => ?_, fun z => yes_no (in_bounds (by omega) (by unfold hiW; omega)) z⟩
    obtain ⟨dx, fs, h1, h2, h3, h4, h5⟩ := id hc
    have hb := two_case ok
    obtain ⟨aV, kd, oV, sq⟩ := bv b hb
    refine ⟨_, rfl, c, C, dx, _, _, rfl, h1, O_Code.cl, n1, h2, dV, _, _, rfl, rfl, kd, _, rfl, _, rfl, c, b, d, wn, rfl, hc, ok, ?_⟩
    have at' : atI ((if b = 2 then [0, 1] else [0, 0, 1, 2]).map V.int) ((wn % 2 ^ (b - 1) : Nat) : Int) = some (V.int ((MC.bv b (MC.wd wn) : Nat) : Int)) := by
      refine atI_nat ?_
      rcases hb with rfl | rfl
      · rw [if_pos rfl, List.getElem?_map]
        exact congrArg (Option.map V.int) (MC.bv2 wn)
      · rw [if_neg (show ¬ 3 = 2 by decide), List.getElem?_map]
        exact congrArg (Option.map V.int) (MC.bv3 wn)
    refine ⟨aV, _, _, _, rfl, rfl, sq _, at', ?_⟩
    refine ⟨_, rfl, _, rfl, c, b, d, wn, rfl, hc, ok, fun q H1 hq S1 hq1 => ⟨q, _, rfl, SqL.of hq1, ?_⟩⟩
    have d1 := ok.d199
    have b3 := ok.b3
    have ql : (nV (cntL b wn d)).length = d := by
      unfold cntL
      rw [nV_len, List.length_map, List.length_range]
    refine for_it (J := Ite K q) walk_enum (fun i σ H' => Same H1 H' ∧ ∃ u v : Option V, σ = [some (.ref c), some (.int (wn : Int)), some (.int ((MC.val b (MC.wd wn) i : Nat) : Int)), u, v]) ⟨fun _ _ e => e, none, none, rfl⟩ (fun i σ H' _ h => SqL.of (h.1 _ _ hq1)) ?_ ?_
    · rintro i z σ H0 H2 hi ⟨S0, u, v, rfl⟩ ⟨q2, a, e, rfl, hq2, rfl, ea, eb⟩
      have ea : V.int (i : Int) = a := Option.some.inj ea
      subst ea
      rw [ql] at hi
      have eb : (nV (cntL b wn d))[i]? = some e := eb
      rw [nV_at (n := MC.cts (MC.wd wn) (lwN b i)) (by unfold cntL; rw [List.getElem?_map, List.getElem?_range hi]; rfl)] at eb
      have eb := Option.some.inj eb
      subst eb
      have S2 : Same H1 (upd H0 q2 (.tup [.int (i : Int), .int ((MC.cts (MC.wd wn) (lwN b i) : Nat) : Int)])) := S0.trans (same_new hq2)
      have xs : ((MC.wd wn (MC.cts (MC.wd wn) (lwN b i))).toNat * b) ≤ 3 := by
        have : (MC.wd wn (MC.cts (MC.wd wn) (lwN b i))).toNat ≤ 1 := by cases MC.wd wn (MC.cts (MC.wd wn) (lwN b i)) <;> decide
        have : (MC.wd wn (MC.cts (MC.wd wn) (lwN b i))).toNat * b ≤ 1 * b := Nat.mul_le_mul_right _ this
        omega
      have em : Builtin.bitAnd ((wn : Int) / 2 ^ MC.cts (MC.wd wn) (lwN b i)) 1 * (b : Int) = (((MC.wd wn (MC.cts (MC.wd wn) (lwN b i))).toNat * b : Nat) : Int) := by
        rw [bit_is, Int.natCast_mul]
      refine ⟨q2, _, rfl, SqT.of upd_same, rfl, _, _, rfl, _, _, rfl, rfl, ?_⟩
      refine ⟨_, rfl, _, rfl, _, rfl, _, MC.cts (MC.wd wn) (lwN b i), rfl, rfl, _, _, rfl, rfl, _, rfl, c, C, dx, _, _, rfl, S2 _ _ (S1 _ _ h1), O_Code.cl, n1, h2, _, _, rfl, rfl, .inr ⟨by omega, by omega⟩, _, rfl, _, i, rfl, rfl, by rw [em]; exact shl_ok xs (by omega), _, _, rfl, rfl, ?_⟩
      refine ⟨S2, some (.int (i : Int)), some (.int ((MC.cts (MC.wd wn) (lwN b i) : Nat) : Int)), ?_⟩
      have ev : ((MC.val b (MC.wd wn) i : Nat) : Int) + Builtin.bitAnd ((wn : Int) / 2 ^ MC.cts (MC.wd wn) (lwN b i)) 1 * (b : Int) * 2 ^ i = ((MC.val b (MC.wd wn) (i + 1) : Nat) : Int) := by
        rw [em, mul_cast, ← Int.natCast_add]
        show ((MC.val b (MC.wd wn) i + _ : Nat) : Int) = ((MC.val b (MC.wd wn) i + (MC.sel (MC.wd wn) (b - 1 + 2 * i)).toNat * (b * 2 ^ i) : Nat) : Int)
        rw [sel_cts, Nat.mul_assoc]
        rfl
      show [_, _, some (V.int (((MC.val b (MC.wd wn) i : Nat) : Int) + Builtin.bitAnd ((wn : Int) / 2 ^ MC.cts (MC.wd wn) (lwN b i)) 1 * (b : Int) * 2 ^ i)), _, _] = _
      rw [ev]
    · rintro σ H2 ⟨S2, u, v, rfl⟩
      rw [ql]
      exact ⟨_, rfl, k _ (S1.trans S2)⟩
end
end K33
namespace K33
open PySem PySem.Spec PyProof.Rows L2 OB SkE
/-- what a word means, as a value -/
def mv : Option Nat → V
  | none => .non
  | some n => .int (n : Int)
/-- .. as an item of a text -/
def mtx : Option Nat → Str
  | none => "-"
  | some n => ds n
/-- .. as data -/
def md : Option Nat → PyData
  | none => .none
  | some n => .int (n : Int)
def layText (b : Nat) (ms : List (Option Nat)) : Str := Txt.join " " (ds b :: ms.map mtx)
structure LayOk (b : Nat) (ms : List (Option Nat)) : Prop where
  b1 : 1 ≤ b
  b8 : b ≤ 8
  len : ms.length = 2 ^ b
  small : ∀ n, some n ∈ ms → n ≤ 63
theorem pow8 {b : Nat} (h : b ≤ 8) : 2 ^ b ≤ 256 := Nat.le_trans (Nat.pow_le_pow_right (by decide) h) (by decide)
/-- a layout stands at x -/
def IsLay (H : Hp) (C x : Addr) (b : Nat) (ms : List (Option Nat)) : Prop := ∃ dx fs t, H x = some (.ins C dx fs) ∧ fs.lookup ("bits" : Str) = some (.int (b : Int)) ∧ fs.lookup ("means" : Str) = some (.ref t) ∧ H t = some (.tup (ms.map mv))
theorem IsLay.same {H H' : Hp} {C x : Addr} {b : Nat} {ms : List (Option Nat)} (h : IsLay H C x b ms) (s : Same H H') : IsLay H' C x b ms := by
  obtain ⟨dx, fs, t, h1, h2, h3, h4⟩ := h
  exact ⟨dx, fs, t, s _ _ h1, h2, h3, s _ _ h4⟩
theorem dp_means {K : PySem.W.Frag} {H : Hp} : ∀ ms : List (Option Nat), DpAll K H (ms.map mv) (ms.map md)
  | [] => .nil
  | none :: r => .cons .non (dp_means r)
  | some n :: r => .cons (.int n) (dp_means r)
theorem flat_means : ∀ ms : List (Option Nat), PyData.canLayAll0 (ms.map md) = true ∧ PyData.depthAll (ms.map md) ≤ 1
  | [] => by simp [PyData.canLayAll0, PyData.depthAll]
  | m :: r => by
    obtain ⟨h1, h2⟩ := flat_means r
    cases m <;> simp [md, PyData.canLayAll0, PyData.canLay0, PyData.depthAll, PyData.depth, h1] <;> omega
theorem shaped_means (ms : List (Option Nat)) : SeqAt.shaped (.tuple (ms.map md)) = true := by
  obtain ⟨h1, h2⟩ := flat_means ms
  unfold SeqAt.shaped
  rw [Bool.and_eq_true]
  refine ⟨by simp [PyData.canLay0, h1], decide_eq_true ?_⟩
  simp [PyData.depth]
  omega
theorem eqv_means : ∀ ms ns : List (Option Nat), PyData.eqvAll (ms.map md) (ns.map md) = decide (ms = ns)
  | [], [] => by simp [PyData.eqvAll]
  | [], _ :: _ => by simp [PyData.eqvAll]
  | _ :: _, [] => by simp [PyData.eqvAll]
  | m :: r, n :: s => by
    have ih := eqv_means r s
    have h : PyData.eqv (md m) (md n) = decide (m = n) := by
      cases m with
      | none => cases n <;> simp [md, PyData.eqv]
      | some a =>
        cases n with
        | none => simp [md, PyData.eqv]
        | some c =>
          show ((a : Int) == (c : Int)) = decide (some a = some c)
          by_cases z : a = c
          · simp [z]
          · rw [decide_eq_false (by simpa using z)]
            exact beq_false_of_ne (by omega)
    simp only [List.map_cons, PyData.eqvAll, ih, h, List.cons.injEq]
    by_cases h1 : m = n <;> by_cases h2 : r = s <;> simp [h1, h2]
theorem eqv_tup (ms ns : List (Option Nat)) : PyData.eqv (.tuple (ms.map md)) (.tuple (ns.map md)) = decide (ms = ns) := by
  rw [← eqv_means]
  simp [PyData.eqv]
def spLayInit (C : Addr) : Sp := fun vs H Q _ => ∃ (p dx q : Addr) (b : Nat) (ms : List (Option Nat)), vs = [.ref p, .int (b : Int), .ref q] ∧ LayOk b ms ∧ (H q = some (.lst (ms.map mv)) ∨ H q = some (.tup (ms.map mv))) ∧ H p = some (.ins C dx []) ∧
  ∀ H', IsLay H' C p b ms → (∀ a o, H a = some o → a ≠ p → H' a = some o) → Q .non H'
def spLayEq (K : PySem.W.Frag) (C : Addr) : Sp := fun vs H Q _ => ∃ (x : Addr) (y : V) (b : Nat) (ms : List (Option Nat)), vs = [.ref x, y] ∧ IsLay H C x b ms ∧
  ((∃ y' b' ns, y = .ref y' ∧ IsLay H C y' b' ns ∧ Q (.bl (decide (b = b' ∧ ms = ns))) H) ∨ (NotO K C H y ∧ Q (.bl false) H))
def spLayStr (C : Addr) : Sp := fun vs H Q _ => ∃ (x : Addr) (b : Nat) (ms : List (Option Nat)), vs = [.ref x] ∧ IsLay H C x b ms ∧ LayOk b ms ∧ ∀ H', Same H H' → Q (.str (layText b ms)) H'
def spLayRead (C : Addr) : Sp := fun vs H Q _ => ∃ (b : Nat) (ms : List (Option Nat)), vs = [.str (layText b ms)] ∧ LayOk b ms ∧ ∀ x H', H x = none → Same H H' → IsLay H' C x b ms → Q (.ref x) H'
def spIsMean (K : PySem.W.Frag) : Sp := fun vs H Q _ => ∃ (x : V) (b : Bool), vs = [x] ∧ IsI K H x b ∧ Q (.bl (decide (x = .non) || (b && inB (some 0) (some 63) x))) H
def spMeanAt : Sp := fun vs H Q _ => ∃ (q : Addr) (ys : List Str) (i : Nat) (m : Option Nat), vs = [.ref q, .int (i : Int)] ∧ H q = some (.lst (ys.map V.str)) ∧ ys[i]? = some (mtx m) ∧ (∀ n, m = some n → n ≤ 63) ∧ Q (mv m) H
/-- a layout is made: what __init__ is asked -/
theorem make_lay {C x dx D : Addr} {b : Nat} {ms : List (Option Nat)} {H1 : Hp} {R : Hp → Prop} {E : XK} (ok : LayOk b ms) (hD : H1 D = some (.lst (ms.map mv)) ∨ H1 D = some (.tup (ms.map mv))) (nx : H1 x = none) (ndx : H1 dx = none)
    (k : ∀ H3, Same H1 H3 → IsLay H3 C x b ms → R H3) : spLayInit C [.ref x, .int (b : Int), .ref D] (upd (upd H1 dx (.own x)) x (.ins C dx [])) (fun v H2 => v = .non ∧ R H2) E := by
  have old : ∀ a o, H1 a = some o → (upd (upd H1 dx (.own x)) x (.ins C dx [])) a = some o := fun a o e => by
    rw [upd_ne (ne_of_none e nx), upd_ne (ne_of_none e ndx)]
    exact e
  exact ⟨x, dx, D, b, ms, rfl, ok, hD.elim (fun h => .inl (old _ _ h)) (fun h => .inr (old _ _ h)), upd_same, fun H3 hl keep => ⟨rfl, k H3 (fun a o e => keep a o (old a o e) (ne_of_none e nx)) hl⟩⟩
theorem IsLay.but {H H' : Hp} {C x p : Addr} {b : Nat} {ms : List (Option Nat)} {xs : List V} (h : IsLay H C x b ms) (s : But p H H') (hp : H p = some (.lst xs)) : IsLay H' C x b ms := by
  obtain ⟨dx, fs, t, h1, h2, h3, h4⟩ := h
  exact ⟨dx, fs, t, s _ _ h1 (ne_of h1 hp (by intro z; cases z)), h2, h3, s _ _ h4 (ne_of h4 hp (by intro z; cases z))⟩
theorem ne_lay {K : PySem.W.Frag} {C x y : Addr} {b b' : Nat} {ms ns : List (Option Nat)} {H : Hp} {Q : VK} {E : XK} (hx : IsLay H C x b ms) (hy : IsLay H C y b' ns) (k : Q (.bl (!decide (b = b' ∧ ms = ns))) H) : rNeO K C (spLayEq K C) E (.ref x) (.ref y) H Q := by
  obtain ⟨dx, fs, t, h1, _⟩ := id hx
  obtain ⟨dy, gs, u, g1, _⟩ := id hy
  exact ⟨x, dx, fs, rfl, h1, .inl ⟨y, dy, gs, rfl, g1⟩, x, .ref y, b, ms, rfl, hx, .inl ⟨y, b', ns, rfl, hy, _, rfl, k⟩⟩
theorem eq_lay {K : PySem.W.Frag} {C x y : Addr} {b b' : Nat} {ms ns : List (Option Nat)} {H : Hp} {Q : VK} {E : XK} (hx : IsLay H C x b ms) (hy : IsLay H C y b' ns) (k : Q (.bl (decide (b = b' ∧ ms = ns))) H) : rEqO K C (spLayEq K C) E (.ref x) (.ref y) H Q := by
  obtain ⟨dx, fs, t, h1, _⟩ := id hx
  obtain ⟨dy, gs, u, g1, _⟩ := id hy
  exact ⟨x, dx, fs, rfl, h1, .inl ⟨y, dy, gs, rfl, g1⟩, x, .ref y, b, ms, rfl, hx, .inl ⟨y, b', ns, rfl, hy, _, rfl, k⟩⟩
theorem ne_same {b : Nat} {ms : List (Option Nat)} : (!decide (b = b ∧ ms = ms)) = false := by simp
section
variable {P : Program} {w : World} {K : PySem.W.Frag} {mg : Str → Option Value} {base : Heap}
/-- whatever is laid anew, it is a list or a tuple, or none -/
def EvL (K : PySem.W.Frag) (H : Hp) (x : V) (b : Bool) : Prop := ∀ H', Same H H' → IsL K H' x b
def EvI (K : PySem.W.Frag) (H : Hp) (x : V) (b : Bool) : Prop := ∀ H', Same H H' → IsI K H' x b
def spIsList (K : PySem.W.Frag) : Sp := fun vs H Q _ => ∃ (x : V) (b : Bool), vs = [x] ∧ EvL K H x b ∧ ∀ H', Same H H' → Q (.bl b) H'
theorem sc_is_list : FnScope ["value"] ["value"] (defScope s_is_list) := ⟨rfl, rfl, rfl, by decide +kernel, rfl, by decide +kernel, by decide +kernel⟩
theorem ok_is_list {f : Addr} {fd : FuncData} (F : Fun K "is_list" "is_list" s_is_list f fd) (T : Blt mg) : FnOk P w K mg base CX0 1 f fd ["value"] (spIsList K) := by
  refine F.ok sc_is_list (fun vs H Q E h => ?_) (fun cdv A outer s H vs Q E hr h => ?_)
  · obtain ⟨x, b, rfl, _⟩ := h
    rfl
  · obtain ⟨x, b, rfl, hL, k⟩ := h
    refine ⟨_, (pss_one (ps_ret (pe_callB call_isiT (by rfl) T.n_isinstance (by decide +kernel) (pa_cons (pv 0) (pa_cons (pe_tup (pa_cons (pe_bltn (v := .ty "list") (by rfl) T.n_list (by decide +kernel) rfl) (pa_cons (pe_bltn (v := .ty "tuple") (by rfl) T.n_tuple (by decide +kernel) rfl) pa_nil))) pa_nil))))), ?_⟩
    refine ⟨_, rfl, (by show 2 ≤ sizeLine; decide), fun t ht => ?_⟩
    have S := same_new (o := .tup [.ty "list", .ty "tuple"]) ht
    obtain ⟨ty, hty, hk⟩ := isL_any (hL _ S)
    exact ⟨_, t, _, ty, _, b, rfl, upd_same, .cons (.ty _) (.cons (.ty _) .nil), hty, hk, k _ S⟩
theorem sc__is_meaning : FnScope ["value"] ["value"] (defScope s__is_meaning) := ⟨rfl, rfl, rfl, by decide +kernel, rfl, by decide +kernel, by decide +kernel⟩
abbrev N__is_meaning : List Str := ["value"]
theorem ok__is_meaning {f f1 f2 : Addr} {fd fd1 fd2 : FuncData} (F : Fun K "_is_meaning" "_is_meaning" s__is_meaning f fd) (T : Blt mg) (D_is_within : Df K mg "is_within" s_is_within ["value", "least", "most"] f1 fd1) (D_is_integer : Df K mg "is_integer" s_is_integer ["value"] f2 fd2) : FnOk P w K mg base CX0 3 f fd ["value"] (spIsMean K) := by
  have G_is_within : FnOk P w K mg base CX0 2 f1 fd1 ["value", "least", "most"] (spWithin K) := ok_is_within D_is_within.F D_is_integer T
  refine F.ok sc__is_meaning (fun vs H Q E h => ?_) (fun cdv A outer s H vs Q E hr h => ?_)
  · obtain ⟨x, b, rfl, _⟩ := h
    rfl
  · obtain ⟨x, b, rfl, hI, k⟩ := h
    refine ⟨_, (pss_one (ps_ret (pe_or (pe_cmpR op_isN (pv 0) pe_non (nomark _)) (pe_one (pe_call G_is_within (hr.mono (by decide)) (by rfl) D_is_within.g D_is_within.F.kp D_is_within.b .nil pass0 (pa_cons (pv 0) (pa_cons pe_int (pa_cons (pe_glob (v := .int 63) rfl T.g_MOST_STATE.choose_spec ⟨_, rfl⟩) pa_nil)))))))), ?_⟩
    refine ⟨_, rfl, rfl, _, rfl, ?_⟩
    refine iteB (fun c => ?_) (fun c => ?_)
    · rw [c, Bool.true_or] at k
      exact k
    · rw [c, Bool.false_or] at k
      exact ⟨_, rfl, x, some 0, some 63, b, rfl, hI, k⟩
theorem sc_Layout_init : FnScope ["self", "bits", "means", "item"] ["self", "bits", "means"] (defScope s_Layout_init) := ⟨rfl, rfl, rfl, by decide +kernel, rfl, by decide +kernel, by decide +kernel⟩
abbrev N_Layout_init : List Str := ["self", "bits", "means", "item"]
theorem lay_all {K : PySem.W.Frag} {H : Hp} {b : Nat} {ms : List (Option Nat)} (ok : LayOk b ms) {i : Nat} {x : V} (h : (ms.map mv)[i]? = some x) : ∃ c, IsI K H x c ∧ (decide (x = .non) || (c && inB (some 0) (some 63) x)) = true := by
  rw [List.getElem?_map] at h
  cases e : ms[i]? with
  | none => rw [e] at h; cases h
  | some m =>
    rw [e] at h
    cases h
    cases m with
    | none => exact ⟨false, isI_non, by decide⟩
    | some n =>
      have := ok.small n (List.mem_of_getElem? e)
      refine ⟨true, isI_int _, ?_⟩
      show (decide (V.int (n : Int) = .non) || (true && inB (some 0) (some 63) (.int (n : Int)))) = true
      rw [in_bounds (by omega) (by omega), Bool.or_true]
theorem ok_Layout_init {f f1 f2 f3 f4 C : Addr} {fd fd1 fd2 fd3 fd4 : FuncData} (F : Fun K "__init__" "Layout.__init__" s_Layout_init f fd) (T : Blt mg) (O_Layout : OwnC K mg "Layout" C f) (n1 : NoAttr K C "bits") (n2 : NoAttr K C "means") (D_is_within : Df K mg "is_within" s_is_within ["value", "least", "most"] f1 fd1) (D_is_integer : Df K mg "is_integer" s_is_integer ["value"] f2 fd2) (D_is_list : Df K mg "is_list" s_is_list ["value"] f3 fd3) (D__is_meaning : Df K mg "_is_meaning" s__is_meaning ["value"] f4 fd4) :
    FnOk P w K mg base CX0 4 f fd ["self", "bits", "means"] (spLayInit C) := by
  have G_is_within : FnOk P w K mg base CX0 2 f1 fd1 ["value", "least", "most"] (spWithin K) := ok_is_within D_is_within.F D_is_integer T
  have G_is_list : FnOk P w K mg base CX0 1 f3 fd3 ["value"] (spIsList K) := ok_is_list D_is_list.F T
  have G__is_meaning : FnOk P w K mg base CX0 3 f4 fd4 ["value"] (spIsMean K) := ok__is_meaning D__is_meaning.F T D_is_within D_is_integer
  refine F.ok sc_Layout_init (fun vs H Q E h => ?_) (fun cdv A outer s H vs Q E hr h => ?_)
  · obtain ⟨p, dx, q, b, ms, rfl, _⟩ := h
    rfl
  · obtain ⟨p, dx, q, b, ms, rfl, ok, hq, hp, k⟩ := h
    have b1 := ok.b1
    have b8 := ok.b8
    have hlen : (ms.map mv).length = 2 ^ b := by rw [List.length_map]; exact ok.len
    have p8 := pow8 b8
    refine ⟨_, (pss_cons (ps_if (pt_not (pt_val (pe_call G_is_within (hr.mono (by decide)) (by rfl) D_is_within.g D_is_within.F.kp D_is_within.b .nil pass0 (pa_cons (pv 1) (pa_cons pe_int (pa_cons (pe_glob (v := .int 8) rfl T.g_MOST_BITS.choose_spec ⟨_, rfl⟩) pa_nil)))))) (pss_one ps_never) pss_nil)
  (pss_cons (ps_if (PW.pt (pw_or (pt_not (pt_val (pe_call G_is_list (hr.mono (by decide)) (by rfl) D_is_list.g D_is_list.F.kp D_is_list.b .nil pass0 (pa_cons (pv 2) pa_nil)))) (pw_or (pt_cmpR op_ne (pe_callB call_len_seq (by rfl) T.n_len (by decide +kernel) (pa_cons (pv 2) pa_nil)) (pe_op op_oneN pe_int (pv 1)) (nomark _)) (pw_or1 (pt_not (pt_val (pe_callB (cr_all rfl) (by rfl) T.n_all (by decide +kernel) (pa_cons (pe_lc (own := [("item", 3)]) (g := (gName 3)) (tt := tYes) rfl sc_Layout_init.nd (pi_seqA (pv 2)) (blkOk_by (N := N_Layout_init) (own := [("item", 3)]) (sc := defScope s_Layout_init) (by decide +kernel)) (fun _ _ _ _ _ => (pg_name (i := 3) sc_Layout_init.nd rfl (Or.inl rfl))) (fun _ _ _ _ _ => pts_nil) (fun _ _ _ _ _ => (pe_call G__is_meaning (hr.mono (by decide)) (by rfl) D__is_meaning.g D__is_meaning.F.kp D__is_meaning.b .nil pass0 (pa_cons (pv 3) pa_nil)))) pa_nil)))))))) (pss_one ps_never) pss_nil)
  (pss_cons (ps_fld (pv 0) (pv 1) rfl)
  (pss_one (ps_fld (pv 0) (pe_callTy call_tuple_of (by rfl) T.n_tuple (by decide +kernel) (pa_cons (pv 2) pa_nil)) rfl))))), ?_⟩
    refine ⟨_, rfl, _, some 1, some 8, true, rfl, isI_int _, _, rfl, ?_⟩
    rw [in_bounds (show (1 : Int) ≤ (b : Int) by omega) (show (b : Int) ≤ 8 by omega)]
    refine iteF ?_
    have hL : EvL K H (.ref q) true := fun H' S => hq.elim (fun h => isL_lst (S _ _ h)) fun h => isL_tup (S _ _ h)
    refine ⟨_, rfl, _, true, rfl, hL, fun H1 S1 => ⟨_, rfl, iteF ?_⟩⟩
    have hq1 : SqL K H1 q (ms.map mv) ∨ SqT K H1 q (ms.map mv) := hq.elim (fun h => .inl (SqL.of (S1 _ _ h))) fun h => .inr (SqT.of (S1 _ _ h))
    refine ⟨_, rfl, q, _, rfl, hq1, _, rfl, b, rfl, rfl, by omega, rfl, _, rfl, ?_⟩
    rw [hlen]
    refine iteB (fun c => absurd c (by simp)) (fun _ => ?_)
    refine ⟨_, rfl, q, rfl, lc_seqA hq1 (fun D i H' => Same H1 H' ∧ H' D = some (.lst (List.replicate i (V.bl true)))) (fun D hD => ⟨same_new hD, upd_same⟩) (fun D i H' _ _ h => h.1) ?_ ?_⟩
    · rintro D i x H' hD hx ⟨S2, hl⟩
      obtain ⟨c, hI, e⟩ := lay_all (K := K) (H := H') ok hx
      have hi := (List.getElem?_eq_some_iff.mp hx).1
      refine ⟨rfl, _, rfl, x, c, rfl, hI, _, hl, by rw [List.length_replicate, sizeLine_eq]; omega, fun a o ea => ?_, ?_⟩
      · rw [upd_ne (ne_of_none ea hD)]
        exact S2 a o ea
      · rw [upd_same, e, List.replicate_succ']
    · rintro D H2 hD ⟨S2, hl⟩
      refine ⟨D, List.replicate (ms.map mv).length true, rfl, SqL.of (by rw [List.map_replicate]; exact hl), _, rfl, ?_⟩
      rw [show (List.replicate (ms.map mv).length true).all id = true by simp]
      refine iteF ?_
      have S := S1.trans S2
      refine ⟨_, rfl, _, rfl, p, C, dx, [], rfl, S _ _ hp, O_Layout.cl, n1, (by show 0 < 1000; decide), ?_⟩
      have npq : q ≠ p := by
        rcases hq with h | h
        · exact ne_of h hp (by intro z; cases z)
        · exact ne_of h hp (by intro z; cases z)
      have fin : ∀ (H3 : Hp) (t : Addr), (∀ a o, H a = some o → a ≠ p → H3 a = some o) → H3 t = some (.tup (ms.map mv)) → t ≠ p → Q .non (upd H3 p (.ins C dx (putF ("means" : Str) (.ref t) (putF ("bits" : Str) (.int (b : Int)) [])))) := fun H3 t keep ht hn => by
        refine k _ ⟨dx, _, t, upd_same, ?_, ?_, ?_⟩ fun a o e na => ?_
        · rfl
        · rfl
        · rw [upd_ne hn]
          exact ht
        · rw [upd_ne na]
          exact keep a o e na
      have few : (putF ("bits" : Str) (V.int (b : Int)) []).length < 1000 := by show 1 < 1000; decide
      have keep : ∀ a o, H a = some o → a ≠ p → (upd H2 p (.ins C dx (putF ("bits" : Str) (V.int (b : Int)) []))) a = some o := fun a o e na => by
        rw [upd_ne na]
        exact S a o e
      rcases hq with hq | hq
      · refine ⟨_, rfl, q, _, rfl, .inl ⟨SqL.of (keep _ _ hq npq), fun l hl => ?_⟩⟩
        have nlp : p ≠ l := ne_of_none upd_same hl
        refine ⟨_, rfl, p, C, dx, _, rfl, ?_, O_Layout.cl, n2, few, ?_⟩
        · rw [upd_ne nlp, upd_same]
        · refine fin _ l (fun a o e na => ?_) upd_same nlp.symm
          rw [upd_ne (ne_of_none (keep a o e na) hl)]
          exact keep a o e na
      · refine ⟨_, rfl, q, _, rfl, .inr ⟨SqT.of (keep _ _ hq npq), ?_⟩⟩
        exact ⟨_, rfl, p, C, dx, _, rfl, upd_same, O_Layout.cl, n2, few, fin _ q keep (keep _ _ hq npq) npq⟩
theorem sc_Layout_eq : FnScope ["self", "other"] ["self", "other"] (defScope s_Layout_eq) := ⟨rfl, rfl, rfl, by decide +kernel, rfl, by decide +kernel, by decide +kernel⟩
abbrev N_Layout_eq : List Str := ["self", "other"]
theorem ok_Layout_eq {f fI C : Addr} {fd : FuncData} (F : Fun K "__eq__" "Layout.__eq__" s_Layout_eq f fd) (T : Blt mg) (O_Layout : OwnC K mg "Layout" C fI) (n1 : NoAttr K C "bits") (n2 : NoAttr K C "means") : FnOk P w K mg base CX0 1 f fd ["self", "other"] (spLayEq K C) := by
  refine F.ok sc_Layout_eq (fun vs H Q E h => ?_) (fun cdv A outer s H vs Q E hr h => ?_)
  · obtain ⟨x, y, b, ms, rfl, _⟩ := h
    rfl
  · obtain ⟨x, y, b, ms, rfl, hx, h⟩ := h
    refine ⟨_, (pss_one (ps_ret (pe_and (pe_callB call_isi (by rfl) T.n_isinstance (by decide +kernel) (pa_cons (pv 1) (pa_cons (pe_glob (v := .ref _) (by rfl) O_Layout.g rfl) pa_nil))) (pe_and (pe_cmpR op_eq (pe_fld (pv 0) rfl) (pe_fld (pv 1) rfl) (nomark _)) (pe_one (pe_cmpR (op_eqD hr.units) (pe_fld (pv 0) rfl) (pe_fld (pv 1) rfl) (nomark _))))))), ?_⟩
    rcases h with ⟨y', b', ns, rfl, hy, k⟩ | ⟨⟨t, ty, ht⟩, k⟩
    · obtain ⟨dx, fs, t, h1, h2, h3, h4⟩ := hx
      obtain ⟨dy, gs, u, g1, g2, g3, g4⟩ := hy
      refine ⟨_, rfl, _, .ref C, .ref C, .ref C, true, rfl, .own C, O_Layout.ty g1, O_Layout.self, true, rfl, ?_⟩
      refine iteT ?_
      refine ⟨_, rfl, x, C, dx, _, _, rfl, h1, O_Layout.cl, n1, h2, _, rfl, y', C, dy, _, _, rfl, g1, O_Layout.cl, n1, g2, rfl, _, rfl, ?_⟩
      refine iteB (fun c => ?_) (fun c => ?_)
      · have e : b = b' := by
          have := V.int.inj (of_decide_eq_true c)
          omega
        refine ⟨_, rfl, x, C, dx, _, _, rfl, h1, O_Layout.cl, n2, h3, _, rfl, y', C, dy, _, _, rfl, g1, O_Layout.cl, n2, g3, ?_⟩
        refine ⟨.tuple (ms.map md), .tuple (ns.map md), Dp.tup (SqT.of h4) (dp_means ms), Dp.tup (SqT.of g4) (dp_means ns), shaped_means ms, shaped_means ns, ?_⟩
        rw [eqv_tup]
        rw [show decide (b = b' ∧ ms = ns) = decide (ms = ns) by simp [e]] at k
        exact k
      · have e : ¬ b = b' := fun z => of_decide_eq_false c (by rw [z])
        rw [show decide (b = b' ∧ ms = ns) = false by simp [e]] at k
        exact k
    · exact ⟨_, rfl, y, .ref C, t, .ref C, false, rfl, .own C, ty, ht, false, rfl, iteF k⟩
end
end K33
namespace K33
open PySem PySem.Spec PyProof.Rows L2 OB SkE LamX
/-- the ones below a place -/
def onesN (f : MC.Wd) (n : Nat) : Nat := ((List.range n).map fun i => (f i).toNat).sum
theorem ones_next (f : MC.Wd) (n : Nat) : onesN f (n + 1) = onesN f n + (f n).toNat := by
  unfold onesN
  rw [List.range_succ, List.map_append, List.sum_append]
  simp
theorem ones_par (f : MC.Wd) : ∀ n, onesN f n % 2 = (MC.par f n).toNat
  | 0 => rfl
  | n + 1 => by
    have ih := ones_par f n
    rw [ones_next]
    show _ = (xor (MC.par f n) (f n)).toNat
    cases h1 : MC.par f n <;> cases h2 : f n <;> rw [h1] at ih <;> simp at ih ⊢ <;> omega
def bitL (w n : Nat) : List Nat := (List.range n).map fun i => (MC.wd w i).toNat
theorem bitL_at {w n i : Nat} (h : i < n) : (bitL w n)[i]? = some (MC.wd w i).toNat := by
  unfold bitL
  rw [List.getElem?_map, List.getElem?_range h]
  rfl
theorem bitL_len (w n : Nat) : (bitL w n).length = n := by
  unfold bitL
  rw [List.length_map, List.length_range]
theorem cut_to (xs : List V) (i : Nat) : cutV xs none (some (i : Int)) = xs.take i := by
  unfold cutV
  have a : HT.sIx xs.length 0 none = 0 := rfl
  have e : HT.sIx xs.length xs.length (some (i : Int)) = min i xs.length := HT.sIx_nat _ _ i
  rw [a, e, List.drop_zero, Nat.sub_zero]
  by_cases h : i ≤ xs.length
  · rw [Nat.min_eq_left h]
  · rw [Nat.min_eq_right (by omega), List.take_length, List.take_of_length_le (by omega)]
theorem sum_cast : ∀ l : List Nat, (l.map fun n : Nat => (n : Int)).sum = ((l.sum : Nat) : Int)
  | [] => rfl
  | a :: r => by
    rw [List.map_cons, List.sum_cons, List.sum_cons, sum_cast r, Int.natCast_add]
def spValue : Sp := fun vs H Q _ => ∃ b d w : Nat, vs = [.int (b : Int), .int (d : Int), .int (w : Int)] ∧ CodeOk b d ∧ ∀ H', Same H H' → Q (.int ((MC.val b (MC.wd w) d : Nat) : Int)) H'
section
variable {P : Program} {w : World} {K : PySem.W.Frag} {mg : Str → Option Value} {base : Heap}
theorem sc__law_value : FnScope ["base", "doubles", "word", "bits", "at", "found", "ones", "double", "lower", "upper"] ["base", "doubles", "word"] (defScope s__law_value) := ⟨rfl, rfl, rfl, by decide +kernel, rfl, by decide +kernel, by decide +kernel⟩
abbrev N__law_value : List Str := ["base", "doubles", "word", "bits", "at", "found", "ones", "double", "lower", "upper"]
theorem ok__law_value {f : Addr} {fd : FuncData} (F : Fun K "_law_value" "_law_value" s__law_value f fd) (T : Blt mg) : FnOk P w K mg base CX0 1 f fd ["base", "doubles", "word"] spValue := by
  refine F.ok sc__law_value (fun vs H Q E h => ?_) (fun cdv A outer s H vs Q E hr h => ?_)
  · obtain ⟨b, d, wn, rfl, _⟩ := h
    rfl
  · obtain ⟨b, d, wn, rfl, ok, k⟩ := h
    have hb := two_case ok
    have b2 := ok.b2
    have b3 := ok.b3
    have d1 := ok.d199
    refine ⟨_, (pss_cons (ps_setLc (i := 3) (own := [("at", 4)]) (g := (gName 4)) (tt := tYes) rfl sc__law_value.nd rfl rfl (sw_true rfl rfl rfl (by decide +kernel)) (pi_range1 (by rfl) T.n_range (pa_cons (pe_op op_add (pe_op op_sub (pv 0) pe_int) (pe_op op_mul pe_int (pv 1))) pa_nil)) (blkOk_by (N := N__law_value) (own := [("at", 4)]) (sc := defScope s__law_value) (by decide +kernel)) (fun _ _ _ _ _ => (pg_name (i := 4) sc__law_value.nd rfl (Or.inl rfl))) (fun _ _ _ _ _ => pts_nil) (fun _ _ _ _ _ => (pe_op op_and (pe_op op_shrN (pv 2) (pv 4)) pe_int)))
  (C8.pss_cut (ps_set (i := 5) sc__law_value.nd rfl (Or.inl rfl) (pe_ifExp (pt_cmpR op_eq (pv 0) pe_int (nomark _)) (pe_ix ix_list (pv 3) pe_int (fun _ _ => rfl)) (pe_ix ix_list (pe_lst (pa_cons pe_int (pa_cons pe_int (pa_cons pe_int (pa_cons pe_int pa_nil))))) (pe_op op_add (pe_ix ix_list (pv 3) pe_int (fun _ _ => rfl)) (pe_op op_mul pe_int (pe_ix ix_list (pv 3) pe_int (fun _ _ => rfl)))) (fun _ _ => rfl))))
  (C8.pss_cut (ps_set (i := 6) sc__law_value.nd rfl (Or.inl rfl) (pe_callB (cr_sum rfl) (by rfl) T.n_sum (by decide +kernel) (pa_cons (pe_slice sl_list (pv 3) po_none (po_some (pe_op op_sub (pv 0) pe_int))) pa_nil)))
  (pss_cons (ps_for PassesOwn.never rfl (pi_range1 (by rfl) T.n_range (pa_cons (pv 1) pa_nil)) (pg_name (i := 7) sc__law_value.nd rfl (Or.inl rfl)) (pss_cons (ps_par (i := 8) (j := 9) (by rfl) sc__law_value.nd rfl rfl (by decide) rfl rfl (pa_cons (pe_ix ix_list (pv 3) (pe_op op_add (pe_op op_sub (pv 0) pe_int) (pe_op op_mul pe_int (pv 7))) (fun _ _ => rfl)) (pa_cons (pe_ix ix_list (pv 3) (pe_op op_add (pv 0) (pe_op op_mul pe_int (pv 7))) (fun _ _ => rfl)) pa_nil)) (by rfl))
  (pss_cons (ps_set (i := 5) sc__law_value.nd rfl (Or.inl rfl) (pe_op op_add (pv 5) (pe_op op_mul (pe_op op_mul (pe_ifExp (pt_cmpR op_eq (pe_op op_mod (pe_callTy call_int1 (by rfl) T.n_int (by decide +kernel) (pa_cons (pv 6) pa_nil)) pe_int) pe_int (nomark _)) (pv 9) (pv 8)) (pv 0)) (pe_op op_oneN pe_int (pv 7)))))
  (pss_one (ps_set (i := 6) sc__law_value.nd rfl (Or.inl rfl) (pe_op op_add (pe_op op_add (pv 6) (pv 8)) (pv 9)))))))
  (pss_one (ps_ret (pv 5))))))), ?_⟩
    refine ⟨_, rfl, _, _, rfl, rfl, _, rfl, _, _, rfl, rfl, .inl ⟨by decide, by decide⟩, _, _, rfl, rfl, _, rfl, by omega, by omega, fun D hD => ?_⟩
    rw [show ((b : Int) - 1 + 2 * (d : Int)).toNat = b - 1 + 2 * d by omega]
    refine lc_range (n := b - 1 + 2 * d) (fun i H' => Same H H' ∧ H' D = some (.lst (nV (bitL wn i)))) ⟨same_new hD, upd_same⟩ ?_ ?_
    · rintro i H' hi ⟨S1, D1⟩
      refine ⟨rfl, _, rfl, _, rfl, _, i, rfl, congrArg V.int (Int.zero_add _), _, _, rfl, rfl, _, D1, ?_, fun a o e => ?_, ?_⟩
      · rw [nV_len, bitL_len, sizeLine_eq]
        omega
      · rw [upd_ne (ne_of_none e hD)]
        exact S1 a o e
      · rw [upd_same]
        show some (HO.lst (nV (bitL wn i) ++ [V.int (Builtin.bitAnd ((wn : Int) / 2 ^ i) 1)])) = _
        rw [bit_is]
        unfold bitL nV
        rw [List.range_succ, List.map_append, List.map_append]
        rfl
    rintro H1 ⟨S1, D1⟩
    have bitAt : ∀ {i : Nat}, i < b - 1 + 2 * d → atI (nV (bitL wn (b - 1 + 2 * d))) (i : Int) = some (.int ((MC.wd wn i).toNat : Int)) := fun h => atI_nat (nV_at (bitL_at h))
    have nl : (nV (bitL wn (b - 1 + 2 * d))).length = b - 1 + 2 * d := by rw [nV_len, bitL_len]
    refine ⟨fun σ' H' => σ' = [some (.int (b : Int)), some (.int (d : Int)), some (.int (wn : Int)), some (.ref D), none, some (.int ((MC.val b (MC.wd wn) 0 : Nat) : Int)), none, none, none, none] ∧ Same H1 H', ?_, ?_⟩
    · rcases hb with rfl | rfl
      · refine ⟨_, rfl, rfl, _, rfl, iteT ?_⟩
        refine ⟨_, rfl, D, _, _, _, rfl, rfl, SqL.of D1, bitAt (i := 0) (by omega), ?_, fun _ _ e => e⟩
        show [_, _, _, _, none, some (V.int ((MC.wd wn 0).toNat : Int)), none, none, none, none] = _
        rfl
      · refine ⟨_, rfl, rfl, _, rfl, iteF ?_⟩
        refine ⟨by show 4 ≤ sizeLine; decide, fun l hl => ?_⟩
        have S2 := same_new (o := .lst [V.int 0, .int 0, .int 1, .int 2]) hl
        have D2 := S2 _ _ D1
        refine ⟨_, rfl, D, _, _, _, rfl, rfl, SqL.of D2, bitAt (i := 0) (by omega), _, rfl, D, _, _, _, rfl, rfl, SqL.of D2, bitAt (i := 1) (by omega), _, _, rfl, rfl, .inl ⟨by decide, by decide⟩, _, _, rfl, rfl, ?_⟩
        have e : atI [V.int 0, .int 0, .int 1, .int 2] (((MC.wd wn 0).toNat : Int) + 2 * ((MC.wd wn 1).toNat : Int)) = some (V.int ((MC.val 3 (MC.wd wn) 0 : Nat) : Int)) := by
          unfold MC.val MC.bv
          rw [if_neg (show ¬ 3 = 2 by decide)]
          cases MC.wd wn 0 <;> cases MC.wd wn 1 <;> rfl
        exact ⟨l, _, _, _, rfl, rfl, SqL.of upd_same, e, rfl, S2⟩
    rintro σ' H2 ⟨rfl, S2⟩
    have D2 := S2 _ _ D1
    refine ⟨fun σ' H' => σ' = [some (.int (b : Int)), some (.int (d : Int)), some (.int (wn : Int)), some (.ref D), none, some (.int ((MC.val b (MC.wd wn) 0 : Nat) : Int)), some (.int ((onesN (MC.wd wn) (lwN b 0) : Nat) : Int)), none, none, none] ∧ Same H2 H', ?_, ?_⟩
    · refine ⟨_, rfl, _, rfl, _, _, rfl, rfl, _, rfl, D, _, rfl, SqL.of D2, fun l hl => ?_⟩
      have ec : cutV (nV (bitL wn (b - 1 + 2 * d))) none (some ((b : Int) - 1)) = nV (bitL wn (b - 1)) := by
        rw [show (b : Int) - 1 = ((b - 1 : Nat) : Int) by omega, cut_to]
        unfold nV bitL
        rw [← List.map_take, ← List.map_take, List.take_range, Nat.min_eq_left (by omega)]
      rw [ec]
      have S3 := same_new (o := .lst (nV (bitL wn (b - 1)))) hl
      refine ⟨l, (bitL wn (b - 1)).map fun n : Nat => (n : Int), rfl, SqL.of ?_, ?_, S3⟩
      · rw [upd_same, List.map_map]
        rfl
      · show [_, _, _, _, none, _, some (V.int (((bitL wn (b - 1)).map fun n : Nat => (n : Int)).sum)), none, none, none] = _
        rw [sum_cast]
        rfl
    rintro σ' H3 ⟨rfl, S3⟩
    refine ⟨_, rfl, _, rfl, by omega, by omega, ?_⟩
    rw [Int.toNat_natCast]
    refine for_range (lo := 0) (n := d) (fun j σ H' => Same H3 H' ∧ ∃ u v x : Option V, σ = [some (.int (b : Int)), some (.int (d : Int)), some (.int (wn : Int)), some (.ref D), none, some (.int ((MC.val b (MC.wd wn) j : Nat) : Int)), some (.int ((onesN (MC.wd wn) (lwN b j) : Nat) : Int)), u, v, x]) ⟨fun _ _ e => e, none, none, none, rfl⟩ ?_ ?_
    · rintro j σ H4 hj ⟨S4, u, v, x, rfl⟩
      have D4 := S4 _ _ (S3 _ _ D2)
      have a1 : atI (nV (bitL wn (b - 1 + 2 * d))) ((b : Int) - 1 + 2 * (0 + (j : Int))) = some (.int ((MC.wd wn (lwN b j)).toNat : Int)) := by
        rw [show (b : Int) - 1 + 2 * (0 + (j : Int)) = ((lwN b j : Nat) : Int) by unfold lwN; omega]
        exact bitAt (by unfold lwN; omega)
      have a2 : atI (nV (bitL wn (b - 1 + 2 * d))) ((b : Int) + 2 * (0 + (j : Int))) = some (.int ((MC.wd wn (lwN b j + 1)).toNat : Int)) := by
        rw [show (b : Int) + 2 * (0 + (j : Int)) = ((lwN b j + 1 : Nat) : Int) by unfold lwN; omega]
        exact bitAt (by unfold lwN; omega)
      refine ⟨_, rfl, _, rfl, _, _, rfl, rfl, _, rfl, _, _, rfl, rfl, .inl ⟨by decide, by decide⟩, _, _, rfl, rfl, D, _, _, _, rfl, rfl, SqL.of D4, a1, _, rfl, _, rfl, _, rfl, _, _, rfl, rfl, .inl ⟨by decide, by decide⟩, _, _, rfl, rfl, D, _, _, _, rfl, rfl, SqL.of D4, a2, ?_⟩
      have po := ones_par (MC.wd wn) (lwN b j)
      have nx := ones_next (MC.wd wn) (lwN b j)
      have nx2 := ones_next (MC.wd wn) (lwN b j + 1)
      have en : onesN (MC.wd wn) (lwN b (j + 1)) = onesN (MC.wd wn) (lwN b j) + (MC.wd wn (lwN b j)).toNat + (MC.wd wn (lwN b j + 1)).toNat := by
        rw [show lwN b (j + 1) = lwN b j + 1 + 1 by unfold lwN; omega, nx2, nx]
      have ev : MC.val b (MC.wd wn) (j + 1) = MC.val b (MC.wd wn) j + (MC.sel (MC.wd wn) (lwN b j)).toNat * (b * 2 ^ j) := rfl
      have small : ∀ x : Bool, (x.toNat : Int) * (b : Int) ≤ 3 ∧ 0 ≤ (x.toNat : Int) * (b : Int) := fun x => by cases x <;> simp <;> omega
      have fin : ∀ z : Bool, MC.sel (MC.wd wn) (lwN b j) = z → ∀ y : Option V, [some (V.int (b : Int)), some (V.int (d : Int)), some (V.int (wn : Int)), some (V.ref D), none, some (V.int (((MC.val b (MC.wd wn) j : Nat) : Int) + (z.toNat : Int) * (b : Int) * ((2 ^ j : Nat) : Int))), some (V.int (((onesN (MC.wd wn) (lwN b j) : Nat) : Int) + ((MC.wd wn (lwN b j)).toNat : Int) + ((MC.wd wn (lwN b j + 1)).toNat : Int))), some (V.int (0 + (j : Int))), some (V.int ((MC.wd wn (lwN b j)).toNat : Int)), some (V.int ((MC.wd wn (lwN b j + 1)).toNat : Int))] =
          [some (V.int (b : Int)), some (V.int (d : Int)), some (V.int (wn : Int)), some (V.ref D), none, some (V.int ((MC.val b (MC.wd wn) (j + 1) : Nat) : Int)), some (V.int ((onesN (MC.wd wn) (lwN b (j + 1)) : Nat) : Int)), some (V.int (0 + (j : Int))), some (V.int ((MC.wd wn (lwN b j)).toNat : Int)), some (V.int ((MC.wd wn (lwN b j + 1)).toNat : Int))] := fun z hz y => by
        rw [ev, en, hz, Int.natCast_add, Int.natCast_mul, Int.natCast_mul, ← Int.mul_assoc, Int.natCast_add, Int.natCast_add]
      refine ⟨_, _, rfl, ?_⟩
      refine ⟨_, rfl, _, rfl, .inl ⟨_, rfl, _, _, rfl, rfl, (show (0 : Int) < 2 by decide), rfl, _, rfl, ?_⟩⟩
      refine ite2 (fun c => ?_) (fun c => ?_)
      · have hp : MC.par (MC.wd wn) (lwN b j) = false := by
          have c := V.int.inj (of_decide_eq_true c)
          cases h : MC.par (MC.wd wn) (lwN b j) with
          | false => rfl
          | true =>
            rw [h] at po
            simp at po
            omega
        have hs : MC.sel (MC.wd wn) (lwN b j) = MC.wd wn (lwN b j + 1) := by unfold MC.sel; rw [hp]; rfl
        refine ⟨_, rfl, _, rfl, _, _, rfl, rfl, .inr ⟨by omega, by omega⟩, _, rfl, j, rfl, congrArg V.int (Int.zero_add _), by omega, _, _, rfl, rfl, .inl ?_, _, _, rfl, rfl, ?_⟩
        · have := small (MC.wd wn (lwN b j + 1))
          exact ⟨by omega, by omega⟩
        exact ⟨_, rfl, _, rfl, _, _, rfl, rfl, _, rfl, _, _, rfl, rfl, S4, _, _, _, fin _ hs none⟩
      · have hp : MC.par (MC.wd wn) (lwN b j) = true := by
          cases h : MC.par (MC.wd wn) (lwN b j) with
          | true => rfl
          | false =>
            exfalso
            rw [h] at po
            simp at po
            exact c (decide_eq_true (congrArg V.int (by omega)))
        have hs : MC.sel (MC.wd wn) (lwN b j) = MC.wd wn (lwN b j) := by unfold MC.sel; rw [hp]; rfl
        refine ⟨_, rfl, _, rfl, _, _, rfl, rfl, .inr ⟨by omega, by omega⟩, _, rfl, j, rfl, congrArg V.int (Int.zero_add _), by omega, _, _, rfl, rfl, .inl ?_, _, _, rfl, rfl, ?_⟩
        · have := small (MC.wd wn (lwN b j))
          exact ⟨by omega, by omega⟩
        exact ⟨_, rfl, _, rfl, _, _, rfl, rfl, _, rfl, _, _, rfl, rfl, S4, _, _, _, fin _ hs none⟩
    · rintro σ H4 ⟨S4, u, v, x, rfl⟩
      exact ⟨_, rfl, k _ (S1.trans (S2.trans (S3.trans S4)))⟩
end
end K33
/-! f'{n:b}' of a number from 0 on. -/
namespace OB
open PySem PySem.Spec PyProof.Rows L2
def binT (n : Nat) : Str := ⟨((Nat.toDigits 2 n).map fun c => c.toNat).toArray⟩
def spB : Str := Str.ofString "b"
section
open PySem.Builtin PySem.Builtin.Str PySem.Builtin.Int PySem.Builtin.Float
def fsB : FormatSpec := { align := 62, type := some 98 }
theorem fsB_ok : parseFormatSpec spB.cps.toList "int" 62 = .ok fsB := by kernel_rfl
theorem fsB_is : fsB.type = some 98 ∧ fsB.precision = none ∧ fsB.noNeg0 = false ∧ fsB.alt = false ∧ fsB.width = none ∧ fsB.grouping = none ∧ fsB.sign = none ∧ fsB.align = 62 ∧ fsB.fill = 32 := by decide +kernel
variable {prog : Program} {w : World} {A : Around} {E : Value → Shared → Prop} {s : Shared}
theorem digits_ne (n : Nat) : (Nat.toDigits 2 n).map (fun c => c.toNat) ≠ [] := by
  intro z
  have z := List.map_eq_nil_iff.mp z
  have := @Nat.length_toDigits_pos 2 n
  rw [z] at this
  exact absurd this (by decide)
theorem formatField_b {n : Nat} {t : Tok} {Q : Value → Shared → Prop} (hlen : (binT n).length ≤ sizeLine)
    (h : Q (.str (binT n) (s.toks + 1)) { s with toks := s.toks + 1 + 1 }) : wpAny (model prog w) A (formatField (.int (n : Int) t) spB) Q E s := by
  obtain ⟨hty, hpr, hz, hal, hw, hgr, hsg, hali, hfi⟩ := fsB_is
  have hp := fsB_ok
  generalize fsB = f at hty hpr hz hal hw hgr hsg hali hfi hp
  have hne : (spB.length == 0) = false := by decide
  have hasc : ((spB.cps.toList.drop 1).any (· ≥ 128) || (spB.cps.getD 0 0 ≥ 128 && !([60, 62, 61, 94] : List Nat).contains (spB.cps.getD 1 0))) = false := by decide
  show wpAny _ _ (holding [.int (n : Int) t] (pyFormat (.int (n : Int) t) spB)) Q E s
  refine wpAny_holding ?_
  unfold pyFormat
  refine wpAny_bind (wpAny_mkStr ?_ (by decide))
  refine wpAny_bind (m := callSpecial? (.int (n : Int) t) (Str.ofString "__format__") [.str spB s.toks]) (wpAny_callSpecial?_slot (name := Str.ofString "__format__") (typeIs_int _ (n : Int) t) slot_int_format ?_)
  refine wpAny_call (codeAny_call_builtin slot_int_format.plain entry_int_format (slot_int_format.check _ _ _ _ _ _ _ _ (typeIs_int _ (n : Int) t) (args_int_format _ _) ?_))
  unfold Builtin.«int.__format__»
  simp only [selfAndOne, noKeywords, Int.intOfSelf, asInt?, asStr?, List.isEmpty_nil, if_true, pure_bind, bind_pure, bind_assoc, hne, hasc, Bool.false_eq_true, if_false,
    show (Value.str spB s.toks == Value.none) = false from rfl]
  refine wpAny_bind (wpAny_typeNameOf (T := "str") (typeIs_str _ _ _) (by decide) fun _ => ?_)
  first | refine wpAny_bind (wpAny_typeNameOfCut_int ?_) | refine wpAny_bind (wpAny_typeNameOf_int ?_)
  simp only [hp, hty, Option.getD_some]
  rw [if_pos (by decide)]
  show wpAny _ _ (if _ then _ else _) _ _ _
  rw [if_neg (by simp [hpr])]
  show wpAny _ _ (if _ then _ else _) _ _ _
  rw [if_neg (by simp [hz])]
  show wpAny _ _ (if _ then _ else _) _ _ _
  rw [if_neg (by decide)]
  show wpAny _ _ (if _ then _ else _) _ _ _
  rw [if_neg (by decide)]
  show wpAny _ _ (if _ then _ else _) _ _ _
  rw [if_neg (by rw [hw]; decide)]
  have hneg : decide ((n : Int) < 0) = false := decide_eq_false (by omega)
  have key : ∀ z : Str, z = binT n → ∀ {Q' : Value → Shared → Prop} {E'} {s'} {A'}, Q' (.str (binT n) s'.toks) { s' with toks := s'.toks + 1 } → wpAny (model prog w) A' (retStr z) (fun fin s'' => ∃ v, fin = .done (.ret v) ∧ Q' v s'') E' s' := by
    intro z hz Q' E' s' A' hq
    subst hz
    unfold retStr
    exact wpAny_bind (wpAny_mkStr (wpAny_pure ⟨_, rfl, hq⟩) hlen)
  refine wpAny_mono (key _ ?_ (Q' := fun v s'' => v = .str (binT n) (s.toks + 1) ∧ s'' = { s with toks := s.toks + 1 + 1 }) ⟨rfl, rfl⟩) (fun fin s'' hh => ?_) (fun _ _ x => x)
  · simp only [hneg, hal, Bool.false_eq_true, if_false, Int.natAbs_natCast, show ((98 : Nat) == 88) = false from rfl, show ((2 : Nat) == 10) = false from rfl]
    have hd : ((Nat.toDigits 2 n).map fun c => c.toNat).isEmpty = false := by
      cases e : (Nat.toDigits 2 n).map fun c => c.toNat with
      | nil => exact absurd e (digits_ne n)
      | cons a r => rfl
    have z : ∀ k : Nat, ((-1 : Int) - 0 - (k : Int)).toNat = 0 := fun k => by omega
    have z2 : ∀ k : Nat, (0 : Nat) - k = 0 := fun k => by omega
    have z3 : ∀ k : Nat, ((-1 : Int) - (k : Int)).toNat = 0 := fun k => by omega
    clear key h hlen hp hne hasc
    unfold binT
    generalize ((Nat.toDigits 2 n).map fun c => c.toNat) = ds at hd ⊢
    cases f with
    | mk fill align sign noNeg0 alt width grouping precision type =>
      simp only at hgr hw hsg hali hfi hal hty hpr hz
      subst hgr hw hsg hali hfi hal hty hpr hz
      conv => lhs; whnf
      simp [z, z2, z3, hd]
  · obtain ⟨v, rfl, rfl, rfl⟩ := hh
    exact wpAny_bind (wpAny_isInstance (typeIs_str _ _ _) isSubtype_str_str (wpAny_pure h))
end
section
variable {X : Cx}
/-- f'{e:b}' -/
def tFmtB (te : TE) : TE := fun σ H Q => te σ H fun x H1 => ∃ n : Nat, x = .int (n : Int) ∧ (binT n).length ≤ sizeLine ∧ Q (.str (binT n)) H1
theorem pe_fmtB {e : Expr} {te : TE} {k : Nat} {p1 p2 p3 p4 : Pos} (he : PE X e te) : PE X (.JoinedStr [.FormattedValue e (-1) (some (.JoinedStr [.Constant (.str "b") k p1] p2)) p3] p4) (tFmtB te) := by
  refine pe_joined1 ⟨fun pins s σ H Q I h => ?_⟩
  refine wpAny_FormattedValue_spec (thn (he.run pins s σ H _ I h) fun v s1 ⟨x, H1, I1, r1, n, ex, hz, q⟩ => ?_)
  subst ex
  obtain ⟨t, rfl⟩ := r1
  refine thn ((pe_joined1 (pos := p2) (pe_str (X := X) (x := Str.ofString "b") (j := k) (pos := p1))).run pins s1 σ H1 (fun v H' => v = .str spB ∧ H' = H1) I1 ⟨rfl, rfl⟩) fun u s2 ⟨y, H2, I2, r2, e1, e2⟩ => ?_
  subst e1
  rw [e2] at I2
  obtain ⟨t2, rfl⟩ := r2
  exact ⟨spB, t2, rfl, formatField_b hz ⟨.str (binT n), H1, I2.tok _, ⟨_, rfl⟩, q⟩⟩
end
end OB
/-! enumerate of a text, enumerate of a list from its end. -/
namespace OB
open PySem PySem.Spec PyProof.Rows L2
/-- enumerate(text): each sign in a new pair -/
def Ites (x : Str) : It :=
  ⟨fun i _ => i < x.cps.size, fun i H v H' => ∃ T c, v = .ref T ∧ H T = none ∧ x.cps[i]? = some c ∧ H' = upd H T (.tup [.int (i : Nat), .str ⟨#[c]⟩]), fun i _ => x.cps.size ≤ i⟩
theorem turn_enumS {P : Program} {w : World} {K : PySem.W.Frag} {elts : List Expr} {kk : Nat} {tpos : Pos} (x : Str) (t : Tok) (e it : Addr) :
    Turn P w K (.Tuple elts kk tpos) (Ites x) [e, it] e (fun i h => (∃ old, IsEnum h e it ((i : Nat) : Int) old) ∧ h.IsStrIter it (strIterType x) x t i ∧ e ≠ it ∧ i ≤ x.cps.size) where
  mem := by simp
  obj := fun i h st b hb => by
    obtain ⟨⟨old, he⟩, ⟨o, ho, hc, hd⟩, _⟩ := st
    have e' : b = e ∨ b = it := by simpa using hb
    rcases e' with z | z
    · rw [z]; exact ⟨_, he, fun v q => nomatch q⟩
    · rw [z]; exact ⟨o, ho, fun v q => by rw [hd] at q; cases q⟩
  keep := fun i h h' st k => let ⟨⟨old, he⟩, ⟨o, ho, r⟩, hne⟩ := st; ⟨⟨old, k e (by simp) _ he⟩, ⟨o, k it (by simp) o ho, r⟩, hne⟩
  item := by
    intro X hP hw hK hc i pins s σ H E I hf st hg
    subst hP hw hK
    obtain ⟨⟨old, he⟩, hit, hne, hle⟩ := st
    have hg : i < x.cps.size := hg
    have hel : e < s.heap.objs.size := Heap.lt_size he
    have hil : it < s.heap.objs.size := by obtain ⟨_, q, _⟩ := hit; exact Heap.lt_size q
    have D : Draws X.prog X.w X.A.in1 it [it] x.cps.size (fun i v => ∃ c u, x.cps[i]? = some c ∧ v = .str ⟨#[c]⟩ u) (fun i h => h.IsStrIter it (strIterType x) x t i) := by
      unfold strIterType
      split
      · exact Draws.strAscii (A := X.A.in1) (I.ok.hd hc) it x t
      · exact Draws.strWide (A := X.A.in1) (I.ok.hd hc) it x t
    refine wpAny_pyNext_enum_itemD D he hit hg hne (by simpa using hne) fun v h' tk hv ho hit' hT hsz hk => ?_
    obtain ⟨c, u, hcx, rfl⟩ := hv
    refine ⟨_, rfl, wpAny_letOwnedTupleGo_enum (s := { s with heap := h', toks := tk + 1 }) ho fun h'' he' sb => ?_⟩
    have hT2 : h''.get? s.heap.objs.size = some { cls := .type "tuple", data := .seq #[.int i tk, .str ⟨#[c]⟩ u] } := (sb.2 _ (Nat.ne_of_gt hel)).trans hT
    have new : ObjOk X.prog X.w (upd H s.heap.objs.size (.tup [.int (i : Nat), .str ⟨#[c]⟩])) h'' s.heap.objs.size (.tup [.int (i : Nat), .str ⟨#[c]⟩]) :=
      ⟨by show 2 ≤ sizeLine; decide, [.int i tk, .str ⟨#[c]⟩ u], .cons ⟨_, rfl⟩ (.cons ⟨_, rfl⟩ .nil), ⟨_, hT2, rfl, _, rfl⟩⟩
    have I1 : Inv X pins σ (upd H s.heap.objs.size (.tup [.int (i : Nat), .str ⟨#[c]⟩])) { s with heap := h'', toks := tk + 1 } :=
      I.turnedNew (ch := [e, it]) (fun b ob hb q => (sb.2 b (fun z => hb (by simp [z]))).trans (hk b ob (fun z => hb (by simp [z])) (fun z => hb (by simp [z])) q)) hf (Nat.le_refl _) new
    refine ⟨.ref s.heap.objs.size, _, I1, rfl, ⟨_, c, rfl, I.hok.fresh (Nat.le_refl _), hcx, rfl⟩, ⟨⟨.str ⟨#[c]⟩ u, ?_⟩, ?_, hne, hg⟩, fun b hb => ?_⟩
    · have e1 : ((i + 1 : Nat) : Int) = (i : Int) + 1 := by omega
      rw [e1]; exact he'
    · obtain ⟨o, q, r⟩ := hit'
      exact ⟨o, (sb.2 it (Ne.symm hne)).trans q, r⟩
    · have hb' : b < s.heap.objs.size := by
        have e' : b = e ∨ b = it := by simpa using hb
        rcases e' with z | z
        · rw [z]; exact hel
        · rw [z]; exact hil
      rw [upd_ne (Nat.ne_of_lt hb')]
      exact (hf b hb).1
  done := by
    intro X hP hw hK hc i pins s σ H E I hf st hg
    subst hP hw hK
    obtain ⟨⟨old, he⟩, hit, hne, hle⟩ := st
    have hg : x.cps.size ≤ i := hg
    have ei : i = x.cps.size := Nat.le_antisymm hle hg
    subst ei
    obtain ⟨f0, f1, f2, f3, f4, f5⟩ := hf it (by simp)
    have D : Draws X.prog X.w X.A.in1 it [it] x.cps.size (fun i v => ∃ c u, x.cps[i]? = some c ∧ v = .str ⟨#[c]⟩ u) (fun i h => h.IsStrIter it (strIterType x) x t i) := by
      unfold strIterType
      split
      · exact Draws.strAscii (A := X.A.in1) (I.ok.hd hc) it x t
      · exact Draws.strWide (A := X.A.in1) (I.ok.hd hc) it x t
    exact wpAny_pyNext_enum_endD D he hit fun h' eb => ⟨rfl, I.turned (t' := s.toks) (fun b o hb q => eb b o hb q) f0 f1 f3 f4 f5⟩
  self := fun A i s Q E st h => let ⟨⟨_, he⟩, _⟩ := st; wpAny_pyIter_enum he h
def iEnumS (ta : TA) : TI := fun σ H R => ta σ H fun vs H1 => ∃ x, vs = [.str x] ∧ R (Ites x) H1
theorem pi_enumS {X : Cx} {e : Expr} {ta : TA} {p pos tpos : Pos} {elts : List Expr} {kk : Nat} (hg : Gl X "enumerate") (hm : X.mg "enumerate" = none) (ha : PA X [e] ta) (hs : starEach [e] X.env = [(false, eval e X.env)] := by rfl) :
    PI X (.Tuple elts kk tpos) (.Call (.Name "enumerate" p) [e] [] pos) (iEnumS ta) := by
  refine ⟨fun pins s σ H R I h => ?_⟩
  refine Call_ (ld_blt I hg hm boot_enumerate (PyProof.Rows.callWith_type1 (thn (ha.run pos pins s σ H _ I h) fun us s1 ⟨vs, H1, I1, r1, q1⟩ => ?_) hs rfl))
  obtain ⟨x, ex, q⟩ := q1
  subst ex
  cases r1 with
  | cons r rr =>
    cases rr
    obtain ⟨t, rfl⟩ := r
    refine call_enumerate_str fun h' he hit hsz hk => wpAny_pyIter_enum he ?_
    have I2 : Inv X pins σ H1 { s1 with heap := h' } := I1.kept (t' := s1.toks) hk
    refine ⟨s1.heap.objs.size + 1, [s1.heap.objs.size + 1, s1.heap.objs.size], _, _, H1, rfl, I2, turn_enumS x t (s1.heap.objs.size + 1) s1.heap.objs.size, ⟨⟨.none, he⟩, hit, Nat.succ_ne_self _, Nat.zero_le _⟩, fun b hb => ?_, q⟩
    have e' : b = s1.heap.objs.size + 1 ∨ b = s1.heap.objs.size := by simpa using hb
    have hle : s1.heap.objs.size ≤ b := by
      rcases e' with z | z
      · rw [z]; exact Nat.le_add_right _ _
      · rw [z]; exact Nat.le_refl _
    exact I1.fpOk hle (I1.hok.fresh hle)
theorem walk_enumS {x : Str} : Walk (Ites x) x.cps.size (fun _ => True) (YPair (fun i => some (.int (i : Nat))) (fun i => x.cps[i]?.map fun c => .str ⟨#[c]⟩)) := by
  refine ⟨fun i _ hi _ => hi, fun _ _ => Nat.le_refl _, fun i H v H' _ _ y => ?_⟩
  obtain ⟨T, c, h1, h2, h3, h4⟩ := y
  exact ⟨T, .int (i : Nat), .str ⟨#[c]⟩, h1, h2, h4, rfl, by show x.cps[i]?.map _ = _; rw [h3]; rfl⟩
end OB
namespace OB
open PySem PySem.Spec PyProof.Rows L2
open AutoSeq1 (wpAny_loadPart')
section
variable {prog : Program} {w : World} {A : Around} {E : Value → Shared → Prop} {s : Shared}
theorem nextOf_rev_item {it l : Addr} {i : Nat} {items : Array Value} {x : Value} {Q : Value → Shared → Prop} (hit : s.heap.IsRevIter it l (i : Int)) (hl : s.heap.IsList l items) (hx : items[i]? = some x)
    (hQ : ∀ h', h'.IsRevIter it l ((i : Int) - 1) → Heap.SameBut it s.heap h' → Q x { s with heap := h' }) : wpAny (model prog w) A (Builtin.SmallTypes.nextOf (.ref it)) Q E s := by
  obtain ⟨o, ho, hc, hd⟩ := id hit
  obtain ⟨ol, hol, _, nl, hdl⟩ := hl
  unfold Builtin.SmallTypes.nextOf
  refine wpAny_bind (wpAny_callSpecial?_slot (name := Str.ofString "__next__") hit.typeIs F.slot_lri_next
    (wpAny_call_entry F.slot_lri_next hit.typeIs F.entry_lri_next ?_ (F.args_lri_next_1 _)))
  unfold Builtin.«list_reverseiterator.__next__»
  refine wpAny_bind (wpAny_of_eq (a := (Value.ref it, [])) rfl ?_)
  try dsimp only
  refine wpAny_bind (wpAny_field ho hd (x := rawInt (i : Int)) rfl ?_)
  show wpAny _ _ (if (i : Int) < 0 then _ else _) _ _ s
  rw [if_neg (by omega)]
  show wpAny _ _ (field (.ref it) 0 >>= _) _ _ s
  refine wpAny_bind (wpAny_field ho hd (x := .ref l) rfl ?_)
  show wpAny _ _ (seqItems? (.ref l) >>= _) _ _ s
  refine wpAny_bind (wpAny_seqItems hol hdl ?_)
  simp only [Int.toNat_natCast, hx]
  refine wpAny_bind (wpAny_setField ho hd (by simp) ?_)
  first
  | refine wpAny_pure ⟨x, rfl, wpAny_pure (hQ _ ?_ (Heap.SameBut.update ..))⟩
  | refine wpAny_bind (wpAny_pure (wpAny_pure ⟨x, rfl, wpAny_pure (hQ _ ?_ (Heap.SameBut.update ..))⟩))
  exact ⟨_, Heap.get?_update_self _ ho (Obj.isFreed_of_fields (Obj.data_mapFields hd _)), (Obj.cls_mapFields ..).trans hc, by
    rw [Obj.data_mapFields hd]; simp⟩
theorem nextOf_rev_end {it l : Addr} {Q : Value → Shared → Prop} (hh : A.handled = none) (hit : s.heap.IsRevIter it l (-1))
    (hE : ∀ h' e, Heap.ExtBut it s.heap h' → (∃ o, h'.get? e = some o ∧ o.cls = .type "StopIteration") → E (.ref e) { s with heap := h' }) :
    wpAny (model prog w) A (Builtin.SmallTypes.nextOf (.ref it)) Q E s := by
  obtain ⟨o, ho, hc, hd⟩ := id hit
  unfold Builtin.SmallTypes.nextOf
  refine wpAny_bind (wpAny_callSpecial?_slot (name := Str.ofString "__next__") hit.typeIs F.slot_lri_next
    (wpAny_call_entry F.slot_lri_next hit.typeIs F.entry_lri_next ?_ (F.args_lri_next_1 _)))
  unfold Builtin.«list_reverseiterator.__next__»
  refine wpAny_bind (wpAny_of_eq (a := (Value.ref it, [])) rfl ?_)
  try dsimp only
  refine wpAny_bind (wpAny_field ho hd (x := rawInt (-1)) rfl ?_)
  show wpAny _ _ (if (-1 : Int) < 0 then _ else _) _ _ s
  rw [if_pos (by decide)]
  refine wpAny_bind (wpAny_rule ?_)
  first
  | show wpAny _ _ (newExc (.type "StopIteration") [] >>= _) _ _ _
  | (refine wpAny_bind ?_; show wpAny _ _ (newExc (.type "StopIteration") [] >>= _) _ _ _)
  refine wpAny_bind ?_
  simp only [newExc, newTuple]
  refine wpAny_bind (wpAny_newObj_type ?_ (by size_fits))
  refine wpAny_bind (m := firstArgMember _ _) (wpAny_of_eq (a := Value.none) (by first | rfl | (simp only [firstArgMember]; rfl)) ?_)
  refine wpAny_newObj_type ?_ (by size_fits)
  simp only [raiseNew]
  refine wpAny_bind (wpAny_handled ?_)
  first | rw [show A.in1.handled = none from hh] | rw [hh]
  refine wpAny_bind (wpAny_pure (wpAny_throw ?_))
  exact hE _ _ (((Heap.ExtBut.refl _ _).push _).push _) ⟨_, Heap.get?_push_size _ rfl, rfl⟩
end
theorem drawsRev {prog : Program} {w : World} {A : Around} (hh : A.handled = none) (it l : Addr) (hne : l ≠ it) (items : Array Value) :
    Draws prog w A it [it, l] items.size (fun i v => items[items.size - 1 - i]? = some v) (fun i h => i ≤ items.size ∧ h.IsRevIter it l ((items.size : Int) - 1 - (i : Int)) ∧ h.IsList l items) where
  live := fun _ _ st => let ⟨_, ⟨o, ho, _⟩, _⟩ := st; ⟨o, ho⟩
  frame := fun _ _ _ x hk => ⟨x.1, x.2.1.at fun o e => hk it (by simp) o e, x.2.2.at fun o e => hk l (by simp) o e⟩
  item := fun i s Q E hi x hQ => by
    have e : (items.size : Int) - 1 - (i : Int) = ((items.size - 1 - i : Nat) : Int) := by omega
    have hit := x.2.1
    rw [e] at hit
    have hx : items[items.size - 1 - i]? = some (items[items.size - 1 - i]'(by omega)) := Array.getElem?_eq_getElem (by omega)
    refine nextOf_rev_item hit x.2.2 hx fun h' hit' hs' => ?_
    have e2 : ((items.size - 1 - i : Nat) : Int) - 1 = (items.size : Int) - 1 - ((i + 1 : Nat) : Int) := by omega
    rw [e2] at hit'
    exact hQ _ h' s.toks hx ⟨hi, hit', x.2.2.at fun o eo => (hs'.2 l hne).trans eo⟩ hs'
  done := fun s Q E x hE => by
    have e : (items.size : Int) - 1 - (items.size : Int) = -1 := by omega
    have hit := x.2.1
    rw [e] at hit
    exact nextOf_rev_end hh hit hE
theorem meets_enumerate_newR (l it : Addr) (i : Int) :
    Meets (Builtin.«enumerate.__new__» ⟨[.type "enumerate", .ref it], []⟩) (fun _ R s => s.heap.get? it = some (revObj l i) ∧
      R (.ok (.ret (.ref s.heap.objs.size)))
        { s with heap := s.heap.push { cls := .type "enumerate", data := .fields #[.none, .bool false, .ref it, rawInt 0, .none, .none] } }) :=
  .of_wp fun prog w A R s h => by
    obtain ⟨hp, g, d, tk, os⟩ := s; obtain ⟨hl, h⟩ := h
    have hsub := sub_enumerate
    have hL : Heap.IsRevIter (Shared.heap ⟨hp, g, d, tk, os⟩) it l i := ⟨_, hl, rfl, rfl⟩
    wp_walk using wpAny_loadPart' hl
    refine wpAny_stack_any fun st => wpAny_pure ?_
    split
    · rename_i c _ _ _ _ _
      cases (c == Value.type "enumerate")
      · wp_walk using wpAny_loadPart' hl, wpAny_pyIter_revIter hL
        exact ⟨_, rfl, h⟩
      · wp_walk using wpAny_loadPart' hl, wpAny_pyIter_revIter hL
        exact ⟨_, rfl, h⟩
    · wp_walk using wpAny_loadPart' hl, wpAny_pyIter_revIter hL
      exact ⟨_, rfl, h⟩
end OB
namespace OB
open PySem PySem.Spec PyProof.Rows L2
/-- enumerate(reversed(list)): the list at a keeps its n items -/
def Iter (K : PySem.W.Frag) (a : Addr) (n : Nat) : It :=
  ⟨fun i H => ∃ (xs : List V) (x : V), SqL K H a xs ∧ xs.length = n ∧ i < n ∧ xs[n - 1 - i]? = some x, fun i H v H' => ∃ T x, v = .ref T ∧ H T = none ∧ H' = upd H T (.tup [.int (i : Nat), x]) ∧ ∀ xs, SqL K H a xs → xs[n - 1 - i]? = some x,
    fun i H => ∃ xs : List V, SqL K H a xs ∧ xs.length = n ∧ n ≤ i⟩
theorem turn_enumR {P : Program} {w : World} {K : PySem.W.Frag} {elts : List Expr} {kk : Nat} {tpos : Pos} (a e it : Addr) (n : Nat) (hae : a ≠ e) (hai : a ≠ it) :
    Turn P w K (.Tuple elts kk tpos) (Iter K a n) [e, it] e (fun i h => (∃ old, IsEnum h e it ((i : Nat) : Int) old) ∧ h.IsRevIter it a ((n : Int) - 1 - (i : Nat)) ∧ e ≠ it ∧ i ≤ n) where
  mem := by simp
  obj := fun i h st b hb => by
    obtain ⟨⟨old, he⟩, ⟨o, ho, hc, hd⟩, _⟩ := st
    have e' : b = e ∨ b = it := by simpa using hb
    rcases e' with z | z
    · rw [z]; exact ⟨_, he, fun v q => nomatch q⟩
    · rw [z]; exact ⟨o, ho, fun v q => by rw [hd] at q; cases q⟩
  keep := fun i h h' st k => let ⟨⟨old, he⟩, hi, hne⟩ := st; ⟨⟨old, k e (by simp) _ he⟩, hi.at fun o q => k it (by simp) o q, hne⟩
  item := by
    intro X hP hw hK hc i pins s σ H E I hf st hg
    subst hP hw hK
    obtain ⟨⟨old, he⟩, hit, hne, hle⟩ := st
    obtain ⟨xs, x, hq, hn, hin, hx⟩ := hg
    subst hn
    obtain ⟨its, rv, p, hz⟩ := I.list hq
    have hlen := rv.length
    obtain ⟨u, hu, ru⟩ := rv.get hx
    have hel : e < s.heap.objs.size := Heap.lt_size he
    have hil : it < s.heap.objs.size := by obtain ⟨_, q, _⟩ := hit; exact Heap.lt_size q
    have hsz : its.toArray.size = xs.length := by rw [List.size_toArray, hlen]
    have D := drawsRev (prog := X.prog) (w := X.w) (A := X.A.in1) (I.ok.hd hc) it a hai its.toArray
    refine wpAny_pyNext_enum_itemD D he ⟨by omega, by rw [hsz]; exact hit, p.isList⟩ (by omega) hne (by simp [hne, hae.symm]) fun v h' tk hv ho hit' hT hsz' hk => ?_
    have ev : v = u := by
      rw [hsz] at hv
      have h2 : its.toArray[xs.length - 1 - i]? = some u := by simpa using hu
      exact Option.some.inj (hv.symm.trans h2)
    subst ev
    refine ⟨_, rfl, wpAny_letOwnedTupleGo_enum (s := { s with heap := h', toks := tk + 1 }) ho fun h'' he' sb => ?_⟩
    have hT2 : h''.get? s.heap.objs.size = some { cls := .type "tuple", data := .seq #[.int i tk, v] } := (sb.2 _ (Nat.ne_of_gt hel)).trans hT
    have new : ObjOk X.prog X.w (upd H s.heap.objs.size (.tup [.int (i : Nat), x])) h'' s.heap.objs.size (.tup [.int (i : Nat), x]) :=
      ⟨by show 2 ≤ sizeLine; decide, [.int i tk, v], .cons ⟨_, rfl⟩ (.cons ru .nil), ⟨_, hT2, rfl, _, rfl⟩⟩
    have I1 : Inv X pins σ (upd H s.heap.objs.size (.tup [.int (i : Nat), x])) { s with heap := h'', toks := tk + 1 } :=
      I.turnedNew (ch := [e, it]) (fun b ob hb q => (sb.2 b (fun z => hb (by simp [z]))).trans (hk b ob (fun z => hb (by simp [z])) (fun z => hb (by simp [z])) q)) hf (Nat.le_refl _) new
    refine ⟨.ref s.heap.objs.size, _, I1, rfl, ⟨_, x, rfl, I.hok.fresh (Nat.le_refl _), rfl, fun ys hy => by rw [I.list_inj hy hq]; exact hx⟩, ⟨⟨v, ?_⟩, ?_, hne, hin⟩, fun b hb => ?_⟩
    · have e1 : ((i + 1 : Nat) : Int) = (i : Int) + 1 := by omega
      rw [e1]; exact he'
    · have h3 := hit'.2.1
      rw [hsz] at h3
      exact h3.at fun o q => (sb.2 it (Ne.symm hne)).trans q
    · have hb' : b < s.heap.objs.size := by
        have e' : b = e ∨ b = it := by simpa using hb
        rcases e' with z | z
        · rw [z]; exact hel
        · rw [z]; exact hil
      rw [upd_ne (Nat.ne_of_lt hb')]
      exact (hf b hb).1
  done := by
    intro X hP hw hK hc i pins s σ H E I hf st hg
    subst hP hw hK
    obtain ⟨⟨old, he⟩, hit, hne, hle⟩ := st
    obtain ⟨xs, hq, hn, hge⟩ := hg
    subst hn
    obtain ⟨its, rv, p, hz⟩ := I.list hq
    have hlen := rv.length
    have ei : i = xs.length := Nat.le_antisymm hle hge
    subst ei
    have hsz : its.toArray.size = xs.length := by rw [List.size_toArray, hlen]
    obtain ⟨f0, f1, f2, f3, f4, f5⟩ := hf it (by simp)
    have D := drawsRev (prog := X.prog) (w := X.w) (A := X.A.in1) (I.ok.hd hc) it a hai its.toArray
    exact wpAny_pyNext_enum_endD D he ⟨Nat.le_refl _, by rw [hsz]; exact hit, p.isList⟩ fun h' eb => ⟨rfl, I.turned (t' := s.toks) (fun b o hb q => eb b o hb q) f0 f1 f3 f4 f5⟩
  self := fun A i s Q E st h => let ⟨⟨_, he⟩, _⟩ := st; wpAny_pyIter_enum he h
section
variable {prog : Program} {w : World} {A : Around} {E : Value → Shared → Prop} {s : Shared}
theorem call_enumerate_rev {l it : Addr} {i : Int} {Q : Value → Shared → Prop} (hL : s.heap.get? it = some (revObj l i))
    (h : Q (.ref s.heap.objs.size) { s with heap := s.heap.push { cls := .type "enumerate", data := .fields #[.none, .bool false, .ref it, rawInt 0, .none, .none] } }) :
    wpAny (model prog w) A (call (.type "enumerate") [.ref it]) Q E s := by
  refine callType_new F.called_enumerate (by decide) (F.typeCall_enumerate_1 _) (F.newCall_enumerate_1 _) (fun obj => F.args_object_init_2 obj _) F.entry_enumerate_new
    (meets_enumerate_newR l it i) ⟨hL, ?_⟩
  exact ⟨⟨_, Heap.get?_push_size _ rfl, rfl⟩, h⟩
end
def iEnumR (K : PySem.W.Frag) (te : TE) : TI := fun σ H R => te σ H fun v H1 => ∃ (a : Addr) (xs : List V), v = .ref a ∧ SqL K H1 a xs ∧ R (Iter K a xs.length) H1
theorem pi_enumR {X : Cx} {e : Expr} {te : TE} {p pos p2 pos2 tpos : Pos} {elts : List Expr} {kk : Nat} (hg : Gl X "enumerate") (hm : X.mg "enumerate" = none) (hg2 : Gl X "reversed") (hm2 : X.mg "reversed" = none) (he : PE X e te)
    (hs : starEach [e] X.env = (false, eval e X.env) :: starEach [] X.env := by rfl)
    (hs2 : starEach [.Call (.Name "reversed" p2) [e] [] pos2] X.env = (false, eval (.Call (.Name "reversed" p2) [e] [] pos2) X.env) :: starEach [] X.env := by rfl) :
    PI X (.Tuple elts kk tpos) (.Call (.Name "enumerate" p) [.Call (.Name "reversed" p2) [e] [] pos2] [] pos) (iEnumR X.K te) := by
  refine ⟨fun pins s σ H R I h => ?_⟩
  refine Call_ (ld_blt I hg hm boot_enumerate (PyProof.Rows.callWith_type1 (args_cons ?_ hs2) hs2 rfl))
  refine Call_ (ld_blt I hg2 hm2 PyProof.Rows.boot_reversed (PyProof.Rows.callWith_type1 (args_cons (thn (he.run pins s σ H _ I h) fun u s1 ⟨v, H1, I1, r1, q1⟩ => args_nil ?_) hs) hs rfl))
  obtain ⟨a, xs, ev, hq, q⟩ := q1
  subst ev
  obtain rfl : u = Value.ref a := r1
  obtain ⟨its, rv, p', hz⟩ := I1.list hq
  have hl := rv.length
  have hal : a < s1.heap.objs.size := by obtain ⟨_, z, _⟩ := p'.isList; exact Heap.lt_size z
  have e1 : ((its.toArray.size : Nat) : Int) - 1 = (xs.length : Int) - 1 - ((0 : Nat) : Int) := by simp only [List.size_toArray]; omega
  refine call_reversed_list p'.isList (args_nil ?_)
  refine call_enumerate_rev (l := a) (i := ((its.toArray.size : Nat) : Int) - 1) (Heap.get?_push_size _ rfl) ?_
  have hz1 : (s1.heap.push (revObj a ((its.toArray.size : Nat) - 1))).objs.size = s1.heap.objs.size + 1 := Heap.size_push ..
  have he1 : IsEnum ((s1.heap.push (revObj a (((its.toArray.size : Nat) : Int) - 1))).push { cls := .type "enumerate", data := .fields #[.none, .bool false, .ref s1.heap.objs.size, rawInt 0, .none, .none] }) (s1.heap.objs.size + 1) s1.heap.objs.size 0 .none := by
    have := Heap.get?_push_size (s1.heap.push (revObj a (((its.toArray.size : Nat) : Int) - 1))) (o := { cls := .type "enumerate", data := .fields #[.none, .bool false, .ref s1.heap.objs.size, rawInt 0, .none, .none] }) rfl
    rw [hz1] at this; exact this
  show wpAny _ _ (pyIter (.ref (s1.heap.push (revObj a (((its.toArray.size : Nat) : Int) - 1))).objs.size)) _ _ _
  rw [hz1]
  refine wpAny_pyIter_enum he1 ?_
  have I2 := I1.kept (t' := s1.toks) (h' := (s1.heap.push (revObj a (((its.toArray.size : Nat) : Int) - 1))).push { cls := .type "enumerate", data := .fields #[.none, .bool false, .ref s1.heap.objs.size, rawInt 0, .none, .none] }) fun b ob z => Heap.get?_push_of_some _ (Heap.get?_push_of_some _ z)
  refine ⟨s1.heap.objs.size + 1, [s1.heap.objs.size + 1, s1.heap.objs.size], _, _, H1, rfl, I2, turn_enumR a (s1.heap.objs.size + 1) s1.heap.objs.size xs.length (Nat.ne_of_lt (Nat.lt_succ_of_lt hal)) (Nat.ne_of_lt hal), ⟨⟨.none, he1⟩, ?_, Nat.succ_ne_self _, Nat.zero_le _⟩, fun b hb => ?_, q⟩
  · rw [← e1]
    exact ⟨_, Heap.get?_push_of_some _ (Heap.get?_push_size _ rfl), rfl, rfl⟩
  · have e' : b = s1.heap.objs.size + 1 ∨ b = s1.heap.objs.size := by simpa using hb
    have hle : s1.heap.objs.size ≤ b := by
      rcases e' with z | z
      · rw [z]; exact Nat.le_add_right _ _
      · rw [z]; exact Nat.le_refl _
    exact I1.fpOk hle (I1.hok.fresh hle)
theorem walk_enumR {K : PySem.W.Frag} {a : Addr} {xs : List V} : Walk (Iter K a xs.length) xs.length (fun H => SqL K H a xs) (YPair (fun i => some (.int (i : Nat))) (fun i => xs[xs.length - 1 - i]?)) := by
  refine ⟨fun i _ hi q => ⟨xs, xs[xs.length - 1 - i]'(by omega), q, rfl, hi, by simp [show xs.length - 1 - i < xs.length by omega]⟩, fun _ q => ⟨xs, q, rfl, Nat.le_refl _⟩, fun i H v H' _ q y => ?_⟩
  obtain ⟨T, x, h1, h2, h3, h4⟩ := y
  exact ⟨T, .int (i : Nat), x, h1, h2, h3, rfl, h4 xs q⟩
end OB
namespace OB
open PySem PySem.Spec PyProof.Rows L2
/-- a text from its end -/
def revT (x : Str) : Str := ⟨x.cps.reverse⟩
theorem sliceBy_rev (x : Str) (u : Tok) : Txt.sliceBy x none none (-1, u) = revT x := by
  have h := step_rev_list x u
  have e : (Txt.sliceBy x none none (-1, u)).cps = x.cps.reverse := by
    apply Array.toList_inj.mp
    rw [h, Array.toList_reverse]
    apply List.ext_getElem
    · simp [Str.length]
    · intro i h1 h2
      simp [Str.length] at h1
      simp [Array.getD, Str.length, h1, show x.cps.size - 1 - i < x.cps.size by omega]
  show Txt.sliceBy x none none (-1, u) = ⟨x.cps.reverse⟩
  rw [← e]
section
variable {X : Cx}
def tRevS (te : TE) : TE := fun σ H Q => te σ H fun x H1 => ∃ z, x = .str z ∧ z.length ≤ sizeLine ∧ Q (.str (revT z)) H1
theorem pe_revS {e : Expr} {te : TE} {k : Nat} {p1 p2 p3 pos : Pos} (he : PE X e te)
    (ht : ∀ x t r, letTemporaryGo e (.str x t) r = pure () := by intro _ _ _; with_unfolding_all rfl) : PE X (.Subscript e (.Slice none none (some (.UnaryOp .USub (.Constant (.int 1) k p1) p2)) p3) pos) (tRevS te) := by
  refine ⟨fun pins s σ H Q I h => ?_⟩
  refine Subscript_ (thn (he.run pins s σ H _ I h) fun v s1 ⟨x, H1, I1, r1, q1⟩ => ?_)
  obtain ⟨z, ex, hz, q⟩ := q1
  subst ex
  obtain ⟨t, rfl⟩ := r1
  have hst : PO X (some (.UnaryOp .USub (.Constant (.int 1) k p1) p2)) (tPart (tUn (rU fun i => .int (-i)) (tC (.int 1)))) := po_some (pe_un un_neg pe_int)
  refine wpAny_Slice (thn (po_none.run pins s1 σ H1 (fun o H2 => o = none ∧ H2 = H1) I1 ⟨rfl, rfl⟩) fun vl s2 ⟨l, H2, I2, pl, el, e2⟩ => ?_)
  subst el e2
  refine thn (po_none.run pins s2 σ H2 (fun o H3 => o = none ∧ H3 = H2) I2 ⟨rfl, rfl⟩) fun vu s3 ⟨u, H3, I3, pu, eu, e3⟩ => ?_
  subst eu e3
  refine thn (hst.run pins s3 σ H3 (fun o H4 => o = some (-1) ∧ H4 = H3) I3 ⟨1, rfl, -1, rfl, rfl, rfl⟩) fun vs s4 ⟨o, H4, I4, ps, eo, e4⟩ => ?_
  subst eo e4
  have I5 : Inv X pins σ H4 { s4 with heap := s4.heap.push { cls := .type "slice", data := .fields #[vl, vu, vs] } } := I4.kept (t' := s4.toks) fun b ob q => Heap.get?_push_of_some _ q
  have evl : vl = .none := by cases pl; rfl
  have evu : vu = .none := by cases pu; rfl
  obtain ⟨w, evs⟩ : ∃ w, vs = .int (-1) w := by cases ps; exact ⟨_, rfl⟩
  subst evl evu evs
  show wpAny (model X.prog X.w) X.A (subscriptTail e (.Slice none none (some (.UnaryOp .USub (.Constant (.int 1) k p1) p2)) p3) (.str z t) (.ref s4.heap.objs.size)) (EP X pins σ Q) X.xe { s4 with heap := s4.heap.push { cls := .type "slice", data := .fields #[.none, .none, .int (-1) w] } }
  refine tail_of_ItemOn ⟨"str", _, F.slot_str_getitem.lookup, typeIs_str _ _ _, wpAny_getItem_str_slice (l := none) (u := none) (st := some (-1, w)) ⟨_, Heap.get?_push_size _ rfl, rfl, rfl⟩ rfl
    (post_val_or_str ⟨Nat.le_trans (Txt.sliceBy_le z _ _ (-1, w) (by show (-1 : Int) ≠ 0; decide)) hz, fun t' c => ?_⟩)⟩ (by with_unfolding_all rfl) (ht z t)
  refine (show EP X pins σ Q (.str (Txt.sliceBy z none none (-1, w)) t') _ from ?_)
  rw [sliceBy_rev]
  exact ⟨.str (revT z), H4, I5.tok _, ⟨_, rfl⟩, q⟩
end
end OB
namespace K33
open PySem PySem.Spec PyProof.Rows L2 OB SkE LamX
theorem rev_bin (n : Nat) : (revT (binT n)).cps = (M04.R n).toArray := by
  show ((Nat.toDigits 2 n).map fun c => c.toNat).toArray.reverse = _
  unfold M04.R
  simp
theorem bin_len (n : Nat) : (binT n).length = (M04.R n).length := by
  show ((Nat.toDigits 2 n).map fun c => c.toNat).toArray.size = _
  unfold M04.R
  simp
theorem bin_list (n : Nat) : (binT n).cps.toList = (M04.R n).reverse := by
  show ((Nat.toDigits 2 n).map fun c => c.toNat).toArray.toList = _
  unfold M04.R
  simp
theorem cnt_countP (c : Nat) : ∀ l : List Nat, cnt c l = ((l.countP fun x => decide (x = c) : Nat) : Int)
  | [] => rfl
  | a :: r => by
    rw [cnt_cons, cnt_countP c r, List.countP_cons]
    by_cases h : a = c <;> simp [h] <;> omega
theorem bin_count (n : Nat) : Txt.count (binT n) (Str.ofString "1") = ((M04.pc n : Nat) : Int) := by
  rw [show Str.ofString "1" = ⟨#[49]⟩ from by decide +kernel, count_cnt, bin_list, cnt_countP, List.countP_reverse, M04.R_count]
theorem bin_small {n : Nat} (h : n < 2 ^ 1000) : (binT n).length ≤ sizeLine := by
  rw [bin_len]
  exact Nat.le_of_lt (small1000 (M04.R_len (by decide) h))
def spOnes (K : PySem.W.Frag) (C : Addr) : Sp := fun vs H Q E => ∃ (x : V) (b : Bool), vs = [x] ∧ IsI K H x b ∧
  ((b && inB (some 0) none x) = true → ∃ n : Nat, x = .int n ∧ n < 2 ^ 1000 ∧ Q (.int (M04.pc n)) H) ∧ ((b && inB (some 0) none x) = false → RaisesP C "number" E H)
def spNeedLayX (K : PySem.W.Frag) (C CB : Addr) : Sp := fun vs H Q E => ∃ (x : V) (part : Str), vs = [x, .str part] ∧ ((NotO K C H x ∧ RaisesP CB part E H) ∨ ∃ (y : Addr) (b : Nat) (ms : List (Option Nat)), x = .ref y ∧ IsLay H C y b ms ∧ Q .non H)
theorem in_boundsN {lo i : Int} (h1 : lo ≤ i) : (true && inB (some lo) none (.int i)) = true := by
  show (true && (decide (lo ≤ i) && true)) = true
  rw [decide_eq_true h1]
  rfl
/-- the ones of a number, odd or even -/
theorem cnt_par (n : Nat) : ∀ k, M04.cnt n k % 2 = (MC.par (MC.wd n) k).toNat
  | 0 => rfl
  | k + 1 => by
    have ih := cnt_par n k
    have e : M04.cnt n (k + 1) = M04.cnt n k + n / 2 ^ k % 2 := by
      first
        | rfl
        | exact Nat.add_comm _ _
    rw [e, MC.bit_wd]
    show _ = (xor (MC.par (MC.wd n) k) (MC.wd n k)).toNat
    cases h1 : MC.par (MC.wd n) k <;> cases h2 : MC.wd n k <;> rw [h1] at ih <;> simp at ih ⊢ <;> omega
theorem pc_par {n k : Nat} (h : n < 2 ^ k) : M04.pc n % 2 = (MC.par (MC.wd n) k).toNat := by
  rw [← M04.cnt_pc h]
  exact cnt_par n k
def spAbove (C : Addr) : Sp := fun vs H Q _ => ∃ (a : Addr) (b : Nat) (ms : List (Option Nat)) (x pr s : Nat) (m : Option Nat), vs = [.ref a, .int (x : Int), .int (pr : Int), .int (s : Int)] ∧ IsLay H C a b ms ∧ ms[x]? = some m ∧ x < 2 ^ 8 ∧ pr < 4 ∧ Q (mv (m.map fun t => t + s * (pr / 2 ^ (if MC.par (MC.wd x) 8 then 0 else 1) % 2))) H
section
variable {P : Program} {w : World} {K : PySem.W.Frag} {mg : Str → Option Value} {base : Heap}
theorem sc_ones_in : FnScope ["number"] ["number"] (defScope s_ones_in) := ⟨rfl, rfl, rfl, by decide +kernel, rfl, by decide +kernel, by decide +kernel⟩
abbrev N_ones_in : List Str := ["number"]
theorem ok_ones_in {f f3 C : Addr} {fd fd3 : FuncData} (F : Fun K "ones_in" "ones_in" s_ones_in f fd) (D_need_number : Df K mg "need_number" s_need_number ["value", "part", "least", "most"] f3 fd3)
    (G_need_number : FnOk P w K mg base (L2.CX P w) 4 f3 fd3 ["value", "part", "least", "most"] (spNeedNumber K C)) : FnOk P w K mg base (L2.CX P w) 5 f fd ["number"] (spOnes K C) := by
  refine F.okX sc_ones_in (fun vs H Q E h => ?_) (fun cdv A outer s H vs Q E hr h => ?_)
  · obtain ⟨x, b, rfl, _⟩ := h
    rfl
  · obtain ⟨x, b, rfl, hI, k1, k2⟩ := h
    refine ⟨_, (pss_cons (ps_expr (pe_callS G_need_number (hr.mono (by decide)) (by rfl) D_need_number.g D_need_number.F.kp D_need_number.b (fun σ => passAt (takes_of rfl rfl rfl rfl) σ) (pa_cons (pv 0) (pa_cons pe_str (pa_cons pe_int (pa_cons pe_non pa_nil))))))
  (pss_one (ps_ret (pe_m1 PySem.F.slot_str_count PySem.F.type_str_count mt_count (pe_fmtB (pv 0)) pe_str)))), ?_⟩
    refine ⟨x, rfl, x, "number", some 0, none, b, rfl, hI, fun c => ?_, fun c d hd => k2 c d hd⟩
    obtain ⟨n, rfl, hn, k⟩ := k1 c
    refine ⟨_, rfl, n, rfl, bin_small hn, ⟨_, rfl⟩, _, _, rfl, rfl, ?_⟩
    rw [bin_count]
    exact k
theorem sc_need_layout : FnScope ["value", "part"] ["value", "part"] (defScope s_need_layout) := ⟨rfl, rfl, rfl, by decide +kernel, rfl, by decide +kernel, by decide +kernel⟩
abbrev N_need_layout : List Str := ["value", "part"]
theorem ok_need_layout {f fI CB fB C : Addr} {fd fdB : FuncData} (F : Fun K "need_layout" "need_layout" s_need_layout f fd) (T : Blt mg) (O_Layout : OwnC K mg "Layout" C fI) (R_BadLayout : Err P w K mg base "BadLayout" "part" CB fB fdB) : FnOk P w K mg base (L2.CX P w) 4 f fd ["value", "part"] (spNeedLayX K C CB) := by
  refine F.okX sc_need_layout (fun vs H Q E h => ?_) (fun cdv A outer s H vs Q E hr h => ?_)
  · obtain ⟨x, part, rfl, _⟩ := h
    rfl
  · obtain ⟨x, part, rfl, h⟩ := h
    refine ⟨_, (pss_one (ps_if (pt_not (pt_val (pe_callB call_isi (by rfl) T.n_isinstance (by decide +kernel) (pa_cons (pv 0) (pa_cons (pe_glob (v := .ref _) (by rfl) O_Layout.g rfl) pa_nil))))) (pss_one (ps_raise1 rfl (takes_of rfl rfl rfl rfl) R_BadLayout (hr.mono (by decide)) (by rfl) (pv 1))) pss_nil)), ?_⟩
    rcases h with ⟨⟨t, ty, ht⟩, kx⟩ | ⟨y, b, ms, rfl, ⟨dx, fs, t, h1, h2, h3, h4⟩, k⟩
    · refine ⟨_, rfl, x, .ref C, t, .ref C, false, rfl, .own C, ty, ht, false, rfl, iteT ?_⟩
      refine ⟨.str part, rfl, ?_⟩
      refine raise1_of (W := fun cls d _ H => E cls d H) R_BadLayout.T R_BadLayout.no ?_
      exact fun d hd => kx d hd
    · exact ⟨_, rfl, _, .ref C, .ref C, .ref C, true, rfl, .own C, O_Layout.ty h1, O_Layout.self, true, rfl, iteF k⟩
theorem sc__meant_above : FnScope ["layout", "word", "pair", "states", "state", "counts"] ["layout", "word", "pair", "states"] (defScope s__meant_above) := ⟨rfl, rfl, rfl, by decide +kernel, rfl, by decide +kernel, by decide +kernel⟩
abbrev N__meant_above : List Str := ["layout", "word", "pair", "states", "state", "counts"]
theorem ok__meant_above {f f1 fI C CN : Addr} {fd fd1 : FuncData} (F : Fun K "_meant_above" "_meant_above" s__meant_above f fd) (T : Blt mg) (O_Layout : OwnC K mg "Layout" C fI) (n2 : NoAttr K C "means") (D_ones_in : Df K mg "ones_in" s_ones_in ["number"] f1 fd1) (GX_ones_in : FnOk P w K mg base (L2.CX P w) 5 f1 fd1 ["number"] (spOnes K CN)) :
    FnOk P w K mg base CX0 6 f fd ["layout", "word", "pair", "states"] (spAbove C) := by
  have G_ones_in := calm_of GX_ones_in
  refine F.ok sc__meant_above (fun vs H Q E h => ?_) (fun cdv A outer s H vs Q E hr h => ?_)
  · obtain ⟨a, b, ms, x, pr, s', m, rfl, _⟩ := h
    rfl
  · obtain ⟨a, b, ms, x, pr, s', m, rfl, hL, hm, hx, hp, k⟩ := h
    obtain ⟨dx, fs, t, h1, h2, h3, h4⟩ := id hL
    refine ⟨_, (pss_cons (ps_set (i := 4) sc__meant_above.nd rfl (Or.inl rfl) (pe_ix ix_tup (pe_fld (pv 0) rfl) (pv 1) (fun _ _ => rfl)))
  (pss_cons (ps_if (pt_cmpR op_isN (pv 4) pe_non (nomark _)) (pss_one (ps_ret pe_non)) pss_nil)
  (pss_cons (ps_set (i := 5) sc__meant_above.nd rfl (Or.inl rfl) (pe_ifExp (pt_truth (pe_op op_and (pe_call G_ones_in (hr.mono (by decide)) (by rfl) D_ones_in.g D_ones_in.F.kp D_ones_in.b .nil pass0 (pa_cons (pv 1) pa_nil)) pe_int) (by intro _; rfl)) pe_int pe_int))
  (pss_one (ps_ret (pe_op op_add (pv 4) (pe_op op_mul (pv 3) (pe_op op_and (pe_op op_shrN (pv 2) (pv 5)) pe_int)))))))), ?_⟩
    have am : atI (ms.map mv) (x : Int) = some (mv m) := atI_nat (by rw [List.getElem?_map, hm]; rfl)
    refine ⟨_, rfl, a, C, dx, fs, _, rfl, h1, O_Layout.cl, n2, h3, _, rfl, t, _, _, _, rfl, rfl, SqT.of h4, am, ?_⟩
    cases m with
    | none => exact ⟨_, rfl, rfl, _, rfl, iteT k⟩
    | some st =>
      refine ⟨_, rfl, rfl, _, rfl, iteF ?_⟩
      refine ⟨_, rfl, _, true, rfl, isI_int _, fun _ => ⟨x, rfl, Nat.lt_of_lt_of_le hx (Nat.pow_le_pow_right (by decide) (by decide)), ?_⟩, fun z => yes_no (in_boundsN (Int.natCast_nonneg _)) z⟩
      have pp := pc_par (k := 8) hx
      have fin : ∀ c : Nat, c = (if MC.par (MC.wd x) 8 then 0 else 1) → Q (V.int ((st : Int) + (s' : Int) * Builtin.bitAnd ((pr : Int) / 2 ^ c) 1)) H := fun c hc => by
        rw [← hc] at k
        have e : (st : Int) + (s' : Int) * Builtin.bitAnd ((pr : Int) / 2 ^ c) 1 = ((st + s' * (pr / 2 ^ c % 2) : Nat) : Int) := by
          rw [shr_nat, and_one, Int.natCast_add, Int.natCast_mul]
        rw [e]
        exact k
      have sm : ∀ c : Nat, -2 ^ 64 < Builtin.bitAnd ((pr : Int) / 2 ^ c) 1 ∧ Builtin.bitAnd ((pr : Int) / 2 ^ c) 1 < 2 ^ 64 := fun c => by
        rw [bit_is]
        cases MC.wd pr c <;> decide
      refine ⟨_, _, rfl, rfl, ?_⟩
      cases hq : MC.par (MC.wd x) 8 with
      | true =>
        rw [hq] at pp
        refine ⟨true, (show TruV K (V.int (Builtin.bitAnd ((M04.pc x : Nat) : Int) 1)) _ _ by rw [and_one, pp]; rfl), iteT ?_⟩
        refine ⟨_, rfl, _, rfl, _, rfl, _, rfl, _, 0, rfl, rfl, _, _, rfl, rfl, _, _, rfl, rfl, ?_, _, _, rfl, rfl, fin 0 (by rw [hq]; rfl)⟩
        exact .inr (sm 0)
      | false =>
        rw [hq] at pp
        refine ⟨false, (show TruV K (V.int (Builtin.bitAnd ((M04.pc x : Nat) : Int) 1)) _ _ by rw [and_one, pp]; rfl), iteF ?_⟩
        refine ⟨_, rfl, _, rfl, _, rfl, _, rfl, _, 1, rfl, rfl, _, _, rfl, rfl, _, _, rfl, rfl, ?_, _, _, rfl, rfl, fin 1 (by rw [hq]; rfl)⟩
        exact .inr (sm 1)
end
end K33
/-! The told road of a code: the table of its base, then double by double. -/
namespace MC
def baseT : Nat → List (List (List Nat))
  | 2 => [[[], [0]], [[0], []]]
  | _ => [[[], [1], [0, 1]], [[], [0, 1], [1]], [[1], [], [0]], [[1], [0], []]]
def baseR (b x v : Nat) : List Nat := ((baseT b).getD x []).getD v []
theorem val2 (g : Wd) : val 2 g 0 = (g 0).toNat := by
  unfold val bv
  rw [if_pos rfl]
theorem val3 (g : Wd) : val 3 g 0 = if g 1 then (if g 0 then 2 else 1) else 0 := by
  unfold val bv
  rw [if_neg (by decide)]
theorem base2 (f : Wd) : ∀ v, v < 2 → Road 2 0 f v (baseR 2 (f 0).toNat v) := by
  intro v hv
  have hv : v = 0 ∨ v = 1 := by omega
  cases h0 : f 0 <;> rcases hv with rfl | rfl
  all_goals
    refine ⟨by decide, by decide, fun k hk => ?_, ?_, ?_⟩
    · match k, hk with
      | 0, _ => rfl
      | k + 1, h => exact absurd h (by simp [baseR, baseT])
    · rw [val2]
      simp [baseR, baseT, flips, flip, h0]
    · rw [val2, h0]
      decide
theorem base3 (f : Wd) : ∀ v, v < 3 → Road 3 0 f v (baseR 3 ((f 0).toNat + 2 * (f 1).toNat) v) := by
  intro v hv
  have hv : v = 0 ∨ v = 1 ∨ v = 2 := by omega
  cases h0 : f 0 <;> cases h1 : f 1 <;> rcases hv with rfl | rfl | rfl
  all_goals
    refine ⟨by decide, by decide, fun k hk => ?_, ?_, ?_⟩
    · match k, hk with
      | 0, _ => rfl
      | 1, h =>
        rw [val3, val3]
        first
          | exact absurd h (by decide)
          | simp [baseR, baseT, flips, flip, h0, h1]
      | k + 2, h => exact absurd h (by simp [baseR, baseT])
    · rw [val3]
      simp [baseR, baseT, flips, flip, h0, h1]
    · rw [val3, h0, h1]
      decide
theorem base_road {b : Nat} (hb : b = 2 ∨ b = 3) (w v : Nat) : Road b 0 (wd w) (v % b) (baseR b (w % 2 ^ (b - 1)) (v % b)) := by
  rcases hb with rfl | rfl
  · have e : w % 2 ^ (2 - 1) = (wd w 0).toNat := bit0 w
    rw [e]
    exact base2 _ _ (Nat.mod_lt _ (by decide))
  · have e : w % 2 ^ (3 - 1) = (wd w 0).toNat + 2 * (wd w 1).toNat := mod4 w
    rw [e]
    exact base3 _ _ (Nat.mod_lt _ (by decide))
def roadTo (b w v : Nat) : Nat → List Nat
  | 0 => baseR b (w % 2 ^ (b - 1)) (v % b)
  | j + 1 => withD (roadTo b w v j) (cts (wd w) (b - 1 + 2 * j)) (idl (wd w) (b - 1 + 2 * j)) (wd w (cts (wd w) (b - 1 + 2 * j))) (wd w (idl (wd w) (b - 1 + 2 * j))) (decide (v / b / 2 ^ j % 2 = 1))
theorem road_all {b : Nat} (hb : b = 2 ∨ b = 3) (w v : Nat) : ∀ j, Road b j (wd w) (v % (b * 2 ^ j)) (roadTo b w v j)
  | 0 => by
    rw [Nat.pow_zero, Nat.mul_one]
    exact base_road hb w v
  | j + 1 => by
    have R := road_step hb (road_all hb w v j) (decide (v / b / 2 ^ j % 2 = 1))
    have e : v % (b * 2 ^ (j + 1)) = v % (b * 2 ^ j) + (decide (v / b / 2 ^ j % 2 = 1)).toNat * (b * 2 ^ j) := by
      rw [Nat.pow_succ, ← Nat.mul_assoc, Nat.mod_mul, Nat.div_div_eq_div_mul, Nat.mul_comm (b * 2 ^ j)]
      rcases Nat.mod_two_eq_zero_or_one (v / (b * 2 ^ j)) with z | z <;> rw [z] <;> rfl
    rw [e]
    exact R
/-- the word behind k flips of a road -/
def xs (r : List Nat) (w : Nat) : Nat := r.foldl (fun w i => w ^^^ 2 ^ i) w
def hn (w : Nat) (r : List Nat) (k : Nat) : Nat := xs (r.take k) w
theorem wd_xor (w i : Nat) : wd (w ^^^ 2 ^ i) = flip (wd w) i := by
  funext j
  unfold wd flip
  rw [Nat.testBit_xor, Nat.testBit_two_pow]
  by_cases e : j = i
  · subst e
    simp
  · rw [if_neg e, decide_eq_false (fun z => e z.symm), Bool.xor_false]
theorem wd_xs : ∀ (r : List Nat) (w : Nat), wd (xs r w) = flips (wd w) r
  | [], w => rfl
  | i :: r, w => by
    show wd (xs r (w ^^^ 2 ^ i)) = _
    rw [wd_xs r, wd_xor, flips_cons]
theorem xs_lt {n : Nat} : ∀ (r : List Nat) (w : Nat), w < 2 ^ n → (∀ i ∈ r, i < n) → xs r w < 2 ^ n
  | [], w, h, _ => h
  | i :: r, w, h, hr => xs_lt r (w ^^^ 2 ^ i) (Nat.xor_lt_two_pow h (Nat.pow_lt_pow_right (by decide) (hr i List.mem_cons_self))) fun j hj => hr j (List.mem_cons_of_mem _ hj)
theorem hn_lt {b d w v k : Nat} {r : List Nat} (R : Road b d (wd w) v r) (h : w < 2 ^ (b - 1 + 2 * d)) : hn w r k < 2 ^ (b - 1 + 2 * d) := xs_lt _ _ h fun i hi => R.low i (List.mem_of_mem_take hi)
theorem hn_step {w k c : Nat} {r : List Nat} (h : r[k]? = some c) : hn w r (k + 1) = hn w r k ^^^ 2 ^ c := by
  unfold hn xs
  rw [List.take_add_one, h, List.foldl_append]
  rfl
theorem hn_val {b d w v : Nat} {r : List Nat} (R : Road b d (wd w) v r) (k : Nat) : val b (wd (hn w r k)) d = if r.length ≤ k then v else val b (wd w) d := by
  unfold hn
  rw [wd_xs]
  by_cases h : r.length ≤ k
  · rw [if_pos h, List.take_of_length_le h]
    exact R.new
  · rw [if_neg h]
    exact R.old k (by omega)
theorem road_nil {b d w v : Nat} {r : List Nat} (R : Road b d (wd w) v r) : r = [] ↔ val b (wd w) d = v := by
  refine ⟨fun e => ?_, fun e => ?_⟩
  · have := R.new
    rw [e] at this
    exact this
  · by_cases z : r = []
    · exact z
    · exact absurd e (R.ne z)
end MC
/-! The road of a code's base, found by going through the short ones. -/
namespace MC
def toldL (b : Nat) : List Nat := if b = 2 then [0, 1] else [0, 0, 1, 2]
def ones1 (m : Nat) : List (List Nat) := (List.range m).map fun i => [i]
def pairs (m i : Nat) : List (List Nat) := (List.range m).map fun j => [i, j]
def rdsL (m : Nat) : Nat → List (List Nat)
  | 0 => [] :: ones1 m
  | i + 1 => rdsL m i ++ pairs m i
def metL (x : Nat) (l : List Nat) (k : Nat) : List Nat := (List.range (k + 1)).map (hn x l)
def told (b x : Nat) : Nat := (toldL b).getD x 0
def offL (b x : Nat) (l : List Nat) : List Nat := ((List.range l.length).map (hn x l)).filter fun e => decide (told b e ≠ told b x)
def okR (b x v : Nat) (l : List Nat) : Bool := decide (told b (hn x l l.length) = v) && (decide (offL b x l = []) && (decide (l = []) == decide (told b x = v)))
theorem find_at {α : Type} {p : α → Bool} : ∀ {l : List α} {i : Nat} {a : α}, l[i]? = some a → p a = true → (∀ j b, j < i → l[j]? = some b → p b = false) → l.find? p = some a
  | [], i, a, h, _, _ => by simp at h
  | c :: r, 0, a, h, hp, _ => by
    simp at h
    subst h
    simp [hp]
  | c :: r, i + 1, a, h, hp, hn => by
    have hc := hn 0 c (by omega) rfl
    rw [List.find?_cons, hc]
    exact find_at (l := r) (i := i) (by simpa using h) hp fun j b hj hb => hn (j + 1) b (by omega) (by simpa using hb)
theorem find_none {α : Type} {p : α → Bool} {l : List α} (h : ∀ (j : Nat) b, l[j]? = some b → p b = false) : l.find? p = none := by
  rw [List.find?_eq_none]
  intro b hb
  obtain ⟨j, hj⟩ := List.getElem?_of_mem hb
  rw [h j b hj]
  decide
theorem base_found2 : ∀ x < 2, ∀ v < 2, (rdsL 1 1).find? (okR 2 x v) = some (baseR 2 x v) := by decide +kernel
theorem base_found3 : ∀ x < 4, ∀ v < 3, (rdsL 2 2).find? (okR 3 x v) = some (baseR 3 x v) := by decide +kernel
theorem base_found {b x v : Nat} (hb : b = 2 ∨ b = 3) (hx : x < 2 ^ (b - 1)) (hv : v < b) : (rdsL (b - 1) (b - 1)).find? (okR b x v) = some (baseR b x v) := by
  rcases hb with rfl | rfl
  · exact base_found2 x hx v hv
  · exact base_found3 x hx v hv
end MC
/-! The told road looks at the bits below and at the value modulo what is below. -/
namespace MC
theorem wd_ext {b : Nat} (hb : b = 2 ∨ b = 3) {w w' : Nat} (h : ∀ i, i < b - 1 → wd w i = wd w' i) : w % 2 ^ (b - 1) = w' % 2 ^ (b - 1) := by
  rcases hb with rfl | rfl
  · show w % 2 = w' % 2
    rw [bit0, bit0, h 0 (by decide)]
  · show w % 4 = w' % 4
    rw [mod4, mod4, h 0 (by decide), h 1 (by decide)]
theorem roadTo_congr {b : Nat} (hb : b = 2 ∨ b = 3) {w w' v v' : Nat} : ∀ j, (∀ i, i < b - 1 + 2 * j → wd w i = wd w' i) → v % (b * 2 ^ j) = v' % (b * 2 ^ j) → roadTo b w v j = roadTo b w' v' j
  | 0, h, hv => by
    rw [Nat.pow_zero, Nat.mul_one] at hv
    unfold roadTo
    rw [wd_ext hb fun i hi => h i (by omega), hv]
  | j + 1, h, hv => by
    have hv0 : v % (b * 2 ^ j) = v' % (b * 2 ^ j) := by
      have e : ∀ z, z % (b * 2 ^ (j + 1)) % (b * 2 ^ j) = z % (b * 2 ^ j) := fun z => by
        rw [Nat.pow_succ, ← Nat.mul_assoc]
        exact Nat.mod_mul_right_mod z _ _
      rw [← e v, hv, e]
    have hq : v / b / 2 ^ j % 2 = v' / b / 2 ^ j % 2 := by
      have e : ∀ z, z % (b * 2 ^ (j + 1)) / (b * 2 ^ j) = z / b / 2 ^ j % 2 := fun z => by
        rw [Nat.pow_succ, ← Nat.mul_assoc, Nat.mod_mul_right_div_self, Nat.div_div_eq_div_mul]
      rw [← e v, hv, e]
    have ih := roadTo_congr hb (w := w) (w' := w') (v := v) (v' := v') j (fun i hi => h i (by omega)) hv0
    have hp : par (wd w) (b - 1 + 2 * j) = par (wd w') (b - 1 + 2 * j) := par_out fun i hi => h i (by omega)
    have hc : cts (wd w) (b - 1 + 2 * j) = cts (wd w') (b - 1 + 2 * j) := by unfold cts; rw [hp]
    have hi : idl (wd w) (b - 1 + 2 * j) = idl (wd w') (b - 1 + 2 * j) := by unfold idl; rw [hp]
    obtain ⟨_, _, c3, c4⟩ := cts_ge (wd w') (b - 1 + 2 * j)
    unfold roadTo
    rw [ih, hc, hi, hq, h _ (show cts (wd w') (b - 1 + 2 * j) < b - 1 + 2 * (j + 1) by omega), h _ (show idl (wd w') (b - 1 + 2 * j) < b - 1 + 2 * (j + 1) by omega)]
theorem wd_mod (w n i : Nat) (h : i < n) : wd (w % 2 ^ n) i = wd w i := by
  unfold wd
  rw [Nat.testBit_mod_two_pow, decide_eq_true h, Bool.true_and]
theorem roadTo_low {b : Nat} (hb : b = 2 ∨ b = 3) (w v j : Nat) : roadTo b (w % 2 ^ (b - 1 + 2 * j)) (v % (b * 2 ^ j)) j = roadTo b w v j :=
  roadTo_congr hb j (fun i hi => wd_mod w _ i hi) (Nat.mod_mod _ _)
end MC
/-! A code listed, and a layout doubled: the same where the layout is a listed code. -/
namespace MD
open MC
def lisM (b d : Nat) : List (Option Nat) := (List.range (2 ^ (b - 1 + 2 * d))).map fun w => some (val b (wd w) d)
def aboM (s : Nat) (ms : List (Option Nat)) (pr x : Nat) : Option Nat := (ms.getD x none).map fun t => t + s * (pr / 2 ^ (if par (wd x) 8 then 0 else 1) % 2)
def dblM (s : Nat) (ms : List (Option Nat)) : Nat → List (Option Nat)
  | 0 => []
  | pr + 1 => dblM s ms pr ++ (List.range ms.length).map (aboM s ms pr)
theorem dbl_len (s : Nat) (ms : List (Option Nat)) : ∀ pr, (dblM s ms pr).length = pr * ms.length
  | 0 => by simp [dblM]
  | pr + 1 => by
    show (dblM s ms pr ++ _).length = _
    rw [List.length_append, dbl_len s ms pr, List.length_map, List.length_range, Nat.succ_mul]
theorem dbl_at (s : Nat) (ms : List (Option Nat)) : ∀ n pr x, pr < n → x < ms.length → (dblM s ms n)[pr * ms.length + x]? = some (aboM s ms pr x)
  | 0, _, _, h, _ => absurd h (Nat.not_lt_zero _)
  | n + 1, pr, x, h, hx => by
    show (dblM s ms n ++ (List.range ms.length).map (aboM s ms n))[_]? = _
    by_cases e : pr = n
    · subst e
      rw [List.getElem?_append_right (by rw [dbl_len]; omega), dbl_len, Nat.add_sub_cancel_left, List.getElem?_map, List.getElem?_range hx]
      rfl
    · have h1 : (pr + 1) * ms.length ≤ n * ms.length := Nat.mul_le_mul_right _ (by omega)
      rw [Nat.succ_mul] at h1
      rw [List.getElem?_append_left (by rw [dbl_len]; omega)]
      exact dbl_at s ms n pr x (by omega) hx
theorem bits_above {x n : Nat} (h : x < 2 ^ n) : ∀ k, par (wd x) (n + k) = par (wd x) n
  | 0 => rfl
  | k + 1 => by
    show xor (par (wd x) (n + k)) (wd x (n + k)) = _
    rw [bits_above h k, show wd x (n + k) = false from Nat.testBit_lt_two_pow (Nat.lt_of_lt_of_le h (Nat.pow_le_pow_right (by decide) (Nat.le_add_right _ _)))]
    exact Bool.xor_false _
theorem par8 {x n : Nat} (h : x < 2 ^ n) (hn : n ≤ 8) : par (wd x) 8 = par (wd x) n := by
  have := bits_above h (8 - n)
  rwa [show n + (8 - n) = 8 by omega] at this
theorem put_low {x pr n : Nat} (h : x < 2 ^ n) {i : Nat} (hi : i < n) : wd (pr * 2 ^ n + x) i = wd x i := by
  unfold wd
  rw [Nat.mul_comm]
  exact (Nat.testBit_two_pow_mul_add _ h i).trans (by rw [if_pos hi])
theorem put_high {x pr n : Nat} (h : x < 2 ^ n) (i : Nat) : wd (pr * 2 ^ n + x) (n + i) = wd pr i := by
  unfold wd
  rw [Nat.mul_comm]
  refine (Nat.testBit_two_pow_mul_add _ h (n + i)).trans ?_
  rw [if_neg (by omega), show n + i - n = i by omega]
theorem lis_len (b d : Nat) : (lisM b d).length = 2 ^ (b - 1 + 2 * d) := by unfold lisM; rw [List.length_map, List.length_range]
theorem lis_at {b d w : Nat} (h : w < 2 ^ (b - 1 + 2 * d)) : (lisM b d)[w]? = some (some (val b (wd w) d)) := by
  unfold lisM
  rw [List.getElem?_map, List.getElem?_range h]
  rfl
theorem abo_lis {b d : Nat} (hb : b = 2 ∨ b = 3) (hs : b - 1 + 2 * d ≤ 8) {pr x : Nat} (hx : x < 2 ^ (b - 1 + 2 * d)) : aboM (b * 2 ^ d) (lisM b d) pr x = some (val b (wd (pr * 2 ^ (b - 1 + 2 * d) + x)) (d + 1)) := by
  unfold aboM
  rw [List.getD_eq_getElem?_getD, lis_at hx]
  show some (_ + _) = _
  refine congrArg some ?_
  show _ = val b (wd (pr * 2 ^ (b - 1 + 2 * d) + x)) d + (sel (wd (pr * 2 ^ (b - 1 + 2 * d) + x)) (b - 1 + 2 * d)).toNat * (b * 2 ^ d)
  rw [val_out (j := d) hb fun i hi => put_low (pr := pr) hx hi, par8 hx hs]
  have e : (sel (wd (pr * 2 ^ (b - 1 + 2 * d) + x)) (b - 1 + 2 * d)).toNat = pr / 2 ^ (if par (wd x) (b - 1 + 2 * d) then 0 else 1) % 2 := by
    rw [bit_wd]
    unfold sel
    rw [par_out fun i hi => put_low (pr := pr) hx hi]
    have h0 := put_high (pr := pr) hx 0
    have h1 := put_high (pr := pr) hx 1
    cases par (wd x) (b - 1 + 2 * d) with
    | true => exact congrArg Bool.toNat h0
    | false => exact congrArg Bool.toNat h1
  rw [e, Nat.mul_comm (b * 2 ^ d)]
theorem dbl_lis {b d : Nat} (hb : b = 2 ∨ b = 3) (hs : b - 1 + 2 * d ≤ 8) : dblM (b * 2 ^ d) (lisM b d) 4 = lisM b (d + 1) := by
  have e4 : 2 ^ (b - 1 + 2 * (d + 1)) = 4 * 2 ^ (b - 1 + 2 * d) := by rw [show b - 1 + 2 * (d + 1) = b - 1 + 2 * d + 2 by omega, Nat.pow_add, Nat.mul_comm]
  refine List.ext_getElem? fun i => ?_
  by_cases h : i < 4 * 2 ^ (b - 1 + 2 * d)
  · have p := Nat.two_pow_pos (b - 1 + 2 * d)
    have hi : i / 2 ^ (b - 1 + 2 * d) * 2 ^ (b - 1 + 2 * d) + i % 2 ^ (b - 1 + 2 * d) = i := by
      have := Nat.div_add_mod i (2 ^ (b - 1 + 2 * d))
      rwa [Nat.mul_comm] at this
    have hm := Nat.mod_lt i p
    have hq : i / 2 ^ (b - 1 + 2 * d) < 4 := Nat.div_lt_of_lt_mul (by omega)
    have := dbl_at (b * 2 ^ d) (lisM b d) 4 (i / 2 ^ (b - 1 + 2 * d)) (i % 2 ^ (b - 1 + 2 * d)) hq (by rw [lis_len]; exact hm)
    rw [lis_len, hi, abo_lis hb hs hm, hi] at this
    rw [this, lis_at (by omega)]
  · rw [List.getElem?_eq_none (by rw [dbl_len, lis_len]; omega), List.getElem?_eq_none (by rw [lis_len]; omega)]
end MD
namespace K33
open PySem PySem.Spec PyProof.Rows L2 OB SkE LamX MD
theorem iteT' {b : Bool} {A B : Prop} (h : b = true) (a : A) : if b = true then A else B := by rw [if_pos h]; exact a
theorem iteF' {b : Bool} {A B : Prop} (h : b = false) (a : B) : if b = true then A else B := by rw [if_neg (by rw [h]; decide)]; exact a
theorem none_of {H H' : Hp} {a : Addr} (h : H' a = none) (s : Same H H') : H a = none := by
  cases e : H a with
  | none => rfl
  | some o => rw [s a o e] at h; cases h
def spListed (K : PySem.W.Frag) (C L CC CM : Addr) : Sp := fun vs H Q E => ∃ x : V, vs = [x] ∧ ((NotO K C H x ∧ RaisesP CC "code" E H) ∨ ∃ (c : Addr) (b d : Nat), x = .ref c ∧ IsCode H C c b d ∧ CodeOk b d ∧
  ((8 < b - 1 + 2 * d ∧ RaisesP CM "code" E H) ∨ (b - 1 + 2 * d ≤ 8 ∧ ∀ t H', H t = none → Same H H' → IsLay H' L t (b - 1 + 2 * d) (lisM b d) → Q (.ref t) H')))
section
variable {P : Program} {w : World} {K : PySem.W.Frag} {mg : Str → Option Value} {base : Heap}
theorem sc_listed : FnScope ["code", "word"] ["code"] (defScope s_listed) := ⟨rfl, rfl, rfl, by decide +kernel, rfl, by decide +kernel, by decide +kernel⟩
abbrev N_listed : List Str := ["code", "word"]
theorem ok_listed {f f1 f2 fI fL C L CC CM CW fM : Addr} {fd fd1 fd2 fdL fdM : FuncData} (F : Fun K "listed" "listed" s_listed f fd) (T : Blt mg) (O_Code : OwnC K mg "Code" C fI) (n4 : NoAttr K C "bits") (O_Layout : OwnC K mg "Layout" L fL)
    (D_need_code : Df K mg "need_code" s_need_code ["value"] f1 fd1) (G_need_code : FnOk P w K mg base (L2.CX P w) 4 f1 fd1 ["value"] (spNeedCode K C CC)) (D_meant_by : Df K mg "meant_by" s_meant_by ["code", "word"] f2 fd2) (GX_meant_by : FnOk P w K mg base (L2.CX P w) 6 f2 fd2 ["code", "word"] (spMeant K C CC CW)) (R_Misfit : Err P w K mg base "Misfit" "part" CM fM fdM)
    (b_Layout_init : L2.Binds K fdL ["self", "bits", "means"] []) (G_Layout_init : FnOk P w K mg base CX0 4 fL fdL ["self", "bits", "means"] (spLayInit L)) : FnOk P w K mg base (L2.CX P w) 8 f fd ["code"] (spListed K C L CC CM) := by
  have G_meant_by := calm_of GX_meant_by
  refine F.okX sc_listed (fun vs H Q E h => ?_) (fun cdv A outer s H vs Q E hr h => ?_)
  · obtain ⟨x, rfl, _⟩ := h
    rfl
  · obtain ⟨x, rfl, h⟩ := h
    refine ⟨_, (pss_cons (ps_expr (pe_callS G_need_code (hr.mono (by decide)) (by rfl) D_need_code.g D_need_code.F.kp D_need_code.b (fun σ => passAt (takes_of rfl rfl rfl rfl) σ) (pa_cons (pv 0) pa_nil)))
  (pss_cons (ps_if (pt_cmpR op_gt (pe_fld (pv 0) rfl) (pe_glob (v := .int 8) rfl T.g_MOST_BITS.choose_spec ⟨_, rfl⟩) (nomark _)) (pss_one (ps_raise1 rfl (takes_of rfl rfl rfl rfl) R_Misfit (hr.mono (by decide)) (by rfl) pe_str)) pss_nil)
  (pss_one (ps_ret (pe_make O_Layout.made G_Layout_init (hr.mono (by decide)) (by rfl) O_Layout.g b_Layout_init .nil pass0 (pa_cons (pe_fld (pv 0) rfl) (pa_cons (pe_lc (own := [("word", 1)]) (g := (gName 1)) (tt := tYes) rfl sc_listed.nd (pi_range1 (by rfl) T.n_range (pa_cons (pe_op op_oneN pe_int (pe_fld (pv 0) rfl)) pa_nil)) (blkOk_by (N := N_listed) (own := [("word", 1)]) (sc := defScope s_listed) (by decide +kernel)) (fun _ _ _ _ _ => (pg_name (i := 1) sc_listed.nd rfl (Or.inl rfl))) (fun _ _ _ _ _ => pts_nil) (fun _ _ _ _ _ => (pe_call G_meant_by (hr.mono (by decide)) (by rfl) D_meant_by.g D_meant_by.F.kp D_meant_by.b .nil pass0 (pa_cons (pv 0) (pa_cons (pv 1) pa_nil))))) pa_nil))))))), ?_⟩
    rcases h with ⟨nx, kx⟩ | ⟨c, b, d, rfl, hc, ok, h⟩
    · exact ⟨_, rfl, _, rfl, .inl ⟨nx, kx⟩⟩
    refine ⟨_, rfl, _, rfl, .inr ⟨c, b, d, rfl, hc, ?_⟩⟩
    obtain ⟨dx, fs, h1, h2, h3, h4, h5⟩ := id hc
    have hb := two_case ok
    have b2 := ok.b2
    refine ⟨_, rfl, c, C, dx, _, _, rfl, h1, O_Code.cl, n4, h5, _, _, rfl, rfl, _, rfl, ?_⟩
    rcases h with ⟨big, kx⟩ | ⟨small, k⟩
    · refine iteT' (decide_eq_true (by omega)) ?_
      refine raise1_of (W := fun cls d _ H => E cls d H) (σ := []) R_Misfit.T R_Misfit.no ?_
      exact fun d hd => kx d hd
    · refine iteF' (decide_eq_false (by omega)) ?_
      have p8 : 2 ^ (b - 1 + 2 * d) ≤ 256 := Nat.le_trans (Nat.pow_le_pow_right (by decide) small) (by decide)
      refine ⟨_, rfl, c, C, dx, _, _, rfl, h1, O_Code.cl, n4, h5, _, rfl, c, C, dx, _, _, rfl, h1, O_Code.cl, n4, h5, b - 1 + 2 * d, rfl, rfl, by omega, _, rfl, by have := M07.two_pos (b - 1 + 2 * d); omega, by have := M07.two_pos (b - 1 + 2 * d); omega, fun D hD => ?_⟩
      rw [Int.toNat_natCast]
      refine lc_range (n := 2 ^ (b - 1 + 2 * d)) (fun i H' => Same H H' ∧ H' D = some (.lst (((List.range i).map fun w => some (MC.val b (MC.wd w) d)).map mv))) ⟨same_new hD, upd_same⟩ ?_ ?_
      · rintro i H' hi ⟨S1, D1⟩
        refine ⟨rfl, _, rfl, _, rfl, _, _, rfl, .inr ⟨c, b, d, rfl, hc.same S1, ok, .inr ⟨i, congrArg V.int (Int.zero_add _), hi, fun H2 S2 => ?_⟩⟩⟩
        refine ⟨_, S2 _ _ D1, ?_, fun a o e => ?_, ?_⟩
        · rw [List.length_map, List.length_map, List.length_range, sizeLine_eq]
          omega
        · rw [upd_ne (ne_of_none e hD)]
          exact S2 _ _ (S1 a o e)
        · rw [upd_same, List.range_succ, List.map_append, List.map_append]
          rfl
      rintro H1 ⟨S1, D1⟩
      intro y dy ny ndy ney
      have vlt : ∀ w : Nat, MC.val b (MC.wd w) d < b * 2 ^ d := fun w => MC.val_lt hb _ d
      have d3 : b * 2 ^ d ≤ 64 := by
        have : d ≤ 3 := by omega
        rcases hb with rfl | rfl
        · have : 2 ^ d ≤ 2 ^ 3 := Nat.pow_le_pow_right (by decide) this
          omega
        · have : 2 ^ d ≤ 2 ^ 3 := Nat.pow_le_pow_right (by decide) this
          omega
      refine make_lay (ms := lisM b d) ⟨by omega, small, by unfold lisM; rw [List.length_map, List.length_range], fun n hn => ?_⟩ (.inl D1) ny ndy fun H2 S2 hl => ?_
      · obtain ⟨w', _, e⟩ := List.mem_map.mp hn
        have := vlt w'
        have e := Option.some.inj e
        omega
      · exact k y H2 (none_of ny S1) (S1.trans S2) hl
end
end K33
/-! A walk over a tuple or a list, whatever is done at each turn: for rows of two `for`. -/
namespace OB
open PySem PySem.Spec PyProof.Rows L2
theorem walk_tup {K : PySem.W.Frag} {a : Addr} {xs : List V} {H0 : Hp} {body : (Hp → Prop) → V → Hp → Prop} {Qd : Hp → Prop} (Pv : Nat → Hp → Prop) (h0 : Pv 0 H0) (hl : ∀ i H, i ≤ xs.length → Pv i H → SqT K H a xs)
    (hs : ∀ i x H, xs[i]? = some x → Pv i H → body (Pv (i + 1)) x H) (hd : ∀ H, Pv xs.length H → Qd H) :
    ∃ W : Nat → Nat → Hp → Prop, (∃ m, W 0 m H0) ∧ ∀ i m H, W i m H →
      ((Itt K a).stop i H ∧ Qd H) ∨ ((Itt K a).go i H ∧ ∃ Nx : Hp → Prop, (∀ H', Nx H' → ∃ m', m' < m ∧ W (i + 1) m' H') ∧ ∀ x H', (Itt K a).yld i H x H' → body Nx x H') := by
  refine ⟨fun i m H => m = xs.length - i ∧ i ≤ xs.length ∧ Pv i H, ⟨xs.length, by simp, Nat.zero_le _, h0⟩, ?_⟩
  rintro i m H ⟨rfl, hi, p⟩
  have q := hl i H hi p
  by_cases hlt : i < xs.length
  · refine .inr ⟨⟨xs, xs[i], q, by simp [hlt]⟩, Pv (i + 1), fun H' p' => ⟨xs.length - (i + 1), by omega, rfl, hlt, p'⟩, fun x H' y => ?_⟩
    obtain ⟨e, y⟩ := y
    subst e
    exact hs i x _ (y xs q) p
  · have e : i = xs.length := by omega
    subst e
    exact .inl ⟨⟨xs, q, Nat.le_refl _⟩, hd H p⟩
theorem walk_lst {K : PySem.W.Frag} {a : Addr} {xs : List V} {H0 : Hp} {body : (Hp → Prop) → V → Hp → Prop} {Qd : Hp → Prop} (Pv : Nat → Hp → Prop) (h0 : Pv 0 H0) (hl : ∀ i H, i ≤ xs.length → Pv i H → SqL K H a xs)
    (hs : ∀ i x H, xs[i]? = some x → Pv i H → body (Pv (i + 1)) x H) (hd : ∀ H, Pv xs.length H → Qd H) :
    ∃ W : Nat → Nat → Hp → Prop, (∃ m, W 0 m H0) ∧ ∀ i m H, W i m H →
      ((Itl K a).stop i H ∧ Qd H) ∨ ((Itl K a).go i H ∧ ∃ Nx : Hp → Prop, (∀ H', Nx H' → ∃ m', m' < m ∧ W (i + 1) m' H') ∧ ∀ x H', (Itl K a).yld i H x H' → body Nx x H') := by
  refine ⟨fun i m H => m = xs.length - i ∧ i ≤ xs.length ∧ Pv i H, ⟨xs.length, by simp, Nat.zero_le _, h0⟩, ?_⟩
  rintro i m H ⟨rfl, hi, p⟩
  have q := hl i H hi p
  by_cases hlt : i < xs.length
  · refine .inr ⟨⟨xs, xs[i], q, by simp [hlt]⟩, Pv (i + 1), fun H' p' => ⟨xs.length - (i + 1), by omega, rfl, hlt, p'⟩, fun x H' y => ?_⟩
    obtain ⟨e, y⟩ := y
    subst e
    exact hs i x _ (y xs q) p
  · have e : i = xs.length := by omega
    subst e
    exact .inl ⟨⟨xs, q, Nat.le_refl _⟩, hd H p⟩
end OB
/-! A range gone through, for a row of two `for`. -/
namespace OB
open PySem PySem.Spec PyProof.Rows L2
theorem walk_rng {lo : Int} {n : Nat} {H0 : Hp} {body : (Hp → Prop) → V → Hp → Prop} {Qd : Hp → Prop} (Pv : Nat → Hp → Prop) (h0 : Pv 0 H0)
    (hs : ∀ i H, i < n → Pv i H → body (Pv (i + 1)) (.int (lo + (i : Int))) H) (hd : ∀ H, Pv n H → Qd H) :
    ∃ W : Nat → Nat → Hp → Prop, (∃ m, W 0 m H0) ∧ ∀ i m H, W i m H →
      ((Itr lo n).stop i H ∧ Qd H) ∨ ((Itr lo n).go i H ∧ ∃ Nx : Hp → Prop, (∀ H', Nx H' → ∃ m', m' < m ∧ W (i + 1) m' H') ∧ ∀ x H', (Itr lo n).yld i H x H' → body Nx x H') := by
  refine ⟨fun i m H => m = n - i ∧ i ≤ n ∧ Pv i H, ⟨n, by simp, Nat.zero_le _, h0⟩, ?_⟩
  rintro i m H ⟨rfl, hi, p⟩
  by_cases hlt : i < n
  · refine .inr ⟨hlt, Pv (i + 1), fun H' p' => ⟨n - (i + 1), by omega, rfl, hlt, p'⟩, fun x H' y => ?_⟩
    obtain ⟨e, y⟩ := y
    subst e
    subst y
    exact hs i _ hlt p
  · have e : i = n := by omega
    subst e
    exact .inl ⟨Nat.le_refl _, hd H p⟩
end OB
namespace K33
open PySem PySem.Spec PyProof.Rows L2 OB SkE LamX MD
def isGrt (k : Nat) : Option Nat → Bool
  | none => false
  | some n => decide (k ≤ n)
def grt (k : Nat) (ms : List (Option Nat)) : Bool := ms.any (isGrt k)
theorem grt_none {k : Nat} {ms : List (Option Nat)} (h : grt k ms = false) : ∀ n, some n ∈ ms → n < k := fun n hn => by
  by_cases z : n < k
  · exact z
  · have : grt k ms = true := List.any_eq_true.mpr ⟨some n, hn, decide_eq_true (by omega)⟩
    rw [this] at h
    cases h
theorem dbl_small {s : Nat} {ms : List (Option Nat)} (hs : s ≤ 32) (hm : ∀ n, some n ∈ ms → n < s) : ∀ pr n, some n ∈ dblM s ms pr → n ≤ 63
  | 0, n, h => absurd h List.not_mem_nil
  | pr + 1, n, h => by
    rcases List.mem_append.mp (show some n ∈ dblM s ms pr ++ (List.range ms.length).map (aboM s ms pr) from h) with h | h
    · exact dbl_small hs hm pr n h
    · obtain ⟨x, hx, e⟩ := List.mem_map.mp h
      have hx := List.mem_range.mp hx
      unfold aboM at e
      rw [List.getD_eq_getElem?_getD, List.getElem?_eq_getElem hx] at e
      cases e2 : ms[x] with
      | none => rw [e2] at e; cases e
      | some t =>
        rw [e2] at e
        have e : t + s * (pr / 2 ^ (if MC.par (MC.wd x) 8 then 0 else 1) % 2) = n := Option.some.inj e
        have ht := hm t (by rw [← e2]; exact List.getElem_mem hx)
        have b : s * (pr / 2 ^ (if MC.par (MC.wd x) 8 then 0 else 1) % 2) ≤ s * 1 := Nat.mul_le_mul_left _ (by omega)
        omega
def spDoubled (K : PySem.W.Frag) (L CB CN CM : Addr) : Sp := fun vs H Q E => ∃ x z : V, vs = [x, z] ∧ ((NotO K L H x ∧ RaisesP CB "layout" E H) ∨ ∃ (a : Addr) (b : Nat) (ms : List (Option Nat)), x = .ref a ∧ IsLay H L a b ms ∧ LayOk b ms ∧
  ((Bad K H z (some 1) (some 64) ∧ RaisesP CN "states" E H) ∨ ∃ s : Nat, z = .int (s : Int) ∧ 1 ≤ s ∧ s ≤ 64 ∧
    ((8 < b + 2 ∧ RaisesP CM "bits" E H) ∨ (b + 2 ≤ 8 ∧ (((32 < s ∨ grt s ms = true) ∧ ∀ H', Same H H' → RaisesP CM "states" E H') ∨ (s ≤ 32 ∧ grt s ms = false ∧ ∀ t H', H t = none → Same H H' → IsLay H' L t (b + 2) (dblM s ms 4) → Q (.ref t) H'))))))
section
variable {P : Program} {w : World} {K : PySem.W.Frag} {mg : Str → Option Value} {base : Heap}
theorem sc_doubled : FnScope ["layout", "states", "state", "means", "pair", "word"] ["layout", "states"] (defScope s_doubled) := ⟨rfl, rfl, rfl, by decide +kernel, rfl, by decide +kernel, by decide +kernel⟩
abbrev N_doubled : List Str := ["layout", "states", "state", "means", "pair", "word"]
theorem ok_doubled {f f1 f2 f3 fL L CB CN CM fM : Addr} {fd fd1 fd2 fd3 fdL fdM : FuncData} (F : Fun K "doubled" "doubled" s_doubled f fd) (T : Blt mg) (O_Layout : OwnC K mg "Layout" L fL) (n1 : NoAttr K L "bits") (n2 : NoAttr K L "means")
    (D_need_layout : Df K mg "need_layout" s_need_layout ["value", "part"] f1 fd1) (G_need_layout : FnOk P w K mg base (L2.CX P w) 4 f1 fd1 ["value", "part"] (spNeedLayX K L CB)) (D_need_number : Df K mg "need_number" s_need_number ["value", "part", "least", "most"] f2 fd2) (G_need_number : FnOk P w K mg base (L2.CX P w) 4 f2 fd2 ["value", "part", "least", "most"] (spNeedNumber K CN)) (D__meant_above : Df K mg "_meant_above" s__meant_above ["layout", "word", "pair", "states"] f3 fd3) (G__meant_above : FnOk P w K mg base CX0 6 f3 fd3 ["layout", "word", "pair", "states"] (spAbove L)) (R_Misfit : Err P w K mg base "Misfit" "part" CM fM fdM)
    (b_Layout_init : L2.Binds K fdL ["self", "bits", "means"] []) (G_Layout_init : FnOk P w K mg base CX0 4 fL fdL ["self", "bits", "means"] (spLayInit L)) : FnOk P w K mg base (L2.CX P w) 8 f fd ["layout", "states"] (spDoubled K L CB CN CM) := by
  refine F.okX sc_doubled (fun vs H Q E h => ?_) (fun cdv A outer s H vs Q E hr h => ?_)
  · obtain ⟨x, z, rfl, _⟩ := h
    rfl
  · obtain ⟨x, z, rfl, h⟩ := h
    refine ⟨_, (pss_cons (ps_expr (pe_callS G_need_layout (hr.mono (by decide)) (by rfl) D_need_layout.g D_need_layout.F.kp D_need_layout.b (fun σ => passAt (takes_of rfl rfl rfl rfl) σ) (pa_cons (pv 0) (pa_cons pe_str pa_nil))))
  (pss_cons (ps_expr (pe_callS G_need_number (hr.mono (by decide)) (by rfl) D_need_number.g D_need_number.F.kp D_need_number.b (fun σ => passAt (takes_of rfl rfl rfl rfl) σ) (pa_cons (pv 1) (pa_cons pe_str (pa_cons pe_int (pa_cons (pe_glob (v := .int 64) rfl T.g_MOST_STATES.choose_spec ⟨_, rfl⟩) pa_nil))))))
  (pss_cons (ps_if (pt_cmpR op_gt (pe_op op_add (pe_fld (pv 0) rfl) pe_int) (pe_glob (v := .int 8) rfl T.g_MOST_BITS.choose_spec ⟨_, rfl⟩) (nomark _)) (pss_one (ps_raise1 rfl (takes_of rfl rfl rfl rfl) R_Misfit (hr.mono (by decide)) (by rfl) pe_str)) pss_nil)
  (pss_cons (ps_if (PW.pt (pw_or (pt_cmpR op_gt (pe_op op_mul pe_int (pv 1)) (pe_glob (v := .int 64) rfl T.g_MOST_STATES.choose_spec ⟨_, rfl⟩) (nomark _)) (pw_or1 (pt_val (pe_callB (cr_any rfl) (by rfl) T.n_any (by decide +kernel) (pa_cons (pe_lc (own := [("state", 2)]) (g := (gName 2)) (tt := tYes) rfl sc_doubled.nd (pi_tup (pe_fld (pv 0) rfl)) (blkOk_by (N := N_doubled) (own := [("state", 2)]) (sc := defScope s_doubled) (by decide +kernel)) (fun _ _ _ _ _ => (pg_name (i := 2) sc_doubled.nd rfl (Or.inl rfl))) (fun _ _ _ _ _ => pts_nil) (fun _ _ _ _ _ => (pe_and (pe_cmpR op_notN (pv 2) pe_non (nomark _)) (pe_one (pe_cmpR op_ge (pv 2) (pv 1) (nomark _)))))) pa_nil)))))) (pss_one (ps_raise1 rfl (takes_of rfl rfl rfl rfl) R_Misfit (hr.mono (by decide)) (by rfl) pe_str)) pss_nil)
  (pss_cons (ps_setLc2 (i := 3) (own := [("pair", 4), ("word", 5)]) (vs1 := [5]) (g := (gName 4)) (g1 := (gName 5)) (tt := tYes) (tt1 := tYes) (wi1 := iRng1 (tCons (tCB (fun xs H Q => ∃ p ys, xs = [V.ref p] ∧ (SqL K H p ys ∨ SqT K H p ys) ∧ Q (V.int (ys.length : Int)) H) (tCons (tFld K (tVar 0) "means") tNil)) tNil)) rfl sc_doubled.nd rfl rfl (sw_true rfl rfl rfl (by decide +kernel)) (pi_range1 (by rfl) T.n_range (pa_cons pe_int pa_nil)) (blkOk_by (N := N_doubled) (own := [("pair", 4), ("word", 5)]) (sc := defScope s_doubled) (by decide +kernel)) (by decide) (fun _ _ _ _ _ => (pg_name (i := 4) sc_doubled.nd rfl (Or.inl rfl))) (fun _ _ _ _ _ => pts_nil) (fun _ _ _ _ _ => (pi_range1 (by rfl) T.n_range (pa_cons (pe_callB call_len_seq (by rfl) T.n_len (by decide +kernel) (pa_cons (pe_fld (pv 0) rfl) pa_nil)) pa_nil))) (fun _ _ _ _ _ => (pg_name (i := 5) sc_doubled.nd rfl (Or.inl rfl))) (fun _ _ _ _ _ => pts_nil) (fun _ _ _ _ _ => (pe_call G__meant_above (hr.mono (by decide)) (by rfl) D__meant_above.g D__meant_above.F.kp D__meant_above.b .nil pass0 (pa_cons (pv 0) (pa_cons (pv 5) (pa_cons (pv 4) (pa_cons (pv 1) pa_nil)))))))
  (pss_one (ps_ret (pe_make O_Layout.made G_Layout_init (hr.mono (by decide)) (by rfl) O_Layout.g b_Layout_init .nil pass0 (pa_cons (pe_op op_add (pe_fld (pv 0) rfl) pe_int) (pa_cons (pv 3) pa_nil)))))))))), ?_⟩
    rcases h with ⟨nx, kx⟩ | ⟨a, b, ms, rfl, hL, ok, h⟩
    · exact ⟨_, rfl, _, "layout", rfl, .inl ⟨nx, kx⟩⟩
    refine ⟨_, rfl, _, "layout", rfl, .inr ⟨a, b, ms, rfl, hL, ?_⟩⟩
    rcases h with ⟨⟨c, hI, hb⟩, kx⟩ | ⟨s', rfl, s1, s2, h⟩
    · exact ⟨_, rfl, _, "states", some 1, some 64, c, rfl, hI, fun z => yes_no z hb, fun _ => kx⟩
    refine ⟨_, rfl, _, "states", some 1, some 64, true, rfl, isI_int _, fun _ => ?_, fun z => yes_no (in_bounds (by omega) (by omega)) z⟩
    obtain ⟨dx, fs, t, h1, h2, h3, h4⟩ := id hL
    refine ⟨_, rfl, a, L, dx, _, _, rfl, h1, O_Layout.cl, n1, h2, _, _, rfl, rfl, _, _, rfl, rfl, _, rfl, ?_⟩
    rcases h with ⟨big, kx⟩ | ⟨small, h⟩
    · refine iteT' (decide_eq_true (by omega)) ?_
      refine raise1_of (σ := []) (W := fun cls d _ H => E cls d H) R_Misfit.T R_Misfit.no ?_
      exact fun d hd => kx d hd
    refine iteF' (decide_eq_false (by omega)) ?_
    refine ⟨_, rfl, _, _, rfl, rfl, .inl ⟨by decide, by decide⟩, _, _, rfl, rfl, _, rfl, ?_⟩
    by_cases wide : 32 < s'
    · refine iteT' (decide_eq_true (by omega)) ?_
      rcases h with ⟨_, kx⟩ | ⟨z, _⟩
      · refine iteT ?_
        refine raise1_of (σ := []) (W := fun cls d _ H => E cls d H) R_Misfit.T R_Misfit.no ?_
        exact fun d hd => kx H (fun _ _ e => e) d hd
      · omega
    refine iteF' (decide_eq_false (by omega)) ?_
    have sm : s' ≤ 32 := by omega
    have lx := ok.len
    have p8 : 2 ^ b ≤ 256 := Nat.le_trans (Nat.pow_le_pow_right (by decide) ok.b8) (by decide)
    refine ⟨_, rfl, a, L, dx, _, _, rfl, h1, O_Layout.cl, n2, h3, t, rfl, ⟨_, SqT.of h4⟩, fun D hD => ?_⟩
    have mem : ∀ {j : Nat} {x : V}, (ms.map mv)[j]? = some x → ∃ m, ms[j]? = some m ∧ x = mv m := fun {j x} e => by
      rw [List.getElem?_map] at e
      cases e2 : ms[j]? with
      | none => rw [e2] at e; cases e
      | some m => rw [e2] at e; exact ⟨m, rfl, (Option.some.inj e).symm⟩
    refine lc_tup (K := K) (a := t) (xs := ms.map mv) (fun i H' => Same H H' ∧ H' D = some (.lst (((ms.map (isGrt s')).take i).map V.bl))) ⟨same_new hD, upd_same⟩ (fun i H' _ h => SqT.of (h.1 _ _ h4)) ?_ ?_
    · rintro i x H' hx ⟨S2, hl2⟩
      obtain ⟨m, hm, rfl⟩ := mem hx
      have hi := (List.getElem?_eq_some_iff.mp hm).1
      have fin : ∀ y, y = V.bl (isGrt s' m) → ∃ acc, H' D = some (.lst acc) ∧ acc.length < sizeLine ∧ (Same H (upd H' D (.lst (acc ++ [y]))) ∧ (upd H' D (.lst (acc ++ [y]))) D = some (.lst (((ms.map (isGrt s')).take (i + 1)).map V.bl))) := fun y hy => by
        refine ⟨_, hl2, by rw [List.length_map, List.length_take, List.length_map, sizeLine_eq]; omega, fun a o ea => ?_, ?_⟩
        · rw [upd_ne (ne_of_none ea hD)]
          exact S2 a o ea
        · rw [upd_same, hy, List.take_add_one, List.getElem?_map, hm, List.map_append]
          rfl
      cases m with
      | none =>
        refine ⟨rfl, _, rfl, rfl, _, rfl, iteF ?_⟩
        exact fin _ rfl
      | some n =>
        refine ⟨rfl, _, rfl, rfl, _, rfl, iteT ?_⟩
        refine ⟨_, rfl, _, rfl, _, _, rfl, rfl, fin _ ?_⟩
        show V.bl (decide ((s' : Int) ≤ (n : Int))) = V.bl (decide (s' ≤ n))
        rw [decide_eq_decide.mpr Int.ofNat_le]
    rintro H2 ⟨S2, hl2⟩
    rw [List.length_map, List.take_of_length_le (by rw [List.length_map]; omega)] at hl2
    have e : (ms.map (isGrt s')).any id = grt s' ms := by
      unfold grt
      rw [List.any_map]
      rfl
    refine ⟨D, ms.map (isGrt s'), rfl, SqL.of hl2, ?_⟩
    rw [e]
    cases hg : grt s' ms with
    | true =>
      refine ⟨true, rfl, iteT ?_⟩
      rcases h with ⟨_, kx⟩ | ⟨_, z, _⟩
      · refine raise1_of (σ := []) (W := fun cls d _ H => E cls d H) R_Misfit.T R_Misfit.no ?_
        exact fun d hd => kx H2 S2 d hd
      · rw [hg] at z
        cases z
    | false =>
      refine ⟨false, rfl, iteF ?_⟩
      rcases h with ⟨w, _⟩ | ⟨_, _, k⟩
      · rcases w with w | w
        · omega
        · rw [hg] at w
          cases w
      refine ⟨_, rfl, by decide, by decide, fun D2 hD2 => ?_⟩
      have dl : ∀ pr, (dblM s' ms pr).length = pr * ms.length := fun pr => by
        induction pr with
        | zero => simp [dblM]
        | succ pr ih =>
          show (dblM s' ms pr ++ _).length = _
          rw [List.length_append, ih, List.length_map, List.length_range, Nat.succ_mul]
      refine walk_rng (lo := 0) (n := 4) (fun i H' => Same H2 H' ∧ H' D2 = some (.lst ((dblM s' ms i).map mv))) ⟨same_new hD2, upd_same⟩ ?_ ?_
      · rintro pr H' hp ⟨S3, hl3⟩
        have S23 := S2.trans S3
        refine ⟨rfl, _, rfl, a, L, dx, _, _, rfl, S23 _ _ h1, O_Layout.cl, n2, h3, t, ms.map mv, rfl, .inr (SqT.of (S23 _ _ h4)), _, rfl, by omega, by rw [List.length_map]; omega, ?_⟩
        rw [Int.toNat_natCast, List.length_map]
        refine walk_rng (lo := 0) (n := ms.length) (fun j H'' => Same H2 H'' ∧ H'' D2 = some (.lst ((dblM s' ms pr).map mv ++ ((List.range j).map (aboM s' ms pr)).map mv))) ⟨S3, by rw [hl3]; simp⟩ ?_ ?_
        · rintro j H'' hj ⟨S4, hl4⟩
          obtain ⟨m, hm⟩ : ∃ m, ms[j]? = some m := ⟨_, List.getElem?_eq_getElem hj⟩
          have hL4 := hL.same (S2.trans S4)
          have eA : aboM s' ms pr j = m.map fun t => t + s' * (pr / 2 ^ (if MC.par (MC.wd j) 8 then 0 else 1) % 2) := by
            unfold aboM
            rw [List.getD_eq_getElem?_getD, hm]
            rfl
          refine ⟨rfl, _, rfl, _, rfl, _, rfl, _, rfl, a, b, ms, j, pr, s', m, ?_, hL4, hm, by omega, by omega, ?_⟩
          · show [V.ref a, V.int (0 + (j : Int)), V.int (0 + (pr : Int)), V.int (s' : Int)] = _
            rw [Int.zero_add, Int.zero_add]
          rw [← eA]
          refine ⟨_, hl4, ?_, fun a o e => ?_, ?_⟩
          · rw [List.length_append, List.length_map, dl, List.length_map, List.length_map, List.length_range, sizeLine_eq]
            have : pr * ms.length ≤ 3 * ms.length := Nat.mul_le_mul_right _ (by omega)
            omega
          · rw [upd_ne (ne_of_none e hD2)]
            exact S4 a o e
          · rw [upd_same, List.range_succ, List.map_append, List.map_append, List.append_assoc]
            rfl
        · rintro H'' ⟨S4, hl4⟩
          refine ⟨S4, ?_⟩
          rw [hl4]
          show _ = some (HO.lst ((dblM s' ms pr ++ (List.range ms.length).map (aboM s' ms pr)).map mv))
          rw [List.map_append]
      · rintro H3 ⟨S3, hl3⟩
        refine ⟨_, rfl, a, L, dx, _, _, rfl, (S2.trans S3) _ _ h1, O_Layout.cl, n1, h2, _, _, rfl, rfl, _, rfl, ?_⟩
        intro y dy ny ndy ney
        have S23 := S2.trans S3
        have eb : (b : Int) + 2 = ((b + 2 : Nat) : Int) := by omega
        show spLayInit L [V.ref y, V.int ((b : Int) + 2), V.ref D2] _ _ _
        rw [eb]
        have gr := hg
        refine make_lay (ms := dblM s' ms 4) ⟨by omega, small, by rw [dl, lx, Nat.pow_add]; omega, fun n hn => ?_⟩ (.inl hl3) ny ndy fun H4 S4 hl => k y H4 (none_of ny S23) (S23.trans S4) hl
        exact dbl_small sm (grt_none hg) 4 n hn
end
end K33
/-! isinstance(e, (C1, C2)), e an exception that is kept. -/
namespace OB
open PySem PySem.Spec PyProof.Rows L2
def rIsXT (K : PySem.W.Frag) : List V → Hp → VK → Prop := fun xs H Q => ∃ (a D : Addr) (d : Option Addr) (tp : Addr) (cs : List V) (us : List Value) (b : Bool), xs = [.ref a, .ref tp] ∧ ExcC K D ∧ H a = some (ExA (.ref D) d a) ∧ (∀ dd, d = some dd → ∃ fs, H dd = some (.xd fs)) ∧ H tp = some (.tup cs) ∧ Paired ClsV cs us ∧ PySem.W.kitAny K (.ref D) us = some b ∧ Q (.bl b) H
theorem call_isXT {X : Cx} : CallR X (.builtin "isinstance") (rIsXT X.K) := by
  intro pins s σ H xs us Q I r h
  obtain ⟨a, D, d, tp, cs, ws, b, rfl, C, ha, hd, hT, k, e, q⟩ := h
  obtain ⟨u1, u2, rfl, r1, r2⟩ := vals2 r
  obtain rfl : u1 = Value.ref a := r1
  obtain rfl : u2 = Value.ref tp := r2
  obtain ⟨oe, od, J⟩ := inst_at I ha hd
  have tupOk : ObjOk X.prog X.w H s.heap tp (.tup cs) := I.hok tp _ hT
  obtain ⟨_, its, rv, ob, g1, g2, n, g3⟩ := tupOk
  obtain rfl := ClsV.all k rv
  obtain ⟨oc, odd, dt, sl⟩ := ob
  simp only at g2 g3
  subst g2 g3
  exact PySem.W.kia_tup (exc_kit C) I.kIn J g1 e (fun z => nomatch z) fun tk => ⟨.bl b, H, I.tok tk, rfl, q⟩
end OB
/-! Lambdas by generator: what they bind, and that a call's reading grows with what is wanted. -/
namespace OB
open PySem PySem.Spec PyProof.Rows L2 LamX
def MTA (t : TA) : Prop := ∀ σ H (Q1 Q2 : List V → Hp → Prop), (∀ vs H, Q1 vs H → Q2 vs H) → t σ H Q1 → t σ H Q2
def MTE (t : TE) : Prop := ∀ σ H (Q1 Q2 : VK), (∀ v H, Q1 v H → Q2 v H) → t σ H Q1 → t σ H Q2
theorem mta_nil : MTA tNil := fun σ H Q1 Q2 h z => h _ _ z
theorem mta_cons {a : TE} {r : TA} (ha : MTE a) (hr : MTA r) : MTA (tCons a r) := fun σ H Q1 Q2 h z => ha σ H _ _ (fun x H1 z1 => hr σ H1 _ _ (fun xs H2 z2 => h _ _ z2) z1) z
theorem mte_var {i : Nat} : MTE (tVar i) := fun σ H Q1 Q2 h ⟨v, e, z⟩ => ⟨v, e, h _ _ z⟩
theorem mte_c {v : V} : MTE (tC v) := fun σ H Q1 Q2 h z => h _ _ z
theorem mte_lst {t : TA} (ht : MTA t) : MTE (tLst t) := fun σ H Q1 Q2 h z => ht σ H _ _ (fun xs H1 ⟨l, z1⟩ => ⟨l, fun p hp => h _ _ (z1 p hp)⟩) z
theorem mte_tup {t : TA} (ht : MTA t) : MTE (tTup t) := fun σ H Q1 Q2 h z => ht σ H _ _ (fun xs H1 ⟨l, z1⟩ => ⟨l, fun p hp => h _ _ (z1 p hp)⟩) z
def SpMono (sp : Sp) : Prop := ∀ vs H (Q1 Q2 : VK) (E1 E2 : XK), (∀ c d H, E1 c d H → E2 c d H) → (∀ v H, Q1 v H → Q2 v H) → sp vs H Q1 E1 → sp vs H Q2 E2
theorem mono_S {sp : Sp} {t : TA} (hs : SpMono sp) (ht : MTA t) : ∀ σ : L2.St, MonoL fun E H' Q' => tCallS sp (WE fun cls d _ H => E cls d H) t σ H' Q' :=
  fun σ E1 E2 H Q1 Q2 hE hQ z => ht σ H _ _ (fun vs H1 z1 => hs _ _ _ _ _ _ (fun c d H => hE c d H) (fun v H => hQ v H) z1) z
theorem mono_KS {sp : Sp} {gV : List V → List V → List V} {t : TA} (hs : SpMono sp) (ht : MTA t) : ∀ σ : L2.St, MonoL fun E H' Q' => tCallKS sp gV (WE fun cls d _ H => E cls d H) tNil t σ H' Q' :=
  fun σ E1 E2 H Q1 Q2 hE hQ z => ht σ H _ _ (fun vs H1 z1 => hs _ _ _ _ _ _ (fun c d H => hE c d H) (fun v H => hQ v H) z1) z
theorem bind_0 {pr : Arguments} (h : ∀ (q : Str) (body : Expr) (scope : Scope) (cl : List (Str × Addr)) (pm cv ctv : Value), bindArgs (lFn q pr body scope cl .none pm cv ctv) ⟨[], []⟩ = pure []) : ∀ ds : List Value, Vals (([] : List Int).map V.int) ds → LamB pr [] ds := fun ds rd => by
  cases rd
  exact lamB0 h
theorem bind_1 {pr : Arguments} {a : Str} {n : Int} (h : ∀ (d : Value) (q : Str) (body : Expr) (scope : Scope) (cl : List (Str × Addr)) (T : Addr) (pm cv ctv : Value), ∃ k, bindArgs (lFn q pr body scope cl (.ref T) pm cv ctv) ⟨[], []⟩ = seqItems? (.ref T) >>= k ∧ k (some #[d]) = pure [(a, d)]) :
    ∀ ds : List Value, Vals (([n] : List Int).map V.int) ds → LamB pr [a] ds := fun ds rd => by
  cases rd with
  | cons r rr =>
    cases rr
    exact lamB1 (h _)
theorem hu_0 {P1 : Addr} {q1 : Str} : ∀ p ∈ [(P1, q1)], p.1 = P1 → p.2 = q1 := fun p hp _ => congrArg Prod.snd (List.mem_singleton.mp hp)
theorem hu_1 {P1 P2 : Addr} {q1 q2 : Str} (n : P1 ≠ P2) : ∀ p ∈ [(P1, q1), (P2, q2)], p.1 = P1 → p.2 = q1 := fun p hp e => by
  rcases List.mem_cons.mp hp with rfl | hp
  · rfl
  · rw [List.mem_singleton.mp hp] at e
    exact absurd e.symm n
theorem hu_2 {P1 P2 : Addr} {q1 q2 : Str} (n : P1 ≠ P2) : ∀ p ∈ [(P1, q1), (P2, q2)], p.1 = P2 → p.2 = q2 := fun p hp e => by
  rcases List.mem_cons.mp hp with rfl | hp
  · exact absurd e n
  · exact congrArg Prod.snd (List.mem_singleton.mp hp)
end OB
namespace K33
open PySem PySem.Spec PyProof.Rows L2 OB SkE LamX MD
structure ErrR (K : PySem.W.Frag) (CF C : Addr) : Prop where
  xf : XfC K C
  ec : ExcC K C
  ex : PySem.W.exmOne K (.ref C) (.ref CF) = some true
  no : PySem.W.findIn K (.ref C) "part" = some none
structure Kinds (K : PySem.W.Frag) (mg : Str → Option Value) (CF CC CL CN CM : Addr) : Prop where
  gF : mg "FlipError" = some (.ref CF)
  gC : mg "BadCode" = some (.ref CC)
  gL : mg "BadLayout" = some (.ref CL)
  gN : mg "BadNumber" = some (.ref CN)
  gM : mg "Misfit" = some (.ref CM)
  rC : ErrR K CF CC
  rL : ErrR K CF CL
  rN : ErrR K CF CN
  rM : ErrR K CF CM
  kCC : PySem.W.kitOne K (.ref CC) (.ref CC) = some true
  kCL : PySem.W.kitOne K (.ref CC) (.ref CL) = some false
  kCN : PySem.W.kitOne K (.ref CC) (.ref CN) = some false
  kCM : PySem.W.kitOne K (.ref CC) (.ref CM) = some false
  kLC : PySem.W.kitOne K (.ref CL) (.ref CC) = some false
  kLL : PySem.W.kitOne K (.ref CL) (.ref CL) = some true
  kLN : PySem.W.kitOne K (.ref CL) (.ref CN) = some false
  kLM : PySem.W.kitOne K (.ref CL) (.ref CM) = some false
  kNC : PySem.W.kitOne K (.ref CN) (.ref CC) = some false
  kNL : PySem.W.kitOne K (.ref CN) (.ref CL) = some false
  kNN : PySem.W.kitOne K (.ref CN) (.ref CN) = some true
  kNM : PySem.W.kitOne K (.ref CN) (.ref CM) = some false
  kMC : PySem.W.kitOne K (.ref CM) (.ref CC) = some false
  kML : PySem.W.kitOne K (.ref CM) (.ref CL) = some false
  kMN : PySem.W.kitOne K (.ref CM) (.ref CN) = some false
  kMM : PySem.W.kitOne K (.ref CM) (.ref CM) = some true
  zC : PySem.W.kitOne K (.type "NoneType") (.ref CC) = some false
  zL : PySem.W.kitOne K (.type "NoneType") (.ref CL) = some false
  zN : PySem.W.kitOne K (.type "NoneType") (.ref CN) = some false
  zM : PySem.W.kitOne K (.type "NoneType") (.ref CM) = some false
theorem kitA1 {K : PySem.W.Frag} {t a b : Value} (h : PySem.W.kitOne K t a = some true) : PySem.W.kitAny K t [a, b] = some true := by
  unfold PySem.W.kitAny
  rw [h]
theorem kitA2 {K : PySem.W.Frag} {t a b : Value} (h : PySem.W.kitOne K t a = some false) (h2 : PySem.W.kitOne K t b = some true) : PySem.W.kitAny K t [a, b] = some true := by
  unfold PySem.W.kitAny
  rw [h]
  show PySem.W.kitAny K t [b] = some true
  unfold PySem.W.kitAny
  rw [h2]
theorem kitA0 {K : PySem.W.Frag} {t a b : Value} (h : PySem.W.kitOne K t a = some false) (h2 : PySem.W.kitOne K t b = some false) : PySem.W.kitAny K t [a, b] = some false := by
  unfold PySem.W.kitAny
  rw [h]
  show PySem.W.kitAny K t [b] = some false
  unfold PySem.W.kitAny
  rw [h2]
  rfl
def TTheard (CC CL CN CM : Addr) : List V → (XK → Hp → VK → Prop) → Hp → VK → Prop := fun vs tl H Q => vs = [] ∧
  tl (fun cls d H' => ∃ (dd : Addr) (part : Str), d = some dd ∧ H' dd = some (.xd [(("part" : Str), .str part)]) ∧
    ((cls = .ref CC ∧ ∀ p H'', Same H' H'' → H'' p = some (.tup [.str "code", .str part]) → Q (.ref p) H'') ∨ (cls = .ref CL ∧ ∀ p H'', Same H' H'' → H'' p = some (.tup [.str "layout", .str part]) → Q (.ref p) H'') ∨ (cls = .ref CN ∧ ∀ p H'', Same H' H'' → H'' p = some (.tup [.str "number", .str part]) → Q (.ref p) H'') ∨ (cls = .ref CM ∧ ∀ p H'', Same H' H'' → H'' p = some (.tup [.str "misfit", .str part]) → Q (.ref p) H''))) H fun _ H' => ∀ H'', Same H' H'' → Q .non H''
section
theorem sc__law_heard : FnScope ["ask", "caught", "error"] ["ask"] (defScope s__law_heard) := ⟨rfl, rfl, rfl, by decide +kernel, rfl, by decide +kernel, by decide +kernel⟩
abbrev N__law_heard : List Str := ["ask", "caught", "error"]
theorem heard_gives {X : Cx} {g CF CC CL CN CM : Addr} {cdg : Value} {q : Str} {kk : Nat} (Z : Kinds X.K X.mg CF CC CL CN CM) (T : Blt X.mg) : Gives X ["ask", "caught", "error"] "_law_heard" (defScope s__law_heard) g cdg (defBody s__law_heard) "ask" q kk (TTheard CC CL CN CM) := by
  intro f c' vs s H Q tl hr act hc mono h
  obtain ⟨rfl, h⟩ := h
  have g_FlipError := Z.gF
  have g_BadCode := Z.gC
  have g_BadLayout := Z.gL
  have g_BadNumber := Z.gN
  have g_Misfit := Z.gM
  refine ⟨_, (pss_cons (ps_set (i := 1) sc__law_heard.nd rfl (Or.inl rfl) pe_non)
  (pss_cons (ps_try_keep (i := 2) (j := 1) (Wout := fun _ _ _ _ => False) rfl rfl rfl sc__law_heard.nd rfl rfl rfl rfl ⟨by rfl, by decide, .inl g_FlipError⟩ L2.takes0 (fun W pn xe tk _ => (pss_one (ps_expr (act W pn xe _ _ tk)))))
  (pss_cons (ps_if (pt_val (pe_callB (call_or call_isXT call_isiT) (by rfl) T.n_isinstance (by decide +kernel) (pa_cons (pv 1) (pa_cons (pe_tup (pa_cons (pe_glob (v := .ref _) (by rfl) g_BadCode rfl) (pa_cons (pe_glob (v := .ref _) (by rfl) g_BadLayout rfl) pa_nil))) pa_nil)))) (pss_one (ps_ret (pe_tup (pa_cons (pe_ifExp (pt_val (pe_callB (call_or call_isX call_isi) (by rfl) T.n_isinstance (by decide +kernel) (pa_cons (pv 1) (pa_cons (pe_glob (v := .ref _) (by rfl) g_BadCode rfl) pa_nil)))) pe_str pe_str) (pa_cons (pe_xa (pv 1)) pa_nil))))) pss_nil)
  (pss_cons (ps_if (pt_val (pe_callB (call_or call_isXT call_isiT) (by rfl) T.n_isinstance (by decide +kernel) (pa_cons (pv 1) (pa_cons (pe_tup (pa_cons (pe_glob (v := .ref _) (by rfl) g_BadNumber rfl) (pa_cons (pe_glob (v := .ref _) (by rfl) g_Misfit rfl) pa_nil))) pa_nil)))) (pss_one (ps_ret (pe_tup (pa_cons (pe_ifExp (pt_val (pe_callB (call_or call_isX call_isi) (by rfl) T.n_isinstance (by decide +kernel) (pa_cons (pv 1) (pa_cons (pe_glob (v := .ref _) (by rfl) g_BadNumber rfl) pa_nil)))) pe_str pe_str) (pa_cons (pe_xa (pv 1)) pa_nil))))) pss_nil)
  (pss_one (ps_ret (pe_ifExp (pt_cmpR op_isN (pv 1) pe_non (nomark _)) pe_non (pe_tup (pa_cons pe_str (pa_cons pe_non pa_nil)))))))))), ?_⟩
  refine ⟨rfl, hc, ?_⟩
  refine mono _ _ _ _ _ ?_ ?_ h
  rotate_left
  · intro v H' k
    refine ⟨_, rfl, (by show 2 ≤ sizeLine; decide), fun tp htp => ?_⟩
    have S1 := same_new (o := .tup [V.ref CC, .ref CL]) htp
    refine .inr ⟨.non, tp, _, .type "NoneType", [.ref CC, .ref CL], false, rfl, upd_same, .cons (.own CC) (.cons (.own CL) .nil), .base .non, kitA0 Z.zC Z.zL, false, rfl, ?_⟩
    refine ⟨_, rfl, (by show 2 ≤ sizeLine; decide), fun tq htq => ?_⟩
    have S2 := same_new (o := .tup [V.ref CN, .ref CM]) htq
    refine .inr ⟨.non, tq, _, .type "NoneType", [.ref CN, .ref CM], false, rfl, upd_same, .cons (.own CN) (.cons (.own CM) .nil), .base .non, kitA0 Z.zN Z.zM, false, rfl, ?_⟩
    exact ⟨_, rfl, rfl, _, rfl, k _ (S1.trans S2)⟩
  · rintro cls d H' ⟨dd, part, rfl, hd, ⟨rfl, k⟩ | ⟨rfl, k⟩ | ⟨rfl, k⟩ | ⟨rfl, k⟩⟩
    · refine ⟨true, Z.rC.ex, fun _ a ha => ?_, fun z => nomatch z⟩
      have nad : dd ≠ a := ne_of_none hd ha
      have hd1 : (upd H' a (ExA (.ref CC) (some dd) a)) dd = some (.xd [(("part" : Str), .str part)]) := by
        rw [upd_ne nad]
        exact hd
      have S0 := same_new (o := ExA (.ref CC) (some dd) a) ha
      refine ⟨_, rfl, (by show 2 ≤ sizeLine; decide), fun tp htp => ?_⟩
      have S1 := same_new (o := .tup [V.ref CC, .ref CL]) htp
      have a1 := S1 _ _ (upd_same (H := H') (a := a) (o := ExA (.ref CC) (some dd) a))
      have d1 := S1 _ _ hd1
      refine .inl ⟨a, CC, some dd, tp, _, [.ref CC, .ref CL], true, rfl, Z.rC.ec, a1, (fun z e => by cases e; exact ⟨_, d1⟩), upd_same, .cons (.own CC) (.cons (.own CL) .nil), kitA1 Z.kCC, true, rfl, ?_⟩
      refine ⟨_, rfl, .inl ⟨a, CC, some dd, .ref CC, .ref CC, true, rfl, Z.rC.ec, a1, (fun z e => by cases e; exact ⟨_, d1⟩), .own CC, Z.kCC, ?_⟩⟩
      exact ⟨true, rfl, _, rfl, a, CC, dd, _, _, rfl, Z.rC.xf, Z.rC.no, a1, d1, rfl, (by show 2 ≤ sizeLine; decide), fun p hp => k p _ ((S0.trans S1).trans (same_new hp)) upd_same⟩
    · refine ⟨true, Z.rL.ex, fun _ a ha => ?_, fun z => nomatch z⟩
      have nad : dd ≠ a := ne_of_none hd ha
      have hd1 : (upd H' a (ExA (.ref CL) (some dd) a)) dd = some (.xd [(("part" : Str), .str part)]) := by
        rw [upd_ne nad]
        exact hd
      have S0 := same_new (o := ExA (.ref CL) (some dd) a) ha
      refine ⟨_, rfl, (by show 2 ≤ sizeLine; decide), fun tp htp => ?_⟩
      have S1 := same_new (o := .tup [V.ref CC, .ref CL]) htp
      have a1 := S1 _ _ (upd_same (H := H') (a := a) (o := ExA (.ref CL) (some dd) a))
      have d1 := S1 _ _ hd1
      refine .inl ⟨a, CL, some dd, tp, _, [.ref CC, .ref CL], true, rfl, Z.rL.ec, a1, (fun z e => by cases e; exact ⟨_, d1⟩), upd_same, .cons (.own CC) (.cons (.own CL) .nil), kitA2 Z.kLC Z.kLL, true, rfl, ?_⟩
      refine ⟨_, rfl, .inl ⟨a, CL, some dd, .ref CC, .ref CC, false, rfl, Z.rL.ec, a1, (fun z e => by cases e; exact ⟨_, d1⟩), .own CC, Z.kLC, ?_⟩⟩
      exact ⟨false, rfl, _, rfl, a, CL, dd, _, _, rfl, Z.rL.xf, Z.rL.no, a1, d1, rfl, (by show 2 ≤ sizeLine; decide), fun p hp => k p _ ((S0.trans S1).trans (same_new hp)) upd_same⟩
    · refine ⟨true, Z.rN.ex, fun _ a ha => ?_, fun z => nomatch z⟩
      have nad : dd ≠ a := ne_of_none hd ha
      have hd1 : (upd H' a (ExA (.ref CN) (some dd) a)) dd = some (.xd [(("part" : Str), .str part)]) := by
        rw [upd_ne nad]
        exact hd
      have S0 := same_new (o := ExA (.ref CN) (some dd) a) ha
      refine ⟨_, rfl, (by show 2 ≤ sizeLine; decide), fun tp htp => ?_⟩
      have S1 := same_new (o := .tup [V.ref CC, .ref CL]) htp
      have a1 := S1 _ _ (upd_same (H := H') (a := a) (o := ExA (.ref CN) (some dd) a))
      have d1 := S1 _ _ hd1
      refine .inl ⟨a, CN, some dd, tp, _, [.ref CC, .ref CL], false, rfl, Z.rN.ec, a1, (fun z e => by cases e; exact ⟨_, d1⟩), upd_same, .cons (.own CC) (.cons (.own CL) .nil), kitA0 Z.kNC Z.kNL, false, rfl, ?_⟩
      refine ⟨_, rfl, (by show 2 ≤ sizeLine; decide), fun tq htq => ?_⟩
      have S2 := same_new (o := .tup [V.ref CN, .ref CM]) htq
      have a1 := S2 _ _ a1
      have d1 := S2 _ _ d1
      refine .inl ⟨a, CN, some dd, tq, _, [.ref CN, .ref CM], true, rfl, Z.rN.ec, a1, (fun z e => by cases e; exact ⟨_, d1⟩), upd_same, .cons (.own CN) (.cons (.own CM) .nil), kitA1 Z.kNN, true, rfl, ?_⟩
      refine ⟨_, rfl, .inl ⟨a, CN, some dd, .ref CN, .ref CN, true, rfl, Z.rN.ec, a1, (fun z e => by cases e; exact ⟨_, d1⟩), .own CN, Z.kNN, ?_⟩⟩
      exact ⟨true, rfl, _, rfl, a, CN, dd, _, _, rfl, Z.rN.xf, Z.rN.no, a1, d1, rfl, (by show 2 ≤ sizeLine; decide), fun p hp => k p _ ((S0.trans (S1.trans S2)).trans (same_new hp)) upd_same⟩
    · refine ⟨true, Z.rM.ex, fun _ a ha => ?_, fun z => nomatch z⟩
      have nad : dd ≠ a := ne_of_none hd ha
      have hd1 : (upd H' a (ExA (.ref CM) (some dd) a)) dd = some (.xd [(("part" : Str), .str part)]) := by
        rw [upd_ne nad]
        exact hd
      have S0 := same_new (o := ExA (.ref CM) (some dd) a) ha
      refine ⟨_, rfl, (by show 2 ≤ sizeLine; decide), fun tp htp => ?_⟩
      have S1 := same_new (o := .tup [V.ref CC, .ref CL]) htp
      have a1 := S1 _ _ (upd_same (H := H') (a := a) (o := ExA (.ref CM) (some dd) a))
      have d1 := S1 _ _ hd1
      refine .inl ⟨a, CM, some dd, tp, _, [.ref CC, .ref CL], false, rfl, Z.rM.ec, a1, (fun z e => by cases e; exact ⟨_, d1⟩), upd_same, .cons (.own CC) (.cons (.own CL) .nil), kitA0 Z.kMC Z.kML, false, rfl, ?_⟩
      refine ⟨_, rfl, (by show 2 ≤ sizeLine; decide), fun tq htq => ?_⟩
      have S2 := same_new (o := .tup [V.ref CN, .ref CM]) htq
      have a1 := S2 _ _ a1
      have d1 := S2 _ _ d1
      refine .inl ⟨a, CM, some dd, tq, _, [.ref CN, .ref CM], true, rfl, Z.rM.ec, a1, (fun z e => by cases e; exact ⟨_, d1⟩), upd_same, .cons (.own CN) (.cons (.own CM) .nil), kitA2 Z.kMN Z.kMM, true, rfl, ?_⟩
      refine ⟨_, rfl, .inl ⟨a, CM, some dd, .ref CN, .ref CN, false, rfl, Z.rM.ec, a1, (fun z e => by cases e; exact ⟨_, d1⟩), .own CN, Z.kMN, ?_⟩⟩
      exact ⟨false, rfl, _, rfl, a, CM, dd, _, _, rfl, Z.rM.xf, Z.rM.no, a1, d1, rfl, (by show 2 ≤ sizeLine; decide), fun p hp => k p _ ((S0.trans (S1.trans S2)).trans (same_new hp)) upd_same⟩
end
theorem pick_int {ks : List Int} {j : Nat} {x : V} (h : (ks.map V.int)[j]? = some x) : ∃ k ∈ ks, x = V.int k := by
  rw [List.getElem?_map] at h
  cases e : ks[j]? with
  | none => rw [e] at h; cases h
  | some k => rw [e] at h; exact ⟨k, List.mem_of_getElem? e, (Option.some.inj h).symm⟩
theorem nat9 {k : Int} (h : k.natAbs < 1000) : k.natAbs < 2 ^ 9000 := Nat.lt_of_lt_of_le h (by decide)
theorem two_of {α : Type} : ∀ {l : List α}, l.length = 2 → ∃ a b, l = [a, b]
  | [a, b], _ => ⟨a, b, rfl⟩
/-- what stands between two steps of the law -/
structure Mid (T : List (Addr × Str)) (p b n : Nat) (H : Hp) : Prop where
  o : Orch H p b n
  t : Tabs T H
theorem Mid.same {T : List (Addr × Str)} {p b n : Nat} {H H' : Hp} (m : Mid T p b n H) (s : Same H H') : Mid T p b n H' := ⟨m.o.same s, m.t.ext s⟩
theorem Mid.draw {T : List (Addr × Str)} {p b n k : Nat} {H H' : Hp} (m : Mid T p b n H) (o : Orch H' p b k) (B : But p H H') : Mid T p b k H' := ⟨o, tabs_orchN m.t B m.o⟩
theorem Mid.mono {T : List (Addr × Str)} {p b n k : Nat} {H : Hp} (m : Mid T p b n H) (h : n ≤ k) : Mid T p b k H := ⟨m.o.mono h, m.t⟩
theorem Mid.put {T : List (Addr × Str)} {p b n : Nat} {H : Hp} {D : Addr} {xs ys : List V} (m : Mid T p b n H) (hD : H D = some (.lst xs)) (n1 : D ≠ p) (n2 : b ≠ D) : Mid T p b n (upd H D (.lst ys)) :=
  ⟨m.o.keep (fun u e => by rw [upd_ne n1.symm]; exact e) (fun u e => by rw [upd_ne n2]; exact e), tabs_butN m.t but_at hD⟩
theorem Mid.pD {T : List (Addr × Str)} {p b n : Nat} {H : Hp} {D : Addr} (m : Mid T p b n H) (h : H D = none) : D ≠ p := by
  obtain ⟨u, hu⟩ := m.o.pn
  exact (ne_of_none hu h).symm
theorem Mid.bD {T : List (Addr × Str)} {p b n : Nat} {H : Hp} {D : Addr} (m : Mid T p b n H) (h : H D = none) : b ≠ D := by
  obtain ⟨u, hu⟩ := m.o.bn
  exact ne_of_none hu h
theorem Mid.ext {T : List (Addr × Str)} {p b n : Nat} {H H' : Hp} (m : Mid T p b n H) (e : ExtN H H') (t : Tabs T H') : Mid T p b n H' := ⟨orch_extN m.o e, t⟩
theorem but_put {p D : Addr} {H H' : Hp} {o : HO} (hD : H D = none) (B : But p H H') : But p H (upd H' D o) := fun a u e na => by
  rw [upd_ne (ne_of_none e hD)]
  exact B _ _ e na
theorem new_facts {H H' : Hp} {l : Addr} {o : HO} (h : H l = none) (e : upd H l o = H') : Same H H' ∧ H' l = some o := by
  subst e
  exact ⟨same_new h, upd_same⟩
def Kp (p : Addr) (H H' : Hp) : Prop := ∀ q o, H q = some o → q ≠ p → (∀ ps, o ≠ .tbl ps) → H' q = some o
theorem Kp.refl {p : Addr} {H : Hp} : Kp p H H := fun _ _ e _ _ => e
theorem Kp.trans {p : Addr} {H H1 H2 : Hp} (a : Kp p H H1) (b : Kp p H1 H2) : Kp p H H2 := fun q o e n t => b q o (a q o e n t) n t
theorem Kp.same {p : Addr} {H H' : Hp} (s : Same H H') : Kp p H H' := fun q o e _ _ => s q o e
theorem Kp.ext {p : Addr} {H H' : Hp} (s : ExtN H H') : Kp p H H' := fun q o e _ t => s q o e t
theorem Kp.upd {p : Addr} {H : Hp} {o : HO} : Kp p H (upd H p o) := fun q u e n _ => by
  rw [upd_ne n]
  exact e
theorem res_tup {H H' : Hp} (h : ∀ t xs, H t = some (.tup xs) → H' t = some (.tup xs)) : ∀ {vs : List V} {ks : List (Option (Str × Str))}, Res H vs ks → Res H' vs ks
  | [], [], _ => trivial
  | v :: r, none :: ks, ⟨a, b⟩ => ⟨a, res_tup h b⟩
  | v :: r, some k :: ks, ⟨⟨t, e, ht⟩, b⟩ => ⟨⟨t, e, h _ _ ht⟩, res_tup h b⟩
/-- what was heard so far, in the list at h -/
structure Lp (T : List (Addr × Str)) (p b0 n h : Addr) (H0 H : Hp) (vs : List V) (ks : List (Option (Str × Str))) : Prop where
  kp : Kp h H0 H
  mid : Mid T p b0 n H
  at' : H h = some (.lst vs)
  n1 : h ≠ p
  n2 : b0 ≠ h
  res : Res H vs ks
theorem Lp.step {T : List (Addr × Str)} {p b0 n h : Addr} {H0 H Ha Hb : Hp} {vs : List V} {ks : List (Option (Str × Str))} {v : V} {k : Option (Str × Str)} (s : Lp T p b0 n h H0 H vs ks) (ea : ExtN H Ha) (Ta : Tabs T Ha) (S : Same Ha Hb) (e : Ent Hb v k) :
    Hb h = some (.lst vs) ∧ Lp T p b0 n h H0 (upd Hb h (.lst (vs ++ [v]))) (vs ++ [v]) (ks ++ [k]) := by
  have hb := S _ _ (ea _ _ s.at' fun _ z => nomatch z)
  have nt : ∀ {t : Addr} {xs : List V}, Hb t = some (.tup xs) → t ≠ h := fun {t xs} e z => by
    rw [z, hb] at e
    cases e
  refine ⟨hb, (s.kp.trans (.ext ea)).trans ((Kp.same S).trans .upd), ((s.mid.ext ea Ta).same S).put hb s.n1 s.n2, upd_same, s.n1, s.n2, ?_⟩
  have r1 : Res Hb vs ks := res_tup (fun t xs z => S _ _ (ea _ _ z fun _ y => nomatch y)) s.res
  refine Res.snoc ?_ (res_tup (fun t xs z => by rw [upd_ne (nt z)]; exact z) r1)
  cases k with
  | none => exact e
  | some k =>
    obtain ⟨t, ev, ht⟩ := e
    exact ⟨t, ev, by rw [upd_ne (nt ht)]; exact ht⟩
theorem Lp.begin {T : List (Addr × Str)} {p b0 n h t : Addr} {H0 H : Hp} {k : Str × Str} (S : Kp h H0 H) (m : Mid T p b0 n H) (hh : H h = none) (e : Ent H (.ref t) (some k)) : Lp T p b0 n h H0 (upd H h (.lst [.ref t])) [.ref t] [some k] :=
  ⟨S.trans .upd, m.same (same_new hh), upd_same, m.pD hh, m.bD hh, ⟨e.keep (.same (same_new hh)), trivial⟩⟩
theorem Lp.empty {T : List (Addr × Str)} {p b0 n h : Addr} {H0 H : Hp} (S : Kp h H0 H) (m : Mid T p b0 n H) (hh : H h = none) : Lp T p b0 n h H0 (upd H h (.lst [])) [] [] :=
  ⟨S.trans .upd, m.same (same_new hh), upd_same, m.pD hh, m.bD hh, trivial⟩
theorem res_new {H : Hp} {q : Addr} {a b : Str} {vs : List V} {ks : List (Option (Str × Str))} (h : H q = none) (r : Res H vs ks) : Res (upd H q (.tup [.str a, .str b])) (vs ++ [.ref q]) (ks ++ [some (a, b)]) :=
  Res.snoc (k := some (a, b)) ⟨q, rfl, upd_same⟩ (r.keep (.same (same_new h)))
end K33
/-! Three defs with lambdas in one law: which table is whose. -/
namespace OB
open PySem PySem.Spec PyProof.Rows L2
section
variable {P1 P2 P3 : Addr} {q1 q2 q3 : Str}
theorem hu3_1 (n12 : P1 ≠ P2) (n13 : P1 ≠ P3) : ∀ p ∈ [(P1, q1), (P2, q2), (P3, q3)], p.1 = P1 → p.2 = q1 := fun p hp e => by
  rcases List.mem_cons.mp hp with rfl | hp
  · rfl
  rcases List.mem_cons.mp hp with rfl | hp
  · exact absurd e.symm n12
  · rw [List.mem_singleton.mp hp] at e
    exact absurd e.symm n13
theorem hu3_2 (n12 : P1 ≠ P2) (n23 : P2 ≠ P3) : ∀ p ∈ [(P1, q1), (P2, q2), (P3, q3)], p.1 = P2 → p.2 = q2 := fun p hp e => by
  rcases List.mem_cons.mp hp with rfl | hp
  · exact absurd e n12
  rcases List.mem_cons.mp hp with rfl | hp
  · rfl
  · rw [List.mem_singleton.mp hp] at e
    exact absurd e.symm n23
theorem hu3_3 (n13 : P1 ≠ P3) (n23 : P2 ≠ P3) : ∀ p ∈ [(P1, q1), (P2, q2), (P3, q3)], p.1 = P3 → p.2 = q3 := fun p hp e => by
  rcases List.mem_cons.mp hp with rfl | hp
  · exact absurd e n13
  rcases List.mem_cons.mp hp with rfl | hp
  · exact absurd e n23
  · rw [List.mem_singleton.mp hp]
theorem mem3_1 : (P1, q1) ∈ [(P1, q1), (P2, q2), (P3, q3)] := List.mem_cons_self
theorem mem3_2 : (P2, q2) ∈ [(P1, q1), (P2, q2), (P3, q3)] := List.mem_cons_of_mem _ List.mem_cons_self
theorem mem3_3 : (P3, q3) ∈ [(P1, q1), (P2, q2), (P3, q3)] := List.mem_cons_of_mem _ (List.mem_cons_of_mem _ List.mem_cons_self)
end
end OB
/-! Steps of a walk, made short. -/
namespace OB
open PySem PySem.Spec PyProof.Rows L2 LamX
section
variable {x y : V} {i j : Int} {H : Hp} {Q : VK}
theorem st_i0 {g : Int → Int → V} {v : V} (ex : x = .int i) (ey : y = .int j) (ev : g i j = v) (k : Q v H) : rI0 g x y H Q := by
  subst ev
  exact ⟨i, j, ex, ey, k⟩
theorem st_i {C : Int → Int → Prop} {g : Int → Int → V} {v : V} (ex : x = .int i) (ey : y = .int j) (hc : C i j) (ev : g i j = v) (k : Q v H) : rI C g x y H Q := by
  subst ev
  exact ⟨i, j, ex, ey, hc, k⟩
end
theorem ixN_of {n j : Nat} (hj : j < n) : ixN n (j : Int) = some j := by
  unfold ixN
  rw [if_pos (by omega), if_pos (by omega)]
  simp
end OB
namespace K33
open PySem PySem.Spec PyProof.Rows L2 OB SkE LamX MD
def LQa : Str := (envOfC "_law_listed_right" (defScope s__law_listed_right) 0 0 .none).qual ++ "<lambda>"
def LQb : Str := (envOfC "_law_doubled_right" (defScope s__law_doubled_right) 0 0 .none).qual ++ "<lambda>"
def LQc : Str := (envOfC "_law_refused_right" (defScope s__law_refused_right) 0 0 .none).qual ++ "<lambda>"
abbrev TB3 (Pa Pb Pc : Addr) : List (Addr × Str) := [(Pa, LQa), (Pb, LQb), (Pc, LQc)]
theorem listed_mono {K : PySem.W.Frag} {C L CC CM : Addr} : SpMono (spListed K C L CC CM) := fun vs H Q1 Q2 E1 E2 hE hQ h => by
  obtain ⟨x, e, h⟩ := h
  refine ⟨x, e, ?_⟩
  rcases h with ⟨n, r⟩ | ⟨c, b, d, e1, h1, h2, h⟩
  · exact .inl ⟨n, fun d hd => hE _ _ _ (r d hd)⟩
  · refine .inr ⟨c, b, d, e1, h1, h2, ?_⟩
    rcases h with ⟨n, r⟩ | ⟨n, q⟩
    · exact .inl ⟨n, fun d hd => hE _ _ _ (r d hd)⟩
    · exact .inr ⟨n, fun t H' h3 h4 h5 => hQ _ _ (q t H' h3 h4 h5)⟩
theorem doubled_mono {K : PySem.W.Frag} {L CB CN CM : Addr} : SpMono (spDoubled K L CB CN CM) := fun vs H Q1 Q2 E1 E2 hE hQ h => by
  obtain ⟨x, z, e, h⟩ := h
  refine ⟨x, z, e, ?_⟩
  rcases h with ⟨n, r⟩ | ⟨a, b, ms, e1, h1, h2, h⟩
  · exact .inl ⟨n, fun d hd => hE _ _ _ (r d hd)⟩
  refine .inr ⟨a, b, ms, e1, h1, h2, ?_⟩
  rcases h with ⟨n, r⟩ | ⟨s, e2, s1, s2, h⟩
  · exact .inl ⟨n, fun d hd => hE _ _ _ (r d hd)⟩
  refine .inr ⟨s, e2, s1, s2, ?_⟩
  rcases h with ⟨n, r⟩ | ⟨n, h⟩
  · exact .inl ⟨n, fun d hd => hE _ _ _ (r d hd)⟩
  refine .inr ⟨n, ?_⟩
  rcases h with ⟨n, r⟩ | ⟨n, n2, q⟩
  · exact .inl ⟨n, fun H' S d hd => hE _ _ _ (r H' S d hd)⟩
  · exact .inr ⟨n, n2, fun t H' h3 h4 h5 => hQ _ _ (q t H' h3 h4 h5)⟩
theorem log_small {n : Nat} (h : n < 256) : ((n : Int)).natAbs.log2 < 1920 := by
  rw [Int.natAbs_natCast]
  by_cases e : n = 0
  · rw [e]
    decide
  · have := (Nat.log2_lt e).mpr (show n < 2 ^ 8 from h)
    omega
theorem nice_md : ∀ ms : List (Option Nat), (∀ n, some n ∈ ms → n ≤ 63) → niceAll (ms.map md) = true
  | [], _ => by simp [niceAll]
  | m :: r, h => by
    have h2 := nice_md r fun x hx => h x (List.mem_cons_of_mem _ hx)
    cases m with
    | none => simp [niceAll, nice, md, h2]
    | some n =>
      have h1 : ((n : Nat) : Int).natAbs.log2 < 1920 := log_small (by have := h n List.mem_cons_self; omega)
      simp [niceAll, nice, md, h2]
      simpa using h1
theorem sz_md : ∀ ms : List (Option Nat), szAll (ms.map md) ≤ 1923 * ms.length
  | [] => by simp [szAll]
  | m :: r => by
    have := sz_md r
    have : sz (md m) ≤ 1921 := by cases m <;> simp [md, sz]
    simp only [List.map_cons, szAll, List.length_cons]
    omega
def datT (ms : List (Option Nat)) : PyData := .tuple (ms.map md)
theorem datT_ok {b : Nat} {ms : List (Option Nat)} (ok : LayOk b ms) : nice (datT ms) = true ∧ (datT ms).canLay0 = true ∧ (datT ms).depth ≤ 60 ∧ sz (datT ms) ≤ 16000000 := by
  have n1 := nice_md ms ok.small
  obtain ⟨f1, f2⟩ := flat_means ms
  refine ⟨?_, ?_, ?_, ?_⟩
  · simp only [datT, nice, n1]
  · simp only [datT, PyData.canLay0, f1]
  · simp only [datT, PyData.depth]
    omega
  · have e := sz_md ms
    have := pow8 ok.b8
    rw [ok.len] at e
    simp only [datT, sz]
    omega
theorem lay_ext {H H' : Hp} {C x : Addr} {b : Nat} {ms : List (Option Nat)} (h : IsLay H C x b ms) (e : ExtN H H') : IsLay H' C x b ms := by
  obtain ⟨dx, fs, t, h1, h2, h3, h4⟩ := h
  exact ⟨dx, fs, t, e _ _ h1 (fun _ z => nomatch z), h2, h3, e _ _ h4 (fun _ z => nomatch z)⟩
theorem lis_ok {b d : Nat} (ok : CodeOk b d) (hs : b - 1 + 2 * d ≤ 8) : LayOk (b - 1 + 2 * d) (lisM b d) := by
  have hb := two_case ok
  have b2 := ok.b2
  refine ⟨by omega, hs, lis_len b d, fun n hn => ?_⟩
  unfold lisM at hn
  obtain ⟨w', _, e⟩ := List.mem_map.mp hn
  have e := Option.some.inj e
  have := MC.val_lt hb (MC.wd w') d
  have : 2 ^ d ≤ 2 ^ 3 := Nat.pow_le_pow_right (by decide) (by omega)
  have : b * 2 ^ d ≤ 3 * 2 ^ d := Nat.mul_le_mul_right _ ok.b3
  rcases hb with rfl | rfl <;> omega
theorem grt_lis {b d : Nat} (hb : b = 2 ∨ b = 3) : grt (b * 2 ^ d) (lisM b d) = false := by
  unfold grt
  refine List.any_eq_false.mpr fun m hm => ?_
  unfold lisM at hm
  obtain ⟨w', _, e⟩ := List.mem_map.mp hm
  have := MC.val_lt hb (MC.wd w') d
  rw [← e]
  show ¬ decide (b * 2 ^ d ≤ MC.val b (MC.wd w') d) = true
  rw [decide_eq_false (by omega)]
  decide
def spStep (T : List (Addr × Str)) (k : Nat) : Sp := fun vs H Q _ => ∃ (p b0 : Addr) (n : Nat), vs = [.ref p] ∧ Mid T p b0 n H ∧ n + k < 900000 ∧ ∀ H' : Hp, Mid T p b0 (n + k) H' → Q (.bl true) H'
section
variable {P : Program} {w : World} {K : PySem.W.Frag} {mg : Str → Option Value} {base : Heap}
theorem sc__law_listed_right : FnScope ["barn", "base", "doubles", "code", "bits", "due", "word"] ["barn"] (defScope s__law_listed_right) := ⟨rfl, rfl, rfl, by decide +kernel, rfl, by decide +kernel, by decide +kernel⟩
abbrev N__law_listed_right : List Str := ["barn", "base", "doubles", "code", "bits", "due", "word"]
theorem ok__law_listed_right {f f1 f2 f3 f4 f5 f6 fI fL fE C L CF CC CL CN CM c Pa Pb Pc : Addr} {fd1 fd2 fd3 fd4 fd5 fd6 fdI fdL fdE : FuncData} {oc kV doc pm ct : Value} {od an : Option Addr} {osl : Array (Option Value)} (T : Blt mg)
    (lk : K.lookup f = some ⟨oc, od, .func (PySem.W.fnOf "_law_listed_right" "_law_listed_right" (defArgs s__law_listed_right) (defBody s__law_listed_right) (defScope s__law_listed_right) .none kV doc pm an (.ref c) ct), osl⟩) (hcd : PySem.W.codeIn K (.ref c) "_law_listed_right" = true)
    (TB : TabB base mg c Pa) (hu : ∀ p ∈ TB3 Pa Pb Pc, p.1 = Pa → p.2 = LQa) (Z : Kinds K mg CF CC CL CN CM) (O_Code : OwnC K mg "Code" C fI) (n3 : NoAttr K C "many") (n4 : NoAttr K C "bits") (O_Layout : OwnC K mg "Layout" L fL) (l1 : NoAttr K L "bits") (l2 : NoAttr K L "means")
    (D__law_heard : Df K mg "_law_heard" s__law_heard ["ask"] f1 fd1) (D__law_stack : Df K mg "_law_stack" s__law_stack ["barn", "many"] f2 fd2) (D__law_pick : Df K mg "_law_pick" s__law_pick ["barn", "some"] f3 fd3) (D__law_value : Df K mg "_law_value" s__law_value ["base", "doubles", "word"] f4 fd4) (D_listed : Df K mg "listed" s_listed ["code"] f5 fd5) (GX_listed : FnOk P w K mg base (L2.CX P w) 8 f5 fd5 ["code"] (spListed K C L CC CM)) (D_doubled : Df K mg "doubled" s_doubled ["layout", "states"] f6 fd6) (GX_doubled : FnOk P w K mg base (L2.CX P w) 8 f6 fd6 ["layout", "states"] (spDoubled K L CL CN CM))
    (b_Code_init : L2.Binds K fdI ["self", "base", "doubles"] []) (G_Code_init : FnOk P w K mg base CX0 3 fI fdI ["self", "base", "doubles"] (spCodeInit C))
    (b_Layout_init : L2.Binds K fdL ["self", "bits", "means"] []) (G_Layout_init : FnOk P w K mg base CX0 4 fL fdL ["self", "bits", "means"] (spLayInit L)) (EQ_Layout : OwnEqC K L fE) (b_Layout_eq : L2.Binds K fdE ["self", "other"] []) (G_Layout_eq : FnOk P w K mg base CX0 1 fE fdE ["self", "other"] (spLayEq K L)) :
    FnG P w K mg base CX0 14 f (PySem.W.fnOf "_law_listed_right" "_law_listed_right" (defArgs s__law_listed_right) (defBody s__law_listed_right) (defScope s__law_listed_right) .none kV doc pm an (.ref c) ct) ["barn"] (spStep (TB3 Pa Pb Pc) 20) := by
  have G_listed := calm_of GX_listed
  have G_doubled := calm_of GX_doubled
  have G__law_stack : FnOk P w K mg base CX0 1 f2 fd2 ["barn", "many"] spDraw := ok__law_stack D__law_stack.F T
  have G__law_pick : FnOk P w K mg base CX0 2 f3 fd3 ["barn", "some"] spOne := ok__law_pick D__law_pick.F T D__law_stack
  have G__law_value : FnOk P w K mg base CX0 1 f4 fd4 ["base", "doubles", "word"] spValue := ok__law_value D__law_value.F T
  have kb_listed : KBinds K fd5 ["code"] ["code"] (kg [0]) (kg [0]) := kbinds D_listed.F (fun _ _ _ _ _ _ us ws hl => by
    rcases us with _ | ⟨a, us⟩
    · rcases ws with _ | ⟨x0, ws⟩ <;> first | rfl | exact absurd (show 0 = 1 from hl) (by decide)
    · exact absurd (show 0 = 1 from hl) (by decide)) kg_vals
  obtain ⟨ocH, odH, kVH, docH, pmH, anH, cdvH, ctH, oslH, eH, lkH, hcH⟩ := D__law_heard.F.ex
  subst eH
  refine fnG_of lk hcd sc__law_listed_right (fun vs H Q E h => ?_) fun A outer s H vs Q E hgd hr h => ?_
  · obtain ⟨p, b0, n, rfl, _⟩ := h
    rfl
  · obtain ⟨p, b0, n, rfl, M0, hn, k⟩ := h
    have t0 : ∃ t, PSs (cxOf CX0 P w K mg base ["barn", "base", "doubles", "code", "bits", "due", "word"] "_law_listed_right" (defScope s__law_listed_right) f (.ref c) A outer s H E).nox (defBody s__law_listed_right) t ∧ t { nx := fun _ H' => Q .non H', rt := Q } (L2.start ["barn", "base", "doubles", "code", "bits", "due", "word"] [.ref p]) H := by
      refine ⟨_, (pss_cons (ps_asg (pe_tup (pa_cons (pe_op op_add pe_int (pe_call G__law_stack (hr.mono (by decide)) (by rfl) D__law_stack.g D__law_stack.F.kp D__law_stack.b .nil pass0 (pa_cons (pv 0) (pa_cons pe_int pa_nil)))) (pa_cons (pe_call G__law_pick (hr.mono (by decide)) (by rfl) D__law_pick.g D__law_pick.F.kp D__law_pick.b .nil pass0 (pa_cons (pv 0) (pa_cons (pe_lst (pa_cons pe_int (pa_cons pe_int (pa_cons pe_int (pa_cons pe_int (pa_cons pe_int (pa_cons (pe_call G__law_stack (hr.mono (by decide)) (by rfl) D__law_stack.g D__law_stack.F.kp D__law_stack.b .nil pass0 (pa_cons (pv 0) (pa_cons pe_int pa_nil))) pa_nil))))))) pa_nil))) pa_nil))) (pg_tup (by rfl) (pgs_cons (pg_name (i := 1) sc__law_listed_right.nd rfl (Or.inr rfl)) (pgs_cons (pg_name (i := 2) sc__law_listed_right.nd rfl (Or.inr rfl)) pgs_nil))))
  (pss_cons (ps_asg (pe_tup (pa_cons (pe_make O_Code.made G_Code_init (hr.mono (by decide)) (by rfl) O_Code.g b_Code_init .nil pass0 (pa_cons (pv 1) (pa_cons (pv 2) pa_nil))) (pa_cons (pe_op op_add (pe_op op_sub (pv 1) pe_int) (pe_op op_mul pe_int (pv 2))) pa_nil))) (pg_tup (by rfl) (pgs_cons (pg_name (i := 3) sc__law_listed_right.nd rfl (Or.inr rfl)) (pgs_cons (pg_name (i := 4) sc__law_listed_right.nd rfl (Or.inl rfl)) pgs_nil))))
  (pss_cons (ps_if (pt_cmpR op_gt (pv 4) pe_int (nomark _)) (pss_one (ps_ret (pe_cmpR (op_eqD hr.units) (pe_lam (T := TB3 Pa Pb Pc) (vs := []) (TT := TTheard CC CL CN CM) (k := 9) (nm := []) (dts := []) (t := fun E => tCallS (spListed K C L CC CM) (WE fun cls d _ H => E cls d H) (tCons (tVar 3) tNil)) (by rfl) D__law_heard.g D__law_heard.F.kp lkH hcH D__law_heard.b sc__law_heard rfl (Or.inl rfl) (heard_gives Z T) TB rfl mem3_1 hu (hr.mono (by decide)) (lamN_by (sc := defScope s__law_listed_right) (N := N__law_listed_right) (by decide +kernel)) (.inl ⟨rfl, rfl⟩) (bind_0 fun _ _ _ _ _ _ _ => rfl) (mono_S listed_mono (mta_cons mte_var mta_nil)) pa_nil (fun _ _ _ => rfl) rfl (fun A outer s H E f c' hr2 => pe_callS GX_listed (hr2.mono (by decide)) (by rfl) D_listed.g D_listed.F.kp D_listed.b (fun σ => passAt (takes_of rfl rfl rfl rfl) σ) (pa_cons (pv 3) pa_nil))) (pe_tup (pa_cons pe_str (pa_cons pe_str pa_nil))) (nomark _)))) pss_nil)
  (pss_cons (ps_set (i := 5) sc__law_listed_right.nd rfl (Or.inl rfl) (pe_make O_Layout.made G_Layout_init (hr.mono (by decide)) (by rfl) O_Layout.g b_Layout_init .nil pass0 (pa_cons (pv 4) (pa_cons (pe_lc (own := [("word", 6)]) (g := (gName 6)) (tt := tYes) rfl sc__law_listed_right.nd (pi_range1 (by rfl) T.n_range (pa_cons (pe_op op_oneN pe_int (pv 4)) pa_nil)) (blkOk_by (N := N__law_listed_right) (own := [("word", 6)]) (sc := defScope s__law_listed_right) (by decide +kernel)) (fun _ _ _ _ _ => (pg_name (i := 6) sc__law_listed_right.nd rfl (Or.inl rfl))) (fun _ _ _ _ _ => pts_nil) (fun _ _ _ _ _ => (pe_call G__law_value (hr.mono (by decide)) (by rfl) D__law_value.g D__law_value.F.kp D__law_value.b .nil pass0 (pa_cons (pv 1) (pa_cons (pv 2) (pa_cons (pv 6) pa_nil)))))) pa_nil))))
  (pss_cons (ps_if (PW.pt (pw_or (pt_cmpR (op_neO G_Layout_eq EQ_Layout b_Layout_eq pass0 (hr.mono (by decide))) (pe_callKo G_listed (hr.mono (by decide)) (by rfl) D_listed.g D_listed.F.kp kb_listed pass0 (pk_cons (pv 3) pk_nil)) (pv 5) (nomark _)) (pw_or (pt_cmpR op_ne (pe_callB (call_reprN hgd hr.units) (by rfl) T.n_repr (by decide +kernel) (pa_cons (pe_fld (pe_call G_listed (hr.mono (by decide)) (by rfl) D_listed.g D_listed.F.kp D_listed.b .nil pass0 (pa_cons (pv 3) pa_nil)) rfl) pa_nil)) (pe_callB (call_reprN hgd hr.units) (by rfl) T.n_repr (by decide +kernel) (pa_cons (pe_fld (pv 5) rfl) pa_nil)) (nomark _)) (pw_or1 (pt_cmpR op_ne (pe_fld (pe_call G_listed (hr.mono (by decide)) (by rfl) D_listed.g D_listed.F.kp D_listed.b .nil pass0 (pa_cons (pv 3) pa_nil)) rfl) (pv 4) (nomark _)))))) (pss_one (ps_ret pe_bl)) pss_nil)
  (pss_one (ps_ret (pe_or (pe_cmpR op_gt (pv 4) pe_int (nomark _)) (pe_one (pe_cmpR (op_eqO G_Layout_eq EQ_Layout b_Layout_eq pass0 (hr.mono (by decide))) (pe_call G_doubled (hr.mono (by decide)) (by rfl) D_doubled.g D_doubled.F.kp D_doubled.b .nil pass0 (pa_cons (pv 5) (pa_cons (pe_fld (pv 3) rfl) pa_nil))) (pe_call G_listed (hr.mono (by decide)) (by rfl) D_listed.g D_listed.F.kp D_listed.b .nil pass0 (pa_cons (pe_make O_Code.made G_Code_init (hr.mono (by decide)) (by rfl) O_Code.g b_Code_init .nil pass0 (pa_cons (pv 1) (pa_cons (pe_op op_add (pv 2) pe_int) pa_nil))) pa_nil)) (nomark _))))))))))), ?_⟩
      refine ⟨_, rfl, p, b0, _, 2, rfl, M0.o, by omega, by decide, by decide, fun r1 H1 r10 r11 O1 B1 => ⟨_, _, rfl, rfl, ?_⟩⟩
      have M1 := M0.draw O1 B1
      obtain ⟨r1, rfl⟩ := Int.eq_ofNat_of_zero_le r10
      refine ⟨_, rfl, _, rfl, p, b0, _, 200, rfl, M1.o, by omega, by decide, by decide, fun r3 H3 r30 r31 O3 B3 => ⟨by show 6 ≤ sizeLine; decide, fun l hl => ?_⟩⟩
      have M3 := M1.draw O3 B3
      have M4 := M3.same (same_new (o := .lst [V.int 0, .int 1, .int 2, .int 3, .int 4, .int r3]) hl)
      refine ⟨p, b0, l, _, _, rfl, M4.o, by omega, upd_same, M3.pD hl, by show 0 < 6; decide, by show 6 ≤ 1000; decide, fun jj x H5 hjj O5 B5 => ?_⟩
      obtain ⟨z, hz, rfl⟩ := pick_int (ks := [0, 1, 2, 3, 4, r3]) hjj
      have M5 := M4.draw O5 B5
      have zb : 0 ≤ z ∧ z ≤ 199 := by simp at hz; omega
      obtain ⟨d, rfl⟩ := Int.eq_ofNat_of_zero_le zb.1
      have d9 : d ≤ 199 := by omega
      clear hz hjj zb O5 B5 O3 B3 O1 B1 M4 M3 M1 M0 hl r30 r31
      obtain ⟨b, eb, b2, b3⟩ : ∃ b : Nat, (2 : Int) + (r1 : Int) = (b : Int) ∧ 2 ≤ b ∧ b ≤ 3 := ⟨2 + r1, by omega, by omega, by omega⟩
      refine ⟨by show 2 ≤ sizeLine; decide, fun t0 ht0 => ⟨t0, _, rfl, SqT.of upd_same, rfl, _, _, rfl, _, _, rfl, rfl, ?_⟩⟩
      have St := same_new (o := .tup [V.int ((2 : Int) + (r1 : Int)), .int (d : Int)]) ht0
      have M6 := M5.same St
      generalize upd H5 t0 (.tup [V.int ((2 : Int) + (r1 : Int)), .int (d : Int)]) = H6 at *
      show tSeq _ _ _ [some (V.ref p), some (V.int ((2 : Int) + (r1 : Int))), some (V.int (d : Int)), _, _, _, _] _
      rw [eb]
      have ok : CodeOk b d := ⟨b2, b3, d9⟩
      have hb := two_case ok
      have ebits : (b : Int) - 1 + 2 * (d : Int) = ((b - 1 + 2 * d : Nat) : Int) := by omega
      clear eb M5 St ht0 r10 r11
      refine ⟨_, rfl, _, rfl, ?_⟩
      intro x dx nx ndx nex
      refine make_code ok nx ndx fun H7 S7 hc => ?_
      have M7 := M6.same S7
      refine ⟨_, rfl, _, _, rfl, rfl, _, rfl, _, _, rfl, rfl, .inl ⟨by decide, by decide⟩, _, _, rfl, rfl, by show 2 ≤ sizeLine; decide, fun t1 ht1 => ⟨t1, _, rfl, SqT.of upd_same, rfl, _, _, rfl, _, _, rfl, rfl, ?_⟩⟩
      have St := same_new (o := .tup [V.ref x, .int ((b : Int) - 1 + 2 * (d : Int))]) ht1
      have M8 := M7.same St
      have c8 := hc.same St
      generalize upd H7 t1 (.tup [V.ref x, .int ((b : Int) - 1 + 2 * (d : Int))]) = H8 at *
      show tSeq _ _ _ [some (V.ref p), some (V.int (b : Int)), some (V.int (d : Int)), some (V.ref x), some (V.int ((b : Int) - 1 + 2 * (d : Int))), _, _] _
      rw [ebits]
      have M8 := M8.mono (k := n + 10) (by omega)
      clear M6 M7 hc S7 nx ndx nex St ht1 ebits
      refine ⟨_, rfl, _, _, rfl, rfl, _, rfl, ?_⟩
      by_cases big : 8 < b - 1 + 2 * d
      · refine iteT' (decide_eq_true (by omega)) ?_
        refine ⟨M8.t, fun Ha ea Ta => ⟨rfl, _, rfl, _, rfl, .inr ⟨x, b, d, rfl, c8.ext ea, ok, .inl ⟨big, fun dd hdd => ⟨dd, "code", rfl, upd_same, .inr (.inr (.inr ⟨rfl, fun t Hb Sb ht => ?_⟩))⟩⟩⟩⟩⟩
        have Sd := (same_new (o := .xd [(("part" : Str), .str "code")]) hdd).trans Sb
        have M9 := (M8.ext ea Ta).same Sd
        refine ⟨by show 2 ≤ sizeLine; decide, fun t2 ht2 => ?_⟩
        have S9 := same_new (o := .tup [V.str "misfit", .str "code"]) ht2
        refine ⟨.tuple [.str "misfit", .str "code"], .tuple [.str "misfit", .str "code"], Dp.tup (SqT.of (S9 _ _ ht)) (.cons (.str _) (.cons (.str _) .nil)), Dp.tup (SqT.of upd_same) (.cons (.str _) (.cons (.str _) .nil)), (by decide +kernel), (by decide +kernel), ?_⟩
        rw [SeqAt.eqv_refl _ (by decide +kernel)]
        exact k _ ((M9.same S9).mono (by omega))
      refine iteF' (decide_eq_false (by omega)) ?_
      have small : b - 1 + 2 * d ≤ 8 := by omega
      have p8 : 2 ^ (b - 1 + 2 * d) ≤ 256 := Nat.le_trans (Nat.pow_le_pow_right (by decide) small) (by decide)
      have pp := M07.two_pos (b - 1 + 2 * d)
      have lok := lis_ok ok small
      refine ⟨_, rfl, _, rfl, b - 1 + 2 * d, rfl, rfl, by omega, _, rfl, by omega, by omega, fun D hD => ?_⟩
      rw [Int.toNat_natCast]
      refine lc_range (n := 2 ^ (b - 1 + 2 * d)) (fun i H' => Same H8 H' ∧ H' D = some (.lst (((List.range i).map fun w => some (MC.val b (MC.wd w) d)).map mv))) ⟨same_new hD, upd_same⟩ ?_ ?_
      · rintro i H' hi ⟨S1, D1⟩
        refine ⟨rfl, _, rfl, _, rfl, _, rfl, b, d, i, by show [V.int (b : Int), V.int (d : Int), V.int (0 + (i : Int))] = _; rw [Int.zero_add], ok, fun H2 S2 => ?_⟩
        refine ⟨_, S2 _ _ D1, ?_, fun a o e => ?_, ?_⟩
        · rw [List.length_map, List.length_map, List.length_range, sizeLine_eq]
          omega
        · rw [upd_ne (ne_of_none e hD)]
          exact S2 _ _ (S1 a o e)
        · rw [upd_same, List.range_succ, List.map_append, List.map_append]
          rfl
      rintro H9 ⟨S9, D9⟩
      have M9 := M8.same S9
      have c9 := c8.same S9
      intro y dy ny ndy ney
      refine make_lay (ms := lisM b d) lok (.inl D9) ny ndy fun H10 S10 ly => ?_
      have M10 := M9.same S10
      have c10 := c9.same S10
      clear M8 c8 M9 c9 S9 D9 S10 ny ndy ney hD
      repeat (first | (with_reducible refine st_i0 rfl rfl rfl ?_) | ((with_reducible refine st_i rfl rfl ?_ rfl ?_); first | omega | exact ⟨by decide, by decide, by decide⟩ | exact .inl ⟨by decide, by decide⟩ | exact .inl ⟨by omega, by omega⟩ | exact .inr ⟨by omega, by omega⟩ | fail) | ((fail_if_success refine Exists.intro (α := Nat → Nat → L2.St → Hp → Prop) ?_ ?_); (fail_if_success refine Exists.intro (α := L2.St → Hp → Prop) ?_ ?_); (fail_if_success refine Exists.intro (α := Nat → L2.St → Hp → Prop) ?_ ?_); apply Exists.intro) | ((refine And.intro ?_ ?_); first | with_reducible rfl | with_reducible assumption | rfl | ((with_reducible apply SqL.of); assumption) | ((with_reducible apply SqT.of); assumption) | ((with_reducible apply OwnC.cl); assumption) | (with_reducible exact isI_int _) | (with_reducible exact upd_same) | ((with_reducible apply Mid.o); assumption) | ((with_reducible apply Mid.t); assumption) | (with_reducible exact ⟨_, SqT.of (by assumption)⟩) | (with_reducible exact ⟨_, SqL.of (by assumption)⟩) | omega | exact Nat.le_of_ble_eq_true rfl | exact nat9 (by omega) | (show _ ≤ sizeLine; decide) | exact ⟨by decide, by decide, by decide⟩ | exact .inl ⟨by decide, by decide⟩ | exact .inl ⟨by omega, by omega⟩ | exact .inr ⟨by omega, by omega⟩ | assumption | fail) | ((with_reducible refine iteF' ?_ ?_); first | rfl | exact decide_eq_false (by omega) | (simp <;> fail) | fail) | ((with_reducible refine iteT' ?_ ?_); first | rfl | exact decide_eq_true (by omega) | (simp <;> fail) | fail))
      refine .inr ⟨x, b, d, rfl, c10, ok, .inr ⟨small, fun t1 H11 n1 S11 la => ?_⟩⟩
      replace M10 := M10.same S11; replace c10 := c10.same S11; replace ly := ly.same S11
      repeat (first | (refine ne_lay (by assumption) (by assumption) ?_) | (with_reducible refine st_i0 rfl rfl rfl ?_) | ((with_reducible refine st_i rfl rfl ?_ rfl ?_); first | omega | exact ⟨by decide, by decide, by decide⟩ | exact .inl ⟨by decide, by decide⟩ | exact .inl ⟨by omega, by omega⟩ | exact .inr ⟨by omega, by omega⟩ | fail) | ((fail_if_success refine Exists.intro (α := Nat → Nat → L2.St → Hp → Prop) ?_ ?_); (fail_if_success refine Exists.intro (α := L2.St → Hp → Prop) ?_ ?_); (fail_if_success refine Exists.intro (α := Nat → L2.St → Hp → Prop) ?_ ?_); apply Exists.intro) | ((refine And.intro ?_ ?_); first | with_reducible rfl | with_reducible assumption | rfl | ((with_reducible apply SqL.of); assumption) | ((with_reducible apply SqT.of); assumption) | ((with_reducible apply OwnC.cl); assumption) | (with_reducible exact isI_int _) | (with_reducible exact upd_same) | ((with_reducible apply Mid.o); assumption) | ((with_reducible apply Mid.t); assumption) | (with_reducible exact ⟨_, SqT.of (by assumption)⟩) | (with_reducible exact ⟨_, SqL.of (by assumption)⟩) | omega | exact Nat.le_of_ble_eq_true rfl | exact nat9 (by omega) | (show _ ≤ sizeLine; decide) | exact ⟨by decide, by decide, by decide⟩ | exact .inl ⟨by decide, by decide⟩ | exact .inl ⟨by omega, by omega⟩ | exact .inr ⟨by omega, by omega⟩ | assumption | fail) | ((with_reducible refine iteF' ?_ ?_); first | rfl | exact decide_eq_false (by omega) | (simp <;> fail) | fail) | ((with_reducible refine iteT' ?_ ?_); first | rfl | exact decide_eq_true (by omega) | (simp <;> fail) | fail))
      refine .inr ⟨x, b, d, rfl, c10, ok, .inr ⟨small, fun t2 H12 n2 S12 lb => ?_⟩⟩
      replace M10 := M10.same S12; replace c10 := c10.same S12; replace ly := ly.same S12; replace la := la.same S12
      obtain ⟨dx2, fs2, tb, e1, e2, e3, e4⟩ := id lb
      obtain ⟨dy2, gs2, ty, g1, g2, g3, g4⟩ := id ly
      obtain ⟨q1, q2, q3, q4⟩ := datT_ok lok
      repeat (first | (refine ⟨_, datT (lisM b d), rfl, Dp.tup (SqT.of (by assumption)) (dp_means _), q1, q2, q3, q4, ?_⟩) | (with_reducible refine st_i0 rfl rfl rfl ?_) | ((with_reducible refine st_i rfl rfl ?_ rfl ?_); first | omega | exact ⟨by decide, by decide, by decide⟩ | exact .inl ⟨by decide, by decide⟩ | exact .inl ⟨by omega, by omega⟩ | exact .inr ⟨by omega, by omega⟩ | fail) | ((fail_if_success refine Exists.intro (α := Nat → Nat → L2.St → Hp → Prop) ?_ ?_); (fail_if_success refine Exists.intro (α := L2.St → Hp → Prop) ?_ ?_); (fail_if_success refine Exists.intro (α := Nat → L2.St → Hp → Prop) ?_ ?_); apply Exists.intro) | ((refine And.intro ?_ ?_); first | with_reducible rfl | with_reducible assumption | rfl | ((with_reducible apply SqL.of); assumption) | ((with_reducible apply SqT.of); assumption) | ((with_reducible apply OwnC.cl); assumption) | (with_reducible exact isI_int _) | (with_reducible exact upd_same) | ((with_reducible apply Mid.o); assumption) | ((with_reducible apply Mid.t); assumption) | (with_reducible exact ⟨_, SqT.of (by assumption)⟩) | (with_reducible exact ⟨_, SqL.of (by assumption)⟩) | omega | exact Nat.le_of_ble_eq_true rfl | exact nat9 (by omega) | (show _ ≤ sizeLine; decide) | exact ⟨by decide, by decide, by decide⟩ | exact .inl ⟨by decide, by decide⟩ | exact .inl ⟨by omega, by omega⟩ | exact .inr ⟨by omega, by omega⟩ | assumption | fail) | ((with_reducible refine iteF' ?_ ?_); first | rfl | exact decide_eq_false (by omega) | (simp <;> fail) | fail) | ((with_reducible refine iteT' ?_ ?_); first | rfl | exact decide_eq_true (by omega) | (simp <;> fail) | fail))
      refine .inr ⟨x, b, d, rfl, c10, ok, .inr ⟨small, fun t3 H13 n3 S13 lc => ?_⟩⟩
      replace M10 := M10.same S13; replace c10 := c10.same S13; replace ly := ly.same S13; replace la := la.same S13
      obtain ⟨dx3, fs3, tc, e1, e2, e3, e4⟩ := id lc
      obtain ⟨cx, cf, i1, i2, i3, i4, i5⟩ := id c10
      repeat (first | (with_reducible refine st_i0 rfl rfl rfl ?_) | ((with_reducible refine st_i rfl rfl ?_ rfl ?_); first | omega | exact ⟨by decide, by decide, by decide⟩ | exact .inl ⟨by decide, by decide⟩ | exact .inl ⟨by omega, by omega⟩ | exact .inr ⟨by omega, by omega⟩ | fail) | ((fail_if_success refine Exists.intro (α := Nat → Nat → L2.St → Hp → Prop) ?_ ?_); (fail_if_success refine Exists.intro (α := L2.St → Hp → Prop) ?_ ?_); (fail_if_success refine Exists.intro (α := Nat → L2.St → Hp → Prop) ?_ ?_); apply Exists.intro) | ((refine And.intro ?_ ?_); first | with_reducible rfl | with_reducible assumption | rfl | ((with_reducible apply SqL.of); assumption) | ((with_reducible apply SqT.of); assumption) | ((with_reducible apply OwnC.cl); assumption) | (with_reducible exact isI_int _) | (with_reducible exact upd_same) | ((with_reducible apply Mid.o); assumption) | ((with_reducible apply Mid.t); assumption) | (with_reducible exact ⟨_, SqT.of (by assumption)⟩) | (with_reducible exact ⟨_, SqL.of (by assumption)⟩) | omega | exact Nat.le_of_ble_eq_true rfl | exact nat9 (by omega) | (show _ ≤ sizeLine; decide) | exact ⟨by decide, by decide, by decide⟩ | exact .inl ⟨by decide, by decide⟩ | exact .inl ⟨by omega, by omega⟩ | exact .inr ⟨by omega, by omega⟩ | assumption | fail) | ((with_reducible refine iteF' ?_ ?_); first | rfl | exact decide_eq_false (by omega) | (simp <;> fail) | fail) | ((with_reducible refine iteT' ?_ ?_); first | rfl | exact decide_eq_true (by omega) | (simp <;> fail) | fail))
      by_cases b6 : 6 < b - 1 + 2 * d
      · refine iteT' (decide_eq_true (by omega)) ?_
        exact k _ (M10.mono (by omega))
      refine iteF' (decide_eq_false (by omega)) ?_
      have d2 : d ≤ 2 := by omega
      have many32 : b * 2 ^ d ≤ 12 ∧ 1 ≤ b * 2 ^ d := by
        have := Nat.pow_le_pow_right (n := 2) (by decide) d2
        have := M07.two_pos d
        rcases hb with rfl | rfl <;> omega
      repeat (first | (with_reducible refine st_i0 rfl rfl rfl ?_) | ((with_reducible refine st_i rfl rfl ?_ rfl ?_); first | omega | exact ⟨by decide, by decide, by decide⟩ | exact .inl ⟨by decide, by decide⟩ | exact .inl ⟨by omega, by omega⟩ | exact .inr ⟨by omega, by omega⟩ | fail) | ((fail_if_success refine Exists.intro (α := Nat → Nat → L2.St → Hp → Prop) ?_ ?_); (fail_if_success refine Exists.intro (α := L2.St → Hp → Prop) ?_ ?_); (fail_if_success refine Exists.intro (α := Nat → L2.St → Hp → Prop) ?_ ?_); apply Exists.intro) | ((refine And.intro ?_ ?_); first | with_reducible rfl | with_reducible assumption | rfl | ((with_reducible apply SqL.of); assumption) | ((with_reducible apply SqT.of); assumption) | ((with_reducible apply OwnC.cl); assumption) | (with_reducible exact isI_int _) | (with_reducible exact upd_same) | ((with_reducible apply Mid.o); assumption) | ((with_reducible apply Mid.t); assumption) | (with_reducible exact ⟨_, SqT.of (by assumption)⟩) | (with_reducible exact ⟨_, SqL.of (by assumption)⟩) | omega | exact Nat.le_of_ble_eq_true rfl | exact nat9 (by omega) | (show _ ≤ sizeLine; decide) | exact ⟨by decide, by decide, by decide⟩ | exact .inl ⟨by decide, by decide⟩ | exact .inl ⟨by omega, by omega⟩ | exact .inr ⟨by omega, by omega⟩ | assumption | fail) | ((with_reducible refine iteF' ?_ ?_); first | rfl | exact decide_eq_false (by omega) | (simp <;> fail) | fail) | ((with_reducible refine iteT' ?_ ?_); first | rfl | exact decide_eq_true (by omega) | (simp <;> fail) | fail))
      refine .inr ⟨y, _, _, rfl, ly, lok, .inr ⟨b * 2 ^ d, rfl, by omega, by omega, .inr ⟨by omega, .inr ⟨by omega, grt_lis hb, fun t4 H14 n4 S14 ld => ?_⟩⟩⟩⟩
      replace M10 := M10.same S14; replace c10 := c10.same S14
      repeat (first | (with_reducible refine st_i0 rfl rfl rfl ?_) | ((with_reducible refine st_i rfl rfl ?_ rfl ?_); first | omega | exact ⟨by decide, by decide, by decide⟩ | exact .inl ⟨by decide, by decide⟩ | exact .inl ⟨by omega, by omega⟩ | exact .inr ⟨by omega, by omega⟩ | fail) | ((fail_if_success refine Exists.intro (α := Nat → Nat → L2.St → Hp → Prop) ?_ ?_); (fail_if_success refine Exists.intro (α := L2.St → Hp → Prop) ?_ ?_); (fail_if_success refine Exists.intro (α := Nat → L2.St → Hp → Prop) ?_ ?_); apply Exists.intro) | ((refine And.intro ?_ ?_); first | with_reducible rfl | with_reducible assumption | rfl | ((with_reducible apply SqL.of); assumption) | ((with_reducible apply SqT.of); assumption) | ((with_reducible apply OwnC.cl); assumption) | (with_reducible exact isI_int _) | (with_reducible exact upd_same) | ((with_reducible apply Mid.o); assumption) | ((with_reducible apply Mid.t); assumption) | (with_reducible exact ⟨_, SqT.of (by assumption)⟩) | (with_reducible exact ⟨_, SqL.of (by assumption)⟩) | omega | exact Nat.le_of_ble_eq_true rfl | exact nat9 (by omega) | (show _ ≤ sizeLine; decide) | exact ⟨by decide, by decide, by decide⟩ | exact .inl ⟨by decide, by decide⟩ | exact .inl ⟨by omega, by omega⟩ | exact .inr ⟨by omega, by omega⟩ | assumption | fail) | ((with_reducible refine iteF' ?_ ?_); first | rfl | exact decide_eq_false (by omega) | (simp <;> fail) | fail) | ((with_reducible refine iteT' ?_ ?_); first | rfl | exact decide_eq_true (by omega) | (simp <;> fail) | fail))
      intro x2 dx5 nx5 ndx5 nex5
      show spCodeInit C [.ref x2, .int (b : Int), .int ((d : Int) + 1)] _ _ _
      rw [show (d : Int) + 1 = ((d + 1 : Nat) : Int) by omega]
      have ok2 : CodeOk b (d + 1) := ⟨b2, b3, by omega⟩
      refine make_code ok2 nx5 ndx5 fun H15 S15 hc2 => ?_
      replace M10 := M10.same S15; replace c10 := c10.same S15; replace ld := ld.same S15
      repeat (first | (with_reducible refine st_i0 rfl rfl rfl ?_) | ((with_reducible refine st_i rfl rfl ?_ rfl ?_); first | omega | exact ⟨by decide, by decide, by decide⟩ | exact .inl ⟨by decide, by decide⟩ | exact .inl ⟨by omega, by omega⟩ | exact .inr ⟨by omega, by omega⟩ | fail) | ((fail_if_success refine Exists.intro (α := Nat → Nat → L2.St → Hp → Prop) ?_ ?_); (fail_if_success refine Exists.intro (α := L2.St → Hp → Prop) ?_ ?_); (fail_if_success refine Exists.intro (α := Nat → L2.St → Hp → Prop) ?_ ?_); apply Exists.intro) | ((refine And.intro ?_ ?_); first | with_reducible rfl | with_reducible assumption | rfl | ((with_reducible apply SqL.of); assumption) | ((with_reducible apply SqT.of); assumption) | ((with_reducible apply OwnC.cl); assumption) | (with_reducible exact isI_int _) | (with_reducible exact upd_same) | ((with_reducible apply Mid.o); assumption) | ((with_reducible apply Mid.t); assumption) | (with_reducible exact ⟨_, SqT.of (by assumption)⟩) | (with_reducible exact ⟨_, SqL.of (by assumption)⟩) | omega | exact Nat.le_of_ble_eq_true rfl | exact nat9 (by omega) | (show _ ≤ sizeLine; decide) | exact ⟨by decide, by decide, by decide⟩ | exact .inl ⟨by decide, by decide⟩ | exact .inl ⟨by omega, by omega⟩ | exact .inr ⟨by omega, by omega⟩ | assumption | fail) | ((with_reducible refine iteF' ?_ ?_); first | rfl | exact decide_eq_false (by omega) | (simp <;> fail) | fail) | ((with_reducible refine iteT' ?_ ?_); first | rfl | exact decide_eq_true (by omega) | (simp <;> fail) | fail))
      refine .inr ⟨x2, b, d + 1, rfl, hc2, ok2, .inr ⟨by omega, fun t6 H16 n6 S16 le => ?_⟩⟩
      replace M10 := M10.same S16; replace c10 := c10.same S16; replace ld := ld.same S16
      refine eq_lay ld le ?_
      rw [dbl_lis hb small, show decide (b - 1 + 2 * d + 2 = b - 1 + 2 * (d + 1) ∧ lisM b (d + 1) = lisM b (d + 1)) = true from decide_eq_true ⟨by omega, rfl⟩]
      exact k _ (M10.mono (by omega))
    obtain ⟨t, h1, h2⟩ := t0
    exact ⟨t, h1.nox, h2⟩
end
end K33
/-! A lambda's reading grows with what is wanted: sums of ints, calls within, max of a list. -/
namespace OB
open PySem PySem.Spec PyProof.Rows L2 LamX
theorem mte_i0 {op : Int → Int → V} {a b : TE} (ha : MTE a) (hb : MTE b) : MTE (tOp (rI0 op) a b) := fun σ H Q1 Q2 h z =>
  ha σ H _ _ (fun x H1 z1 => hb σ H1 _ _ (fun y H2 ⟨i, j, e1, e2, q⟩ => ⟨i, j, e1, e2, h _ _ q⟩) z1) z
def SpMonoQ (sp : Sp) : Prop := ∀ vs H (Q1 Q2 : VK), (∀ v H, Q1 v H → Q2 v H) → sp vs H Q1 E0 → sp vs H Q2 E0
theorem mte_call {sp : Sp} {t : TA} (hs : SpMonoQ sp) (ht : MTA t) : MTE (tCall sp [] E0 t) := fun σ H Q1 Q2 h z => ht σ H _ _ (fun vs H1 z1 => hs _ _ _ _ h z1) z
def RMono (r : List V → Hp → VK → Prop) : Prop := ∀ vs H (Q1 Q2 : VK), (∀ v H, Q1 v H → Q2 v H) → r vs H Q1 → r vs H Q2
theorem mte_cb {r : List V → Hp → VK → Prop} {t : TA} (hr : RMono r) (ht : MTA t) : MTE (tCB r t) := fun σ H Q1 Q2 h z => ht σ H _ _ (fun vs H1 z1 => hr _ _ _ _ h z1) z
theorem mono_Max {K : PySem.W.Frag} : RMono (rMax K) := fun vs H Q1 Q2 h ⟨a, ns, e, hl, h0, k⟩ => ⟨a, ns, e, hl, h0, fun m hm hy => h _ _ (k m hm hy)⟩
theorem mono_Min {K : PySem.W.Frag} : RMono (rMin K) := fun vs H Q1 Q2 h ⟨a, ns, e, hl, h0, k⟩ => ⟨a, ns, e, hl, h0, fun m hm hy => h _ _ (k m hm hy)⟩
def R2Mono (r : R2) : Prop := ∀ x y H (Q1 Q2 : VK), (∀ v H, Q1 v H → Q2 v H) → r x y H Q1 → r x y H Q2
theorem mte_op {r : R2} {a b : TE} (hr : R2Mono r) (ha : MTE a) (hb : MTE b) : MTE (tOp r a b) := fun σ H Q1 Q2 h z =>
  ha σ H _ _ (fun x H1 z1 => hb σ H1 _ _ (fun y H2 z2 => hr _ _ _ _ _ h z2) z1) z
theorem mono_Rep : R2Mono rRep := fun x y H Q1 Q2 h ⟨l, k, xs, e1, e2, a, b, c, d, q⟩ => ⟨l, k, xs, e1, e2, a, b, c, d, fun p hp => h _ _ (q p hp)⟩
theorem mono_Cat : R2Mono rCat := fun x y H Q1 Q2 h ⟨l, k, xs, zs, e1, e2, a, b, c, q⟩ => ⟨l, k, xs, zs, e1, e2, a, b, c, fun p hp => h _ _ (q p hp)⟩
theorem mte_make {C : Addr} {sp : Sp} {t : TA} (hs : SpMonoQ sp) (ht : MTA t) : MTE (tMake C sp [] E0 t) := fun σ H Q1 Q2 h z =>
  ht σ H _ _ (fun vs H1 z1 x dx a b c => hs _ _ _ _ (fun v H2 w => ⟨w.1, h _ _ w.2⟩) (z1 x dx a b c)) z
end OB
namespace K33
open PySem PySem.Spec PyProof.Rows L2 OB SkE LamX MD
theorem draw_mono : SpMonoQ spDraw := fun vs H Q1 Q2 h ⟨p, b, n, many, e, O, hn, h0, h1, k⟩ => ⟨p, b, n, many, e, O, hn, h0, h1, fun r H' a1 a2 a3 a4 => h _ _ (k r H' a1 a2 a3 a4)⟩
/-- what is set so far: the words before w, and of w itself the lowers before j, and of j the uppers before u -/
def Dn (w j u x pr : Nat) : Prop := x < w ∨ (x = w ∧ (pr % 2 < j ∨ (pr % 2 = j ∧ pr / 2 < u)))
instance (w j u x pr : Nat) : Decidable (Dn w j u x pr) := by unfold Dn; exact inferInstance
structure DueInv (s : Nat) (ms : List (Option Nat)) (w j u : Nat) (L : List V) : Prop where
  len : L.length = 4 * ms.length
  at' : ∀ x pr, x < ms.length → pr < 4 → L[pr * ms.length + x]? = some (if Dn w j u x pr then mv (aboM s ms pr x) else .non)
theorem place_ne {N x pr x' pr' : Nat} (h : x < N) (h' : x' < N) (e : pr * N + x = pr' * N + x') : pr = pr' ∧ x = x' := by
  have a : (pr * N + x) / N = pr := by
    rw [Nat.mul_comm, Nat.mul_add_div (by omega), Nat.div_eq_of_lt h]; rfl
  have b : (pr' * N + x') / N = pr' := by
    rw [Nat.mul_comm, Nat.mul_add_div (by omega), Nat.div_eq_of_lt h']; rfl
  have c : pr = pr' := by rw [← a, e, b]
  subst c
  exact ⟨rfl, by omega⟩
theorem DueInv.mono {s w j u w' j' u' : Nat} {ms : List (Option Nat)} {L : List V} (h : DueInv s ms w j u L) (e : ∀ x pr, x < ms.length → pr < 4 → (Dn w j u x pr ↔ Dn w' j' u' x pr)) : DueInv s ms w' j' u' L :=
  ⟨h.len, fun x pr hx hp => by rw [h.at' x pr hx hp]; exact congrArg some (by simp only [e x pr hx hp])⟩
theorem DueInv.set {s w j u : Nat} {ms : List (Option Nat)} {L : List V} (h : DueInv s ms w j u L) (hw : w < ms.length) (hj : j < 2) (hu : u < 2) : DueInv s ms w j (u + 1) (L.set ((j + 2 * u) * ms.length + w) (mv (aboM s ms (j + 2 * u) w))) := by
  refine ⟨by rw [List.length_set]; exact h.len, fun x pr hx hp => ?_⟩
  rw [List.getElem?_set]
  by_cases e : (j + 2 * u) * ms.length + w = pr * ms.length + x
  · obtain ⟨e1, e2⟩ := place_ne hw hx e
    have lt : (j + 2 * u) * ms.length + w < L.length := by
      rw [h.len]
      have : (j + 2 * u) * ms.length ≤ 3 * ms.length := Nat.mul_le_mul_right _ (by omega)
      omega
    subst e2
    rw [if_pos e, if_pos lt, if_pos (show Dn w j (u + 1) w pr from .inr ⟨rfl, .inr ⟨by omega, by omega⟩⟩), ← e1]
  · rw [if_neg e, h.at' x pr hx hp]
    have ne : ¬ (j + 2 * u = pr ∧ w = x) := fun z => e (by rw [z.1, z.2])
    have : Dn w j u x pr ↔ Dn w j (u + 1) x pr := by unfold Dn; omega
    exact congrArg some (by simp only [this])
theorem DueInv.all {s j u : Nat} {ms : List (Option Nat)} {L : List V} (h : DueInv s ms ms.length j u L) : L = (dblM s ms 4).map mv := by
  refine List.ext_getElem? fun i => ?_
  by_cases hi : i < 4 * ms.length
  · have hN : 0 < ms.length := by omega
    have e : i = i / ms.length * ms.length + i % ms.length := by rw [Nat.mul_comm]; exact (Nat.div_add_mod _ _).symm
    have hx := Nat.mod_lt i hN
    have hq : i / ms.length < 4 := Nat.div_lt_of_lt_mul (by rw [Nat.mul_comm]; exact hi)
    rw [e, h.at' _ _ hx hq, if_pos (.inl hx), List.getElem?_map, dbl_at s ms 4 _ _ hq hx]
    rfl
  · rw [List.getElem?_eq_none (by rw [h.len]; omega), List.getElem?_eq_none (by rw [List.length_map, dbl_len]; omega)]
theorem DueInv.begin {s : Nat} {ms : List (Option Nat)} : DueInv s ms 0 0 0 (List.replicate (4 * ms.length) .non) := by
  refine ⟨List.length_replicate, fun x pr hx hp => ?_⟩
  have lt : pr * ms.length + x < 4 * ms.length := by
    have : pr * ms.length ≤ 3 * ms.length := Nat.mul_le_mul_right _ (by omega)
    omega
  rw [List.getElem?_replicate, if_pos lt, if_neg (by unfold Dn; omega)]
theorem abo_is {s j u x : Nat} {ms : List (Option Nat)} {m : Option Nat} (hm : ms[x]? = some m) (hj : j < 2) (hu : u < 2) : aboM s ms (j + 2 * u) x = m.map fun t => t + s * (if MC.par (MC.wd x) 8 then j else u) := by
  unfold aboM
  rw [List.getD_eq_getElem?_getD, hm]
  have e : (j + 2 * u) / 2 ^ (if MC.par (MC.wd x) 8 then 0 else 1) % 2 = if MC.par (MC.wd x) 8 then j else u := by
    cases MC.par (MC.wd x) 8 <;> simp <;> omega
  rw [e]
  rfl
theorem grt_of {k : Nat} {ms : List (Option Nat)} (h : ∀ t, some t ∈ ms → t < k) : grt k ms = false := by
  unfold grt
  refine List.any_eq_false.mpr fun m hm => ?_
  cases m with
  | none => exact Bool.false_ne_true
  | some t =>
    have := h t hm
    show ¬ decide (k ≤ t) = true
    rw [decide_eq_false (by omega)]
    decide
theorem grt_yes {k : Nat} {ms : List (Option Nat)} (h : some k ∈ ms) : grt k ms = true := List.any_eq_true.mpr ⟨_, h, decide_eq_true (Nat.le_refl k)⟩
def metL (ms : List (Option Nat)) : List Int := (ms.filterMap id).map fun n : Nat => (n : Int)
theorem metL_snoc (ms : List (Option Nat)) (m : Option Nat) : metL (ms ++ [m]) = metL ms ++ (match m with | none => [] | some t => [(t : Int)]) := by
  unfold metL
  rw [List.filterMap_append, List.map_append]
  cases m <;> rfl
theorem metL_len (ms : List (Option Nat)) : (metL ms).length ≤ ms.length := by
  unfold metL
  rw [List.length_map]
  exact List.length_filterMap_le _ _
theorem metL_mem {ms : List (Option Nat)} {z : Int} (h : z ∈ metL ms) : ∃ t : Nat, z = (t : Int) ∧ some t ∈ ms := by
  unfold metL at h
  obtain ⟨t, ht, rfl⟩ := List.mem_map.mp h
  obtain ⟨m, hm, e⟩ := List.mem_filterMap.mp ht
  exact ⟨t, rfl, by rw [← e]; exact hm⟩
abbrev st33 (p D x due : Addr) (b s' mo : Nat) (k2 : Int) (sh : Str) (u5 u10 u11 u12 u13 u14 u15 : Option V) : L2.St := [some (.ref p), some (.int (b : Int)), some (.int (s' : Int)), some (.int k2), some (.ref D), u5, some (.ref x), some (.int (mo : Int)), some (.ref due), some (.str sh), u10, u11, u12, u13, u14, u15, none, none]
structure R33 (T : List (Addr × Str)) (p b0 : Addr) (n : Nat) (L x D due : Addr) (b : Nat) (ms : List (Option Nat)) (Ld : List V) (H : Hp) : Prop where
  M : Mid T p b0 n H
  hl : IsLay H L x b ms
  gD : H D = some (.lst (ms.map mv))
  gd : H due = some (.lst Ld)
  ne : D ≠ due
  np : due ≠ p
  nb : b0 ≠ due
theorem R33.same {T : List (Addr × Str)} {p b0 : Addr} {n : Nat} {L x D due : Addr} {b : Nat} {ms : List (Option Nat)} {Ld : List V} {H H' : Hp} (r : R33 T p b0 n L x D due b ms Ld H) (s : Same H H') : R33 T p b0 n L x D due b ms Ld H' :=
  ⟨r.M.same s, r.hl.same s, s _ _ r.gD, s _ _ r.gd, r.ne, r.np, r.nb⟩
theorem R33.set {T : List (Addr × Str)} {p b0 : Addr} {n : Nat} {L x D due : Addr} {b : Nat} {ms : List (Option Nat)} {Ld : List V} {H : Hp} (r : R33 T p b0 n L x D due b ms Ld H) (Le : List V) : R33 T p b0 n L x D due b ms Le (upd H due (.lst Le)) :=
  ⟨r.M.put r.gd r.np r.nb, r.hl.but but_at r.gd, by rw [upd_ne r.ne]; exact r.gD, upd_same, r.ne, r.np, r.nb⟩
section
variable {P : Program} {w : World} {K : PySem.W.Frag} {mg : Str → Option Value} {base : Heap}
theorem sc__law_doubled_right : FnScope ["barn", "bits", "states", "least", "means", "word", "layout", "more", "due", "kept", "state", "ones", "at", "lower", "upper", "chosen", "told", "met"] ["barn"] (defScope s__law_doubled_right) := ⟨rfl, rfl, rfl, by decide +kernel, rfl, by decide +kernel, by decide +kernel⟩
abbrev N__law_doubled_right : List Str := ["barn", "bits", "states", "least", "means", "word", "layout", "more", "due", "kept", "state", "ones", "at", "lower", "upper", "chosen", "told", "met"]
theorem ok__law_doubled_right {f f1 f2 f3 f6 fL fE L CF CC CL CN CM c Pa Pb Pc : Addr} {fd1 fd2 fd3 fd6 fdL fdE : FuncData} {oc kV doc pm ct : Value} {od an : Option Addr} {osl : Array (Option Value)} (T : Blt mg)
    (lk : K.lookup f = some ⟨oc, od, .func (PySem.W.fnOf "_law_doubled_right" "_law_doubled_right" (defArgs s__law_doubled_right) (defBody s__law_doubled_right) (defScope s__law_doubled_right) .none kV doc pm an (.ref c) ct), osl⟩) (hcd : PySem.W.codeIn K (.ref c) "_law_doubled_right" = true)
    (TB : TabB base mg c Pb) (hu : ∀ p ∈ TB3 Pa Pb Pc, p.1 = Pb → p.2 = LQb) (Z : Kinds K mg CF CC CL CN CM) (O_Layout : OwnC K mg "Layout" L fL) (l1 : NoAttr K L "bits") (l2 : NoAttr K L "means")
    (D__law_heard : Df K mg "_law_heard" s__law_heard ["ask"] f1 fd1) (D__law_stack : Df K mg "_law_stack" s__law_stack ["barn", "many"] f2 fd2) (D__law_pick : Df K mg "_law_pick" s__law_pick ["barn", "some"] f3 fd3) (D_doubled : Df K mg "doubled" s_doubled ["layout", "states"] f6 fd6) (GX_doubled : FnOk P w K mg base (L2.CX P w) 8 f6 fd6 ["layout", "states"] (spDoubled K L CL CN CM))
    (b_Layout_init : L2.Binds K fdL ["self", "bits", "means"] []) (G_Layout_init : FnOk P w K mg base CX0 4 fL fdL ["self", "bits", "means"] (spLayInit L)) (EQ_Layout : OwnEqC K L fE) (b_Layout_eq : L2.Binds K fdE ["self", "other"] []) (G_Layout_eq : FnOk P w K mg base CX0 1 fE fdE ["self", "other"] (spLayEq K L)) :
    FnG P w K mg base CX0 14 f (PySem.W.fnOf "_law_doubled_right" "_law_doubled_right" (defArgs s__law_doubled_right) (defBody s__law_doubled_right) (defScope s__law_doubled_right) .none kV doc pm an (.ref c) ct) ["barn"] (spStep (TB3 Pa Pb Pc) 200) := by
  have G_doubled := calm_of GX_doubled
  have G__law_stack : FnOk P w K mg base CX0 1 f2 fd2 ["barn", "many"] spDraw := ok__law_stack D__law_stack.F T
  have G__law_pick : FnOk P w K mg base CX0 2 f3 fd3 ["barn", "some"] spOne := ok__law_pick D__law_pick.F T D__law_stack
  have kb_doubled : KBinds K fd6 ["layout", "states"] ["states", "layout"] (kg [1, 0]) (kg [1, 0]) := kbinds D_doubled.F (fun _ _ _ _ _ _ us ws hl => by
    rcases us with _ | ⟨a, us⟩
    · rcases ws with _ | ⟨x0, _ | ⟨x1, ws⟩⟩ <;> first | rfl | exact absurd (show 0 = 2 from hl) (by decide) | exact absurd (show 1 = 2 from hl) (by decide)
    · exact absurd (show 0 = 2 from hl) (by decide)) kg_vals
  obtain ⟨ocH, odH, kVH, docH, pmH, anH, cdvH, ctH, oslH, eH, lkH, hcH⟩ := D__law_heard.F.ex
  subst eH
  refine fnG_of lk hcd sc__law_doubled_right (fun vs H Q E h => ?_) fun A outer s H vs Q E hgd hr h => ?_
  · obtain ⟨p, b0, n, rfl, _⟩ := h
    rfl
  · obtain ⟨p, b0, n, rfl, M, hn, k⟩ := h
    have t0 : ∃ t, PSs (cxOf CX0 P w K mg base ["barn", "bits", "states", "least", "means", "word", "layout", "more", "due", "kept", "state", "ones", "at", "lower", "upper", "chosen", "told", "met"] "_law_doubled_right" (defScope s__law_doubled_right) f (.ref c) A outer s H E).nox (defBody s__law_doubled_right) t ∧ t { nx := fun _ H' => Q .non H', rt := Q } (L2.start ["barn", "bits", "states", "least", "means", "word", "layout", "more", "due", "kept", "state", "ones", "at", "lower", "upper", "chosen", "told", "met"] [.ref p]) H := by
      refine ⟨_, (pss_cons (ps_asg (pe_tup (pa_cons (pe_op op_add pe_int (pe_call G__law_stack (hr.mono (by decide)) (by rfl) D__law_stack.g D__law_stack.F.kp D__law_stack.b .nil pass0 (pa_cons (pv 0) (pa_cons pe_int pa_nil)))) (pa_cons (pe_op op_add pe_int (pe_call G__law_stack (hr.mono (by decide)) (by rfl) D__law_stack.g D__law_stack.F.kp D__law_stack.b .nil pass0 (pa_cons (pv 0) (pa_cons (pe_call G__law_pick (hr.mono (by decide)) (by rfl) D__law_pick.g D__law_pick.F.kp D__law_pick.b .nil pass0 (pa_cons (pv 0) (pa_cons (pe_lst (pa_cons pe_int (pa_cons pe_int pa_nil))) pa_nil))) pa_nil)))) pa_nil))) (pg_tup (by rfl) (pgs_cons (pg_name (i := 1) sc__law_doubled_right.nd rfl (Or.inl rfl)) (pgs_cons (pg_name (i := 2) sc__law_doubled_right.nd rfl (Or.inr rfl)) pgs_nil))))
  (pss_cons (ps_set (i := 3) sc__law_doubled_right.nd rfl (Or.inr rfl) (pe_call G__law_pick (hr.mono (by decide)) (by rfl) D__law_pick.g D__law_pick.F.kp D__law_pick.b .nil pass0 (pa_cons (pv 0) (pa_cons (pe_lst (pa_cons pe_int (pa_cons pe_int (pa_cons pe_int pa_nil)))) pa_nil))))
  (pss_cons (ps_setLc (i := 4) (own := [("word", 5)]) (g := (gName 5)) (tt := tYes) rfl sc__law_doubled_right.nd rfl rfl (sw_true rfl rfl rfl (by decide +kernel)) (pi_range1 (by rfl) T.n_range (pa_cons (pe_op op_oneN pe_int (pv 1)) pa_nil)) (blkOk_by (N := N__law_doubled_right) (own := [("word", 5)]) (sc := defScope s__law_doubled_right) (by decide +kernel)) (fun _ _ _ _ _ => (pg_name (i := 5) sc__law_doubled_right.nd rfl (Or.inl rfl))) (fun _ _ _ _ _ => pts_nil) (fun _ _ _ _ _ => (pe_ifExp (pt_cmpR op_gt (pe_call G__law_stack (hr.mono (by decide)) (by rfl) D__law_stack.g D__law_stack.F.kp D__law_stack.b .nil pass0 (pa_cons (pv 0) (pa_cons (pv 3) pa_nil))) pe_int (nomark _)) (pe_call G__law_stack (hr.mono (by decide)) (by rfl) D__law_stack.g D__law_stack.F.kp D__law_stack.b .nil pass0 (pa_cons (pv 0) (pa_cons (pv 2) pa_nil))) pe_non)))
  (pss_cons (ps_asg (pe_tup (pa_cons (pe_make O_Layout.made G_Layout_init (hr.mono (by decide)) (by rfl) O_Layout.g b_Layout_init .nil pass0 (pa_cons (pv 1) (pa_cons (pv 4) pa_nil))) (pa_cons (pe_callB (call_min2 rfl) (by rfl) T.n_min (by decide +kernel) (pa_cons pe_int (pa_cons (pe_op op_add (pv 2) (pe_call G__law_stack (hr.mono (by decide)) (by rfl) D__law_stack.g D__law_stack.F.kp D__law_stack.b .nil pass0 (pa_cons (pv 0) (pa_cons pe_int pa_nil)))) pa_nil))) pa_nil))) (pg_tup (by rfl) (pgs_cons (pg_name (i := 6) sc__law_doubled_right.nd rfl (Or.inr rfl)) (pgs_cons (pg_name (i := 7) sc__law_doubled_right.nd rfl (Or.inl rfl)) pgs_nil))))
  (pss_cons (ps_par (i := 8) (j := 9) (by rfl) sc__law_doubled_right.nd rfl rfl (by decide) rfl rfl (pa_cons (pe_op op_rep (pe_lst (pa_cons pe_non pa_nil)) (pe_op op_oneN pe_int (pe_op op_add (pv 1) pe_int))) (pa_cons (pe_callB (call_reprN hgd hr.units) (by rfl) T.n_repr (by decide +kernel) (pa_cons (pe_fld (pv 6) rfl) pa_nil)) pa_nil)) (by rfl))
  (pss_cons (ps_for PassesOwn.never rfl (pi_enum (by rfl) T.n_enumerate (pa_cons (pv 4) pa_nil)) (pg_tup (by rfl) (pgs_cons (pg_name (i := 5) sc__law_doubled_right.nd rfl (Or.inr rfl)) (pgs_cons (pg_name (i := 10) sc__law_doubled_right.nd rfl (Or.inl rfl)) pgs_nil))) (pss_cons (ps_set (i := 11) sc__law_doubled_right.nd rfl (Or.inl rfl) (pe_callB (cr_sum rfl) (by rfl) T.n_sum (by decide +kernel) (pa_cons (pe_lc (own := [("at", 12)]) (g := (gName 12)) (tt := tYes) rfl sc__law_doubled_right.nd (pi_range1 (by rfl) T.n_range (pa_cons (pv 1) pa_nil)) (blkOk_by (N := N__law_doubled_right) (own := [("at", 12)]) (sc := defScope s__law_doubled_right) (by decide +kernel)) (fun _ _ _ _ _ => (pg_name (i := 12) sc__law_doubled_right.nd rfl (Or.inl rfl))) (fun _ _ _ _ _ => pts_nil) (fun _ _ _ _ _ => (pe_op op_and (pe_op op_shrN (pv 5) (pv 12)) pe_int))) pa_nil)))
  (pss_one (ps_for PassesOwn.never rfl (pi_tup (pe_tup (pa_cons pe_int (pa_cons pe_int pa_nil)))) (pg_name (i := 13) sc__law_doubled_right.nd rfl (Or.inl rfl)) (pss_one (ps_for PassesOwn.never rfl (pi_tup (pe_tup (pa_cons pe_int (pa_cons pe_int pa_nil)))) (pg_name (i := 14) sc__law_doubled_right.nd rfl (Or.inl rfl)) (pss_cons (ps_set (i := 15) sc__law_doubled_right.nd rfl (Or.inl rfl) (pe_ifExp (pt_cmpR op_eq (pe_op op_mod (pe_callTy call_int1 (by rfl) T.n_int (by decide +kernel) (pa_cons (pv 11) pa_nil)) pe_int) pe_int (nomark _)) (pv 14) (pv 13)))
  (pss_one (ps_asg (pe_ifExp (pt_cmpR op_notN (pv 10) pe_non (nomark _)) (pe_op op_add (pv 10) (pe_op op_mul (pv 7) (pv 15))) pe_non) (pg_sub (pv 8) (pe_op op_add (pe_op op_add (pv 5) (pe_op op_mul (pv 13) (pe_op op_oneN pe_int (pv 1)))) (pe_op op_mul (pv 14) (pe_op op_oneN pe_int (pe_op op_add (pv 1) pe_int)))) set_list))))))))))
  (pss_cons (ps_set (i := 16) sc__law_doubled_right.nd rfl (Or.inl rfl) (pe_callKo G_doubled (hr.mono (by decide)) (by rfl) D_doubled.g D_doubled.F.kp kb_doubled pass0 (pk_cons (pv 7) (pk_cons (pv 6) pk_nil))))
  (pss_cons (ps_if (PW.pt (pw_or (pt_cmpR op_ne (pe_callB (call_reprN hgd hr.units) (by rfl) T.n_repr (by decide +kernel) (pa_cons (pe_fld (pv 16) rfl) pa_nil)) (pe_callB (call_reprN hgd hr.units) (by rfl) T.n_repr (by decide +kernel) (pa_cons (pe_callTy call_tuple_of (by rfl) T.n_tuple (by decide +kernel) (pa_cons (pv 8) pa_nil)) pa_nil)) (nomark _)) (pw_or (pt_cmpR op_ne (pe_fld (pv 16) rfl) (pe_op op_add (pv 1) pe_int) (nomark _)) (pw_or (pt_cmpR op_ne (pe_callB (call_reprN hgd hr.units) (by rfl) T.n_repr (by decide +kernel) (pa_cons (pe_fld (pv 6) rfl) pa_nil)) (pv 9) (nomark _)) (pw_or1 (pt_cmpR (op_neO G_Layout_eq EQ_Layout b_Layout_eq pass0 (hr.mono (by decide))) (pv 16) (pe_make O_Layout.made G_Layout_init (hr.mono (by decide)) (by rfl) O_Layout.g b_Layout_init .nil pass0 (pa_cons (pe_op op_add (pv 1) pe_int) (pa_cons (pv 8) pa_nil))) (nomark _))))))) (pss_one (ps_ret pe_bl)) pss_nil)
  (pss_cons (ps_set (i := 17) sc__law_doubled_right.nd rfl (Or.inr rfl) (pe_lc (own := [("state", 10)]) (g := (gName 10)) rfl sc__law_doubled_right.nd (pi_list (pv 4)) (blkOk_by (N := N__law_doubled_right) (own := [("state", 10)]) (sc := defScope s__law_doubled_right) (by decide +kernel)) (fun _ _ _ _ _ => (pg_name (i := 10) sc__law_doubled_right.nd rfl (Or.inl rfl))) (fun _ _ _ _ _ => (pts_one (pt_cmpR op_notN (pv 10) pe_non (nomark _)))) (fun _ _ _ _ _ => (pv 10))))
  (C8.pss_cut (ps_if (PW.pt (pw_and (pt_cmpR (op_neD hr.units) (pv 17) (pe_lst pa_nil) (nomark _)) (pw_and (pt_cmpR op_gt (pe_callB (cr_max rfl) (by rfl) T.n_max (by decide +kernel) (pa_cons (pv 17) pa_nil)) pe_int (nomark _)) (pw_and1 (pt_cmpR (op_neD hr.units) (pe_lam (T := TB3 Pa Pb Pc) (vs := []) (TT := TTheard CC CL CN CM) (k := 9) (nm := []) (dts := []) (t := fun E => tCallS (spDoubled K L CL CN CM) (WE fun cls d _ H => E cls d H) (tCons (tVar 6) (tCons (tCB (rMax K) (tCons (tVar 17) tNil)) tNil))) (by rfl) D__law_heard.g D__law_heard.F.kp lkH hcH D__law_heard.b sc__law_heard rfl (Or.inl rfl) (heard_gives Z T) TB rfl mem3_2 hu (hr.mono (by decide)) (lamN_by (sc := defScope s__law_doubled_right) (N := N__law_doubled_right) (by decide +kernel)) (.inl ⟨rfl, rfl⟩) (bind_0 fun _ _ _ _ _ _ _ => rfl) (mono_S doubled_mono (mta_cons mte_var (mta_cons (mte_cb mono_Max (mta_cons mte_var mta_nil)) mta_nil))) pa_nil (fun _ _ _ => rfl) rfl (fun A outer s H E f c' hr2 => pe_callS GX_doubled (hr2.mono (by decide)) (by rfl) D_doubled.g D_doubled.F.kp D_doubled.b (fun σ => passAt (takes_of rfl rfl rfl rfl) σ) (pa_cons (pv 6) (pa_cons (pe_callB (cr_max rfl) (by rfl) T.n_max (by decide +kernel) (pa_cons (pv 17) pa_nil)) pa_nil)))) (pe_tup (pa_cons pe_str (pa_cons pe_str pa_nil))) (nomark _)))))) (pss_one (ps_ret pe_bl)) pss_nil)
  (pss_one (ps_ret (pe_cmpR (op_eqD hr.units) (pe_lam (T := TB3 Pa Pb Pc) (vs := []) (TT := TTheard CC CL CN CM) (k := 9) (nm := []) (dts := []) (t := fun E => tCallS (spDoubled K L CL CN CM) (WE fun cls d _ H => E cls d H) (tCons (tVar 6) (tCons (tOp (rI0 fun i j => V.int (i + j)) (tC (.int 33)) (tCall spDraw [] E0 (tCons (tVar 0) (tCons (tC (.int 32)) tNil)))) tNil))) (by rfl) D__law_heard.g D__law_heard.F.kp lkH hcH D__law_heard.b sc__law_heard rfl (Or.inl rfl) (heard_gives Z T) TB rfl mem3_2 hu (hr.mono (by decide)) (lamN_by (sc := defScope s__law_doubled_right) (N := N__law_doubled_right) (by decide +kernel)) (.inl ⟨rfl, rfl⟩) (bind_0 fun _ _ _ _ _ _ _ => rfl) (mono_S doubled_mono (mta_cons mte_var (mta_cons (mte_i0 mte_c (mte_call draw_mono (mta_cons mte_var (mta_cons mte_c mta_nil)))) mta_nil))) pa_nil (fun _ _ _ => rfl) rfl (fun A outer s H E f c' hr2 => pe_callS GX_doubled (hr2.mono (by decide)) (by rfl) D_doubled.g D_doubled.F.kp D_doubled.b (fun σ => passAt (takes_of rfl rfl rfl rfl) σ) (pa_cons (pv 6) (pa_cons (pe_op op_add pe_int (pe_call G__law_stack (hr2.mono (by decide)) (by rfl) D__law_stack.g D__law_stack.F.kp D__law_stack.b .nil pass0 (pa_cons (pv 0) (pa_cons pe_int pa_nil)))) pa_nil)))) (pe_tup (pa_cons pe_str (pa_cons pe_str pa_nil))) (nomark _)))))))))))))), ?_⟩
      repeat (first | (with_reducible refine st_i0 rfl rfl rfl ?_) | ((with_reducible refine st_i rfl rfl ?_ rfl ?_); first | omega | exact ⟨by decide, by decide, by decide⟩ | exact .inl ⟨by decide, by decide⟩ | exact .inl ⟨by omega, by omega⟩ | exact .inr ⟨by omega, by omega⟩ | fail) | ((fail_if_success refine Exists.intro (α := Nat → Nat → L2.St → Hp → Prop) ?_ ?_); (fail_if_success refine Exists.intro (α := L2.St → Hp → Prop) ?_ ?_); (fail_if_success refine Exists.intro (α := Nat → L2.St → Hp → Prop) ?_ ?_); apply Exists.intro) | ((refine And.intro ?_ ?_); first | with_reducible rfl | with_reducible assumption | rfl | ((with_reducible apply SqL.of); assumption) | ((with_reducible apply SqT.of); assumption) | ((with_reducible apply OwnC.cl); assumption) | (with_reducible exact isI_int _) | (with_reducible exact upd_same) | ((with_reducible apply Mid.o); assumption) | ((with_reducible apply Mid.t); assumption) | (with_reducible exact ⟨_, SqT.of (by assumption)⟩) | (with_reducible exact ⟨_, SqL.of (by assumption)⟩) | omega | exact Nat.le_of_ble_eq_true rfl | exact nat9 (by omega) | (show _ ≤ sizeLine; decide) | exact ⟨by decide, by decide, by decide⟩ | exact .inl ⟨by decide, by decide⟩ | exact .inl ⟨by omega, by omega⟩ | exact .inr ⟨by omega, by omega⟩ | assumption | fail) | ((with_reducible refine iteF' ?_ ?_); first | rfl | exact decide_eq_false (by omega) | (simp <;> fail) | fail) | ((with_reducible refine iteT' ?_ ?_); first | rfl | exact decide_eq_true (by omega) | (simp <;> fail) | fail))
      intro r H1 r0 r1 O_r B_r; replace M := M.draw O_r B_r; obtain ⟨r, rfl⟩ := Int.eq_ofNat_of_zero_le r0; clear O_r B_r
      repeat (first | (with_reducible refine st_i0 rfl rfl rfl ?_) | ((with_reducible refine st_i rfl rfl ?_ rfl ?_); first | omega | exact ⟨by decide, by decide, by decide⟩ | exact .inl ⟨by decide, by decide⟩ | exact .inl ⟨by omega, by omega⟩ | exact .inr ⟨by omega, by omega⟩ | fail) | ((fail_if_success refine Exists.intro (α := Nat → Nat → L2.St → Hp → Prop) ?_ ?_); (fail_if_success refine Exists.intro (α := L2.St → Hp → Prop) ?_ ?_); (fail_if_success refine Exists.intro (α := Nat → L2.St → Hp → Prop) ?_ ?_); apply Exists.intro) | ((refine And.intro ?_ ?_); first | with_reducible rfl | with_reducible assumption | rfl | ((with_reducible apply SqL.of); assumption) | ((with_reducible apply SqT.of); assumption) | ((with_reducible apply OwnC.cl); assumption) | (with_reducible exact isI_int _) | (with_reducible exact upd_same) | ((with_reducible apply Mid.o); assumption) | ((with_reducible apply Mid.t); assumption) | (with_reducible exact ⟨_, SqT.of (by assumption)⟩) | (with_reducible exact ⟨_, SqL.of (by assumption)⟩) | omega | exact Nat.le_of_ble_eq_true rfl | exact nat9 (by omega) | (show _ ≤ sizeLine; decide) | exact ⟨by decide, by decide, by decide⟩ | exact .inl ⟨by decide, by decide⟩ | exact .inl ⟨by omega, by omega⟩ | exact .inr ⟨by omega, by omega⟩ | assumption | fail) | ((with_reducible refine iteF' ?_ ?_); first | rfl | exact decide_eq_false (by omega) | (simp <;> fail) | fail) | ((with_reducible refine iteT' ?_ ?_); first | rfl | exact decide_eq_true (by omega) | (simp <;> fail) | fail))
      intro l h_l; have np_l := M.pD h_l; have nb_l := M.bD h_l; generalize hE : upd _ l _ = H2; obtain ⟨S_l, g_l⟩ := new_facts h_l hE; clear hE; replace M := M.same S_l
      repeat (first | (with_reducible refine st_i0 rfl rfl rfl ?_) | ((with_reducible refine st_i rfl rfl ?_ rfl ?_); first | omega | exact ⟨by decide, by decide, by decide⟩ | exact .inl ⟨by decide, by decide⟩ | exact .inl ⟨by omega, by omega⟩ | exact .inr ⟨by omega, by omega⟩ | fail) | ((fail_if_success refine Exists.intro (α := Nat → Nat → L2.St → Hp → Prop) ?_ ?_); (fail_if_success refine Exists.intro (α := L2.St → Hp → Prop) ?_ ?_); (fail_if_success refine Exists.intro (α := Nat → L2.St → Hp → Prop) ?_ ?_); apply Exists.intro) | ((refine And.intro ?_ ?_); first | with_reducible rfl | with_reducible assumption | rfl | ((with_reducible apply SqL.of); assumption) | ((with_reducible apply SqT.of); assumption) | ((with_reducible apply OwnC.cl); assumption) | (with_reducible exact isI_int _) | (with_reducible exact upd_same) | ((with_reducible apply Mid.o); assumption) | ((with_reducible apply Mid.t); assumption) | (with_reducible exact ⟨_, SqT.of (by assumption)⟩) | (with_reducible exact ⟨_, SqL.of (by assumption)⟩) | omega | exact Nat.le_of_ble_eq_true rfl | exact nat9 (by omega) | (show _ ≤ sizeLine; decide) | exact ⟨by decide, by decide, by decide⟩ | exact .inl ⟨by decide, by decide⟩ | exact .inl ⟨by omega, by omega⟩ | exact .inr ⟨by omega, by omega⟩ | assumption | fail) | ((with_reducible refine iteF' ?_ ?_); first | rfl | exact decide_eq_false (by omega) | (simp <;> fail) | fail) | ((with_reducible refine iteT' ?_ ?_); first | rfl | exact decide_eq_true (by omega) | (simp <;> fail) | fail))
      intro j_x x H3 e_x O_x B_x; replace M := M.draw O_x B_x; clear O_x B_x
      obtain ⟨k1, hk1, rfl⟩ := pick_int (ks := [4, 32]) e_x
      have kb : k1 = 4 ∨ k1 = 32 := by simpa using hk1
      clear hk1 e_x
      repeat (first | (with_reducible refine st_i0 rfl rfl rfl ?_) | ((with_reducible refine st_i rfl rfl ?_ rfl ?_); first | omega | exact ⟨by decide, by decide, by decide⟩ | exact .inl ⟨by decide, by decide⟩ | exact .inl ⟨by omega, by omega⟩ | exact .inr ⟨by omega, by omega⟩ | fail) | ((fail_if_success refine Exists.intro (α := Nat → Nat → L2.St → Hp → Prop) ?_ ?_); (fail_if_success refine Exists.intro (α := L2.St → Hp → Prop) ?_ ?_); (fail_if_success refine Exists.intro (α := Nat → L2.St → Hp → Prop) ?_ ?_); apply Exists.intro) | ((refine And.intro ?_ ?_); first | with_reducible rfl | with_reducible assumption | rfl | ((with_reducible apply SqL.of); assumption) | ((with_reducible apply SqT.of); assumption) | ((with_reducible apply OwnC.cl); assumption) | (with_reducible exact isI_int _) | (with_reducible exact upd_same) | ((with_reducible apply Mid.o); assumption) | ((with_reducible apply Mid.t); assumption) | (with_reducible exact ⟨_, SqT.of (by assumption)⟩) | (with_reducible exact ⟨_, SqL.of (by assumption)⟩) | omega | exact Nat.le_of_ble_eq_true rfl | exact nat9 (by omega) | (show _ ≤ sizeLine; decide) | exact ⟨by decide, by decide, by decide⟩ | exact .inl ⟨by decide, by decide⟩ | exact .inl ⟨by omega, by omega⟩ | exact .inr ⟨by omega, by omega⟩ | assumption | fail) | ((with_reducible refine iteF' ?_ ?_); first | rfl | exact decide_eq_false (by omega) | (simp <;> fail) | fail) | ((with_reducible refine iteT' ?_ ?_); first | rfl | exact decide_eq_true (by omega) | (simp <;> fail) | fail))
      intro q H4 q0 q1 O_q B_q; replace M := M.draw O_q B_q; obtain ⟨q, rfl⟩ := Int.eq_ofNat_of_zero_le q0; clear O_q B_q
      repeat (first | (with_reducible refine st_i0 rfl rfl rfl ?_) | ((with_reducible refine st_i rfl rfl ?_ rfl ?_); first | omega | exact ⟨by decide, by decide, by decide⟩ | exact .inl ⟨by decide, by decide⟩ | exact .inl ⟨by omega, by omega⟩ | exact .inr ⟨by omega, by omega⟩ | fail) | ((fail_if_success refine Exists.intro (α := Nat → Nat → L2.St → Hp → Prop) ?_ ?_); (fail_if_success refine Exists.intro (α := L2.St → Hp → Prop) ?_ ?_); (fail_if_success refine Exists.intro (α := Nat → L2.St → Hp → Prop) ?_ ?_); apply Exists.intro) | ((refine And.intro ?_ ?_); first | with_reducible rfl | with_reducible assumption | rfl | ((with_reducible apply SqL.of); assumption) | ((with_reducible apply SqT.of); assumption) | ((with_reducible apply OwnC.cl); assumption) | (with_reducible exact isI_int _) | (with_reducible exact upd_same) | ((with_reducible apply Mid.o); assumption) | ((with_reducible apply Mid.t); assumption) | (with_reducible exact ⟨_, SqT.of (by assumption)⟩) | (with_reducible exact ⟨_, SqL.of (by assumption)⟩) | omega | exact Nat.le_of_ble_eq_true rfl | exact nat9 (by omega) | (show _ ≤ sizeLine; decide) | exact ⟨by decide, by decide, by decide⟩ | exact .inl ⟨by decide, by decide⟩ | exact .inl ⟨by omega, by omega⟩ | exact .inr ⟨by omega, by omega⟩ | assumption | fail) | ((with_reducible refine iteF' ?_ ?_); first | rfl | exact decide_eq_false (by omega) | (simp <;> fail) | fail) | ((with_reducible refine iteT' ?_ ?_); first | rfl | exact decide_eq_true (by omega) | (simp <;> fail) | fail))
      intro t0 h_t0; have np_t0 := M.pD h_t0; have nb_t0 := M.bD h_t0; generalize hE : upd _ t0 _ = H5; obtain ⟨S_t0, g_t0⟩ := new_facts h_t0 hE; clear hE; replace M := M.same S_t0
      repeat (first | (with_reducible refine st_i0 rfl rfl rfl ?_) | ((with_reducible refine st_i rfl rfl ?_ rfl ?_); first | omega | exact ⟨by decide, by decide, by decide⟩ | exact .inl ⟨by decide, by decide⟩ | exact .inl ⟨by omega, by omega⟩ | exact .inr ⟨by omega, by omega⟩ | fail) | ((fail_if_success refine Exists.intro (α := Nat → Nat → L2.St → Hp → Prop) ?_ ?_); (fail_if_success refine Exists.intro (α := L2.St → Hp → Prop) ?_ ?_); (fail_if_success refine Exists.intro (α := Nat → L2.St → Hp → Prop) ?_ ?_); apply Exists.intro) | ((refine And.intro ?_ ?_); first | with_reducible rfl | with_reducible assumption | rfl | ((with_reducible apply SqL.of); assumption) | ((with_reducible apply SqT.of); assumption) | ((with_reducible apply OwnC.cl); assumption) | (with_reducible exact isI_int _) | (with_reducible exact upd_same) | ((with_reducible apply Mid.o); assumption) | ((with_reducible apply Mid.t); assumption) | (with_reducible exact ⟨_, SqT.of (by assumption)⟩) | (with_reducible exact ⟨_, SqL.of (by assumption)⟩) | omega | exact Nat.le_of_ble_eq_true rfl | exact nat9 (by omega) | (show _ ≤ sizeLine; decide) | exact ⟨by decide, by decide, by decide⟩ | exact .inl ⟨by decide, by decide⟩ | exact .inl ⟨by omega, by omega⟩ | exact .inr ⟨by omega, by omega⟩ | assumption | fail) | ((with_reducible refine iteF' ?_ ?_); first | rfl | exact decide_eq_false (by omega) | (simp <;> fail) | fail) | ((with_reducible refine iteT' ?_ ?_); first | rfl | exact decide_eq_true (by omega) | (simp <;> fail) | fail))
      obtain ⟨b, eb, bb⟩ : ∃ b : Nat, (1 : Int) + (r : Int) = (b : Int) ∧ b = 1 + r := ⟨1 + r, by omega, rfl⟩
      obtain ⟨s', es, bs⟩ : ∃ s : Nat, (1 : Int) + (q : Int) = (s : Int) ∧ s = 1 + q := ⟨1 + q, by omega, rfl⟩
      rw [eb, es]
      have b6 : 1 ≤ b ∧ b ≤ 6 := by omega
      have s32 : 1 ≤ s' ∧ s' ≤ 32 := by omega
      clear eb es bb bs g_t0 S_t0 g_l S_l kb r0 r1 q0 q1
      intro l2 h_l2; have np_l2 := M.pD h_l2; have nb_l2 := M.bD h_l2; generalize hE : upd _ l2 _ = H6; obtain ⟨S_l2, g_l2⟩ := new_facts h_l2 hE; clear hE; replace M := M.same S_l2
      repeat (first | (with_reducible refine st_i0 rfl rfl rfl ?_) | ((with_reducible refine st_i rfl rfl ?_ rfl ?_); first | omega | exact ⟨by decide, by decide, by decide⟩ | exact .inl ⟨by decide, by decide⟩ | exact .inl ⟨by omega, by omega⟩ | exact .inr ⟨by omega, by omega⟩ | fail) | ((fail_if_success refine Exists.intro (α := Nat → Nat → L2.St → Hp → Prop) ?_ ?_); (fail_if_success refine Exists.intro (α := L2.St → Hp → Prop) ?_ ?_); (fail_if_success refine Exists.intro (α := Nat → L2.St → Hp → Prop) ?_ ?_); apply Exists.intro) | ((refine And.intro ?_ ?_); first | with_reducible rfl | with_reducible assumption | rfl | ((with_reducible apply SqL.of); assumption) | ((with_reducible apply SqT.of); assumption) | ((with_reducible apply OwnC.cl); assumption) | (with_reducible exact isI_int _) | (with_reducible exact upd_same) | ((with_reducible apply Mid.o); assumption) | ((with_reducible apply Mid.t); assumption) | (with_reducible exact ⟨_, SqT.of (by assumption)⟩) | (with_reducible exact ⟨_, SqL.of (by assumption)⟩) | omega | exact Nat.le_of_ble_eq_true rfl | exact nat9 (by omega) | (show _ ≤ sizeLine; decide) | exact ⟨by decide, by decide, by decide⟩ | exact .inl ⟨by decide, by decide⟩ | exact .inl ⟨by omega, by omega⟩ | exact .inr ⟨by omega, by omega⟩ | assumption | fail) | ((with_reducible refine iteF' ?_ ?_); first | rfl | exact decide_eq_false (by omega) | (simp <;> fail) | fail) | ((with_reducible refine iteT' ?_ ?_); first | rfl | exact decide_eq_true (by omega) | (simp <;> fail) | fail))
      intro j_x2 x2 H7 e_x2 O_x2 B_x2; replace M := M.draw O_x2 B_x2; clear O_x2 B_x2
      obtain ⟨k2, hk2, rfl⟩ := pick_int (ks := [2, 4, 9]) e_x2
      have kb : 1 ≤ k2 ∧ k2 ≤ 9 := by simp at hk2; omega
      clear hk2 e_x2 S_l2 g_l2
      have p8 : 2 ^ b ≤ 64 := Nat.le_trans (Nat.pow_le_pow_right (by decide) b6.2) (by decide)
      have pp := M07.two_pos b
      repeat (first | (with_reducible refine st_i0 rfl rfl rfl ?_) | ((with_reducible refine st_i rfl rfl ?_ rfl ?_); first | omega | exact ⟨by decide, by decide, by decide⟩ | exact .inl ⟨by decide, by decide⟩ | exact .inl ⟨by omega, by omega⟩ | exact .inr ⟨by omega, by omega⟩ | fail) | ((fail_if_success refine Exists.intro (α := Nat → Nat → L2.St → Hp → Prop) ?_ ?_); (fail_if_success refine Exists.intro (α := L2.St → Hp → Prop) ?_ ?_); (fail_if_success refine Exists.intro (α := Nat → L2.St → Hp → Prop) ?_ ?_); apply Exists.intro) | ((refine And.intro ?_ ?_); first | with_reducible rfl | with_reducible assumption | rfl | ((with_reducible apply SqL.of); assumption) | ((with_reducible apply SqT.of); assumption) | ((with_reducible apply OwnC.cl); assumption) | (with_reducible exact isI_int _) | (with_reducible exact upd_same) | ((with_reducible apply Mid.o); assumption) | ((with_reducible apply Mid.t); assumption) | (with_reducible exact ⟨_, SqT.of (by assumption)⟩) | (with_reducible exact ⟨_, SqL.of (by assumption)⟩) | omega | exact Nat.le_of_ble_eq_true rfl | exact nat9 (by omega) | (show _ ≤ sizeLine; decide) | exact ⟨by decide, by decide, by decide⟩ | exact .inl ⟨by decide, by decide⟩ | exact .inl ⟨by omega, by omega⟩ | exact .inr ⟨by omega, by omega⟩ | assumption | fail) | ((with_reducible refine iteF' ?_ ?_); first | rfl | exact decide_eq_false (by omega) | (simp <;> fail) | fail) | ((with_reducible refine iteT' ?_ ?_); first | rfl | exact decide_eq_true (by omega) | (simp <;> fail) | fail))
      intro D hD
      have np_D := M.pD hD
      have nb_D := M.bD hD
      rw [Int.toNat_natCast]
      refine lc_range (n := 2 ^ b) (fun i H' => Mid (TB3 Pa Pb Pc) p b0 (n + 4 + 2 * i) H' ∧ ∃ ms : List (Option Nat), ms.length = i ∧ (∀ t, some t ∈ ms → t < s') ∧ H' D = some (.lst (ms.map mv))) ⟨(M.same (same_new hD)).mono (by omega), [], rfl, fun t ht => (nomatch ht), upd_same⟩ ?_ ?_
      · rintro i H8 hi ⟨M, ms, len, small, g_D⟩
        refine ⟨rfl, ?_⟩
        repeat (first | (with_reducible refine st_i0 rfl rfl rfl ?_) | ((with_reducible refine st_i rfl rfl ?_ rfl ?_); first | omega | exact ⟨by decide, by decide, by decide⟩ | exact .inl ⟨by decide, by decide⟩ | exact .inl ⟨by omega, by omega⟩ | exact .inr ⟨by omega, by omega⟩ | fail) | ((fail_if_success refine Exists.intro (α := Nat → Nat → L2.St → Hp → Prop) ?_ ?_); (fail_if_success refine Exists.intro (α := L2.St → Hp → Prop) ?_ ?_); (fail_if_success refine Exists.intro (α := Nat → L2.St → Hp → Prop) ?_ ?_); apply Exists.intro) | ((refine And.intro ?_ ?_); first | with_reducible rfl | with_reducible assumption | rfl | ((with_reducible apply SqL.of); assumption) | ((with_reducible apply SqT.of); assumption) | ((with_reducible apply OwnC.cl); assumption) | (with_reducible exact isI_int _) | (with_reducible exact upd_same) | ((with_reducible apply Mid.o); assumption) | ((with_reducible apply Mid.t); assumption) | (with_reducible exact ⟨_, SqT.of (by assumption)⟩) | (with_reducible exact ⟨_, SqL.of (by assumption)⟩) | omega | exact Nat.le_of_ble_eq_true rfl | exact nat9 (by omega) | (show _ ≤ sizeLine; decide) | exact ⟨by decide, by decide, by decide⟩ | exact .inl ⟨by decide, by decide⟩ | exact .inl ⟨by omega, by omega⟩ | exact .inr ⟨by omega, by omega⟩ | assumption | fail) | ((with_reducible refine iteF' ?_ ?_); first | rfl | exact decide_eq_false (by omega) | (simp <;> fail) | fail) | ((with_reducible refine iteT' ?_ ?_); first | rfl | exact decide_eq_true (by omega) | (simp <;> fail) | fail))
        intro q H9 q0 q1 O_q B_q; replace M := M.draw O_q B_q; obtain ⟨q, rfl⟩ := Int.eq_ofNat_of_zero_le q0
        replace g_D := B_q _ _ g_D np_D
        repeat (first | (with_reducible refine st_i0 rfl rfl rfl ?_) | ((with_reducible refine st_i rfl rfl ?_ rfl ?_); first | omega | exact ⟨by decide, by decide, by decide⟩ | exact .inl ⟨by decide, by decide⟩ | exact .inl ⟨by omega, by omega⟩ | exact .inr ⟨by omega, by omega⟩ | fail) | ((fail_if_success refine Exists.intro (α := Nat → Nat → L2.St → Hp → Prop) ?_ ?_); (fail_if_success refine Exists.intro (α := L2.St → Hp → Prop) ?_ ?_); (fail_if_success refine Exists.intro (α := Nat → L2.St → Hp → Prop) ?_ ?_); apply Exists.intro) | ((refine And.intro ?_ ?_); first | with_reducible rfl | with_reducible assumption | rfl | ((with_reducible apply SqL.of); assumption) | ((with_reducible apply SqT.of); assumption) | ((with_reducible apply OwnC.cl); assumption) | (with_reducible exact isI_int _) | (with_reducible exact upd_same) | ((with_reducible apply Mid.o); assumption) | ((with_reducible apply Mid.t); assumption) | (with_reducible exact ⟨_, SqT.of (by assumption)⟩) | (with_reducible exact ⟨_, SqL.of (by assumption)⟩) | omega | exact Nat.le_of_ble_eq_true rfl | exact nat9 (by omega) | (show _ ≤ sizeLine; decide) | exact ⟨by decide, by decide, by decide⟩ | exact .inl ⟨by decide, by decide⟩ | exact .inl ⟨by omega, by omega⟩ | exact .inr ⟨by omega, by omega⟩ | assumption | fail) | ((with_reducible refine iteF' ?_ ?_); first | rfl | exact decide_eq_false (by omega) | (simp <;> fail) | fail) | ((with_reducible refine iteT' ?_ ?_); first | rfl | exact decide_eq_true (by omega) | (simp <;> fail) | fail))
        by_cases c : 0 < q
        · refine iteT' (decide_eq_true (by omega)) ?_
          repeat (first | (with_reducible refine st_i0 rfl rfl rfl ?_) | ((with_reducible refine st_i rfl rfl ?_ rfl ?_); first | omega | exact ⟨by decide, by decide, by decide⟩ | exact .inl ⟨by decide, by decide⟩ | exact .inl ⟨by omega, by omega⟩ | exact .inr ⟨by omega, by omega⟩ | fail) | ((fail_if_success refine Exists.intro (α := Nat → Nat → L2.St → Hp → Prop) ?_ ?_); (fail_if_success refine Exists.intro (α := L2.St → Hp → Prop) ?_ ?_); (fail_if_success refine Exists.intro (α := Nat → L2.St → Hp → Prop) ?_ ?_); apply Exists.intro) | ((refine And.intro ?_ ?_); first | with_reducible rfl | with_reducible assumption | rfl | ((with_reducible apply SqL.of); assumption) | ((with_reducible apply SqT.of); assumption) | ((with_reducible apply OwnC.cl); assumption) | (with_reducible exact isI_int _) | (with_reducible exact upd_same) | ((with_reducible apply Mid.o); assumption) | ((with_reducible apply Mid.t); assumption) | (with_reducible exact ⟨_, SqT.of (by assumption)⟩) | (with_reducible exact ⟨_, SqL.of (by assumption)⟩) | omega | exact Nat.le_of_ble_eq_true rfl | exact nat9 (by omega) | (show _ ≤ sizeLine; decide) | exact ⟨by decide, by decide, by decide⟩ | exact .inl ⟨by decide, by decide⟩ | exact .inl ⟨by omega, by omega⟩ | exact .inr ⟨by omega, by omega⟩ | assumption | fail) | ((with_reducible refine iteF' ?_ ?_); first | rfl | exact decide_eq_false (by omega) | (simp <;> fail) | fail) | ((with_reducible refine iteT' ?_ ?_); first | rfl | exact decide_eq_true (by omega) | (simp <;> fail) | fail))
          intro z H10 z0 z1 O_z B_z; replace M := M.draw O_z B_z; obtain ⟨z, rfl⟩ := Int.eq_ofNat_of_zero_le z0
          replace g_D := B_z _ _ g_D np_D
          refine ⟨_, g_D, by rw [List.length_map, sizeLine_eq]; omega, (M.put g_D np_D nb_D).mono (by omega), ms ++ [some z], by rw [List.length_append, len]; rfl, fun t ht => ?_, by rw [upd_same, List.map_append]; rfl⟩
          rcases List.mem_append.mp ht with h | h
          · exact small t h
          · have := Option.some.inj (List.mem_singleton.mp h)
            omega
        · refine iteF' (decide_eq_false (by omega)) ?_
          refine ⟨_, g_D, by rw [List.length_map, sizeLine_eq]; omega, (M.put g_D np_D nb_D).mono (by omega), ms ++ [none], by rw [List.length_append, len]; rfl, fun t ht => ?_, by rw [upd_same, List.map_append]; rfl⟩
          rcases List.mem_append.mp ht with h | h
          · exact small t h
          · exact nomatch (List.mem_singleton.mp h)
      · rintro H8 ⟨M, ms, len, small, g_D⟩
        have lok : LayOk b ms := ⟨by omega, by omega, len, fun t ht => by have := small t ht; omega⟩
        clear hD
        repeat (first | (with_reducible refine st_i0 rfl rfl rfl ?_) | ((with_reducible refine st_i rfl rfl ?_ rfl ?_); first | omega | exact ⟨by decide, by decide, by decide⟩ | exact .inl ⟨by decide, by decide⟩ | exact .inl ⟨by omega, by omega⟩ | exact .inr ⟨by omega, by omega⟩ | fail) | ((fail_if_success refine Exists.intro (α := Nat → Nat → L2.St → Hp → Prop) ?_ ?_); (fail_if_success refine Exists.intro (α := L2.St → Hp → Prop) ?_ ?_); (fail_if_success refine Exists.intro (α := Nat → L2.St → Hp → Prop) ?_ ?_); apply Exists.intro) | ((refine And.intro ?_ ?_); first | with_reducible rfl | with_reducible assumption | rfl | ((with_reducible apply SqL.of); assumption) | ((with_reducible apply SqT.of); assumption) | ((with_reducible apply OwnC.cl); assumption) | (with_reducible exact isI_int _) | (with_reducible exact upd_same) | ((with_reducible apply Mid.o); assumption) | ((with_reducible apply Mid.t); assumption) | (with_reducible exact ⟨_, SqT.of (by assumption)⟩) | (with_reducible exact ⟨_, SqL.of (by assumption)⟩) | omega | exact Nat.le_of_ble_eq_true rfl | exact nat9 (by omega) | (show _ ≤ sizeLine; decide) | exact ⟨by decide, by decide, by decide⟩ | exact .inl ⟨by decide, by decide⟩ | exact .inl ⟨by omega, by omega⟩ | exact .inr ⟨by omega, by omega⟩ | assumption | fail) | ((with_reducible refine iteF' ?_ ?_); first | rfl | exact decide_eq_false (by omega) | (simp <;> fail) | fail) | ((with_reducible refine iteT' ?_ ?_); first | rfl | exact decide_eq_true (by omega) | (simp <;> fail) | fail))
        intro x dx nx ndx nex
        refine make_lay lok (.inl g_D) nx ndx fun H9 S9 hl => ?_
        replace M := M.same S9
        replace g_D := S9 _ _ g_D
        repeat (first | (with_reducible refine st_i0 rfl rfl rfl ?_) | ((with_reducible refine st_i rfl rfl ?_ rfl ?_); first | omega | exact ⟨by decide, by decide, by decide⟩ | exact .inl ⟨by decide, by decide⟩ | exact .inl ⟨by omega, by omega⟩ | exact .inr ⟨by omega, by omega⟩ | fail) | ((fail_if_success refine Exists.intro (α := Nat → Nat → L2.St → Hp → Prop) ?_ ?_); (fail_if_success refine Exists.intro (α := L2.St → Hp → Prop) ?_ ?_); (fail_if_success refine Exists.intro (α := Nat → L2.St → Hp → Prop) ?_ ?_); apply Exists.intro) | ((refine And.intro ?_ ?_); first | with_reducible rfl | with_reducible assumption | rfl | ((with_reducible apply SqL.of); assumption) | ((with_reducible apply SqT.of); assumption) | ((with_reducible apply OwnC.cl); assumption) | (with_reducible exact isI_int _) | (with_reducible exact upd_same) | ((with_reducible apply Mid.o); assumption) | ((with_reducible apply Mid.t); assumption) | (with_reducible exact ⟨_, SqT.of (by assumption)⟩) | (with_reducible exact ⟨_, SqL.of (by assumption)⟩) | omega | exact Nat.le_of_ble_eq_true rfl | exact nat9 (by omega) | (show _ ≤ sizeLine; decide) | exact ⟨by decide, by decide, by decide⟩ | exact .inl ⟨by decide, by decide⟩ | exact .inl ⟨by omega, by omega⟩ | exact .inr ⟨by omega, by omega⟩ | assumption | fail) | ((with_reducible refine iteF' ?_ ?_); first | rfl | exact decide_eq_false (by omega) | (simp <;> fail) | fail) | ((with_reducible refine iteT' ?_ ?_); first | rfl | exact decide_eq_true (by omega) | (simp <;> fail) | fail))
        intro z H10 z0 z1 O_z B_z; obtain ⟨_, _, _, hpX, _⟩ := id M.o; replace hl := hl.but B_z hpX; replace g_D := B_z _ _ g_D np_D; replace M := M.draw O_z B_z; obtain ⟨z, rfl⟩ := Int.eq_ofNat_of_zero_le z0; clear O_z B_z
        repeat (first | (with_reducible refine st_i0 rfl rfl rfl ?_) | ((with_reducible refine st_i rfl rfl ?_ rfl ?_); first | omega | exact ⟨by decide, by decide, by decide⟩ | exact .inl ⟨by decide, by decide⟩ | exact .inl ⟨by omega, by omega⟩ | exact .inr ⟨by omega, by omega⟩ | fail) | ((fail_if_success refine Exists.intro (α := Nat → Nat → L2.St → Hp → Prop) ?_ ?_); (fail_if_success refine Exists.intro (α := L2.St → Hp → Prop) ?_ ?_); (fail_if_success refine Exists.intro (α := Nat → L2.St → Hp → Prop) ?_ ?_); apply Exists.intro) | ((refine And.intro ?_ ?_); first | with_reducible rfl | with_reducible assumption | rfl | ((with_reducible apply SqL.of); assumption) | ((with_reducible apply SqT.of); assumption) | ((with_reducible apply OwnC.cl); assumption) | (with_reducible exact isI_int _) | (with_reducible exact upd_same) | ((with_reducible apply Mid.o); assumption) | ((with_reducible apply Mid.t); assumption) | (with_reducible exact ⟨_, SqT.of (by assumption)⟩) | (with_reducible exact ⟨_, SqL.of (by assumption)⟩) | omega | exact Nat.le_of_ble_eq_true rfl | exact nat9 (by omega) | (show _ ≤ sizeLine; decide) | exact ⟨by decide, by decide, by decide⟩ | exact .inl ⟨by decide, by decide⟩ | exact .inl ⟨by omega, by omega⟩ | exact .inr ⟨by omega, by omega⟩ | assumption | fail) | ((with_reducible refine iteF' ?_ ?_); first | rfl | exact decide_eq_false (by omega) | (simp <;> fail) | fail) | ((with_reducible refine iteT' ?_ ?_); first | rfl | exact decide_eq_true (by omega) | (simp <;> fail) | fail))
        intro t1 h_t1; have np_t1 := M.pD h_t1; have nb_t1 := M.bD h_t1; generalize hE : upd _ t1 _ = H11; obtain ⟨S_t1, g_t1⟩ := new_facts h_t1 hE; clear hE; replace M := M.same S_t1; replace hl := hl.same S_t1; replace g_D := S_t1 _ _ g_D
        repeat (first | (with_reducible refine st_i0 rfl rfl rfl ?_) | ((with_reducible refine st_i rfl rfl ?_ rfl ?_); first | omega | exact ⟨by decide, by decide, by decide⟩ | exact .inl ⟨by decide, by decide⟩ | exact .inl ⟨by omega, by omega⟩ | exact .inr ⟨by omega, by omega⟩ | fail) | ((fail_if_success refine Exists.intro (α := Nat → Nat → L2.St → Hp → Prop) ?_ ?_); (fail_if_success refine Exists.intro (α := L2.St → Hp → Prop) ?_ ?_); (fail_if_success refine Exists.intro (α := Nat → L2.St → Hp → Prop) ?_ ?_); apply Exists.intro) | ((refine And.intro ?_ ?_); first | with_reducible rfl | with_reducible assumption | rfl | ((with_reducible apply SqL.of); assumption) | ((with_reducible apply SqT.of); assumption) | ((with_reducible apply OwnC.cl); assumption) | (with_reducible exact isI_int _) | (with_reducible exact upd_same) | ((with_reducible apply Mid.o); assumption) | ((with_reducible apply Mid.t); assumption) | (with_reducible exact ⟨_, SqT.of (by assumption)⟩) | (with_reducible exact ⟨_, SqL.of (by assumption)⟩) | omega | exact Nat.le_of_ble_eq_true rfl | exact nat9 (by omega) | (show _ ≤ sizeLine; decide) | exact ⟨by decide, by decide, by decide⟩ | exact .inl ⟨by decide, by decide⟩ | exact .inl ⟨by omega, by omega⟩ | exact .inr ⟨by omega, by omega⟩ | assumption | fail) | ((with_reducible refine iteF' ?_ ?_); first | rfl | exact decide_eq_false (by omega) | (simp <;> fail) | fail) | ((with_reducible refine iteT' ?_ ?_); first | rfl | exact decide_eq_true (by omega) | (simp <;> fail) | fail))
        obtain ⟨mo, emo, mo1, mo2⟩ : ∃ mo : Nat, (if (s' : Int) + (z : Int) < 32 then (s' : Int) + (z : Int) else 32) = (mo : Int) ∧ s' ≤ mo ∧ mo ≤ 32 := by
          refine ⟨if s' + z < 32 then s' + z else 32, ?_, ?_, ?_⟩ <;> split <;> (try split) <;> omega
        rw [emo]
        replace M := M.mono (k := n + 150) (by omega)
        clear emo g_t1 S_t1 h_t1 np_t1 nb_t1 S9 nx ndx nex z0 z1
        have e2 : V.int ((b : Int) + 2) = V.int ((b + 2 : Nat) : Int) := congrArg V.int (by omega)
        intro l3 h_l3; have np_l3 := M.pD h_l3; have nb_l3 := M.bD h_l3; generalize hE : upd _ l3 _ = H12; obtain ⟨S_l3, g_l3⟩ := new_facts h_l3 hE; clear hE; replace M := M.same S_l3; replace hl := hl.same S_l3; replace g_D := S_l3 _ _ g_D
        repeat (first | (with_reducible refine st_i0 rfl rfl rfl ?_) | ((with_reducible refine st_i rfl rfl ?_ rfl ?_); first | omega | exact ⟨by decide, by decide, by decide⟩ | exact .inl ⟨by decide, by decide⟩ | exact .inl ⟨by omega, by omega⟩ | exact .inr ⟨by omega, by omega⟩ | fail) | ((fail_if_success refine Exists.intro (α := Nat → Nat → L2.St → Hp → Prop) ?_ ?_); (fail_if_success refine Exists.intro (α := L2.St → Hp → Prop) ?_ ?_); (fail_if_success refine Exists.intro (α := Nat → L2.St → Hp → Prop) ?_ ?_); apply Exists.intro) | ((refine And.intro ?_ ?_); first | with_reducible rfl | with_reducible assumption | rfl | ((with_reducible apply SqL.of); assumption) | ((with_reducible apply SqT.of); assumption) | ((with_reducible apply OwnC.cl); assumption) | (with_reducible exact isI_int _) | (with_reducible exact upd_same) | ((with_reducible apply Mid.o); assumption) | ((with_reducible apply Mid.t); assumption) | (with_reducible exact ⟨_, SqT.of (by assumption)⟩) | (with_reducible exact ⟨_, SqL.of (by assumption)⟩) | omega | exact Nat.le_of_ble_eq_true rfl | exact nat9 (by omega) | (show _ ≤ sizeLine; decide) | exact ⟨by decide, by decide, by decide⟩ | exact .inl ⟨by decide, by decide⟩ | exact .inl ⟨by omega, by omega⟩ | exact .inr ⟨by omega, by omega⟩ | assumption | fail) | ((with_reducible refine iteF' ?_ ?_); first | rfl | exact decide_eq_false (by omega) | (simp <;> fail) | fail) | ((with_reducible refine iteT' ?_ ?_); first | rfl | exact decide_eq_true (by omega) | (simp <;> fail) | fail))
        have pq : 2 ^ (b + 2) = 4 * 2 ^ b := by rw [Nat.pow_add, Nat.mul_comm]
        refine ⟨by omega, by omega, (by rw [Int.toNat_natCast]; show 1 * _ ≤ sizeLine; rw [sizeLine_eq]; omega), ?_⟩
        have g_D12 := g_D
        intro due h_due; have np_due := M.pD h_due; have nb_due := M.bD h_due; generalize hE : upd _ due _ = H13; obtain ⟨S_due, g_due⟩ := new_facts h_due hE; clear hE; replace M := M.same S_due; replace hl := hl.same S_due; replace g_D := S_due _ _ g_D
        have nDd : D ≠ due := ne_of_none g_D12 h_due
        clear g_D12
        rw [Int.toNat_natCast, show (List.replicate (2 ^ (b + 2)) [V.non]).flatten = List.replicate (4 * ms.length) V.non by rw [List.flatten_replicate_singleton, pq, len]] at g_due
        obtain ⟨q1, q2, q3, q4⟩ := datT_ok lok
        obtain ⟨dx2, fs2, tb, e1, e2', e3, g_tb⟩ := id hl
        repeat (first | (refine ⟨_, datT ms, rfl, Dp.tup (SqT.of (by assumption)) (dp_means _), q1, q2, q3, q4, ?_⟩) | (with_reducible refine st_i0 rfl rfl rfl ?_) | ((with_reducible refine st_i rfl rfl ?_ rfl ?_); first | omega | exact ⟨by decide, by decide, by decide⟩ | exact .inl ⟨by decide, by decide⟩ | exact .inl ⟨by omega, by omega⟩ | exact .inr ⟨by omega, by omega⟩ | fail) | ((fail_if_success refine Exists.intro (α := Nat → Nat → L2.St → Hp → Prop) ?_ ?_); (fail_if_success refine Exists.intro (α := L2.St → Hp → Prop) ?_ ?_); (fail_if_success refine Exists.intro (α := Nat → L2.St → Hp → Prop) ?_ ?_); apply Exists.intro) | ((refine And.intro ?_ ?_); first | with_reducible rfl | with_reducible assumption | rfl | ((with_reducible apply SqL.of); assumption) | ((with_reducible apply SqT.of); assumption) | ((with_reducible apply OwnC.cl); assumption) | (with_reducible exact isI_int _) | (with_reducible exact upd_same) | ((with_reducible apply Mid.o); assumption) | ((with_reducible apply Mid.t); assumption) | (with_reducible exact ⟨_, SqT.of (by assumption)⟩) | (with_reducible exact ⟨_, SqL.of (by assumption)⟩) | omega | exact Nat.le_of_ble_eq_true rfl | exact nat9 (by omega) | (show _ ≤ sizeLine; decide) | exact ⟨by decide, by decide, by decide⟩ | exact .inl ⟨by decide, by decide⟩ | exact .inl ⟨by omega, by omega⟩ | exact .inr ⟨by omega, by omega⟩ | assumption | fail) | ((with_reducible refine iteF' ?_ ?_); first | rfl | exact decide_eq_false (by omega) | (simp <;> fail) | fail) | ((with_reducible refine iteT' ?_ ?_); first | rfl | exact decide_eq_true (by omega) | (simp <;> fail) | fail))
        have R : R33 (TB3 Pa Pb Pc) p b0 (n + 150) L x D due b ms (List.replicate (4 * ms.length) V.non) H13 := ⟨M, hl, g_D, g_due, nDd, np_due, nb_due⟩
        generalize esh : (datT ms).shown = sh
        clear M hl g_D g_due S_due h_due g_l3 S_l3 h_l3 e1 e3 g_tb tb fs2 dx2 e2 e2'
        refine for_it (walk_enum (K := K) (a := D) (xs := ms.map mv)) (fun i σ H' => ∃ Ld, R33 (TB3 Pa Pb Pc) p b0 (n + 150) L x D due b ms Ld H' ∧ DueInv mo ms i 0 0 Ld ∧ ∃ u5 u10 u11 u12 u13 u14 u15 : Option V, σ = st33 p D x due b s' mo k2 sh u5 u10 u11 u12 u13 u14 u15) ⟨_, R, .begin, _, _, _, _, _, _, _, rfl⟩ (fun i σ H' _ z => by obtain ⟨_, r, _⟩ := z; exact SqL.of r.gD) ?_ ?_
        ·
          -- <cut>
          rintro i y σ H14 H15 hi ⟨Ld, R, DI, u5, u10, u11, u12, u13, u14, u15, rfl⟩ ⟨T0, v1, v2, rfl, hT, eH, e1, e2⟩
          obtain ⟨S_T, g_T⟩ := new_facts hT eH.symm
          cases e1
          rw [List.length_map] at hi
          obtain ⟨m, hm, rfl⟩ : ∃ m, ms[i]? = some m ∧ v2 = mv m := ⟨_, List.getElem?_eq_getElem hi, by
            have e2 : (ms.map mv)[i]? = some v2 := e2
            rw [List.getElem?_map, List.getElem?_eq_getElem hi] at e2
            exact (Option.some.inj e2).symm⟩
          replace R := R.same S_T
          clear eH hT S_T e2
          repeat (first | (with_reducible refine st_i0 rfl rfl rfl ?_) | ((with_reducible refine st_i rfl rfl ?_ rfl ?_); first | omega | exact ⟨by decide, by decide, by decide⟩ | exact .inl ⟨by decide, by decide⟩ | exact .inl ⟨by omega, by omega⟩ | exact .inr ⟨by omega, by omega⟩ | fail) | ((fail_if_success refine Exists.intro (α := Nat → Nat → L2.St → Hp → Prop) ?_ ?_); (fail_if_success refine Exists.intro (α := L2.St → Hp → Prop) ?_ ?_); (fail_if_success refine Exists.intro (α := Nat → L2.St → Hp → Prop) ?_ ?_); apply Exists.intro) | ((refine And.intro ?_ ?_); first | with_reducible rfl | with_reducible assumption | rfl | ((with_reducible apply SqL.of); assumption) | ((with_reducible apply SqT.of); assumption) | ((with_reducible apply OwnC.cl); assumption) | (with_reducible exact isI_int _) | (with_reducible exact upd_same) | ((with_reducible apply Mid.o); assumption) | ((with_reducible apply Mid.t); assumption) | (with_reducible exact ⟨_, SqT.of (by assumption)⟩) | (with_reducible exact ⟨_, SqL.of (by assumption)⟩) | omega | exact Nat.le_of_ble_eq_true rfl | exact nat9 (by omega) | (show _ ≤ sizeLine; decide) | exact ⟨by decide, by decide, by decide⟩ | exact .inl ⟨by decide, by decide⟩ | exact .inl ⟨by omega, by omega⟩ | exact .inr ⟨by omega, by omega⟩ | assumption | fail) | ((with_reducible refine iteF' ?_ ?_); first | rfl | exact decide_eq_false (by omega) | (simp <;> fail) | fail) | ((with_reducible refine iteT' ?_ ?_); first | rfl | exact decide_eq_true (by omega) | (simp <;> fail) | fail))
          intro D2 hD2
          rw [Int.toNat_natCast]
          refine lc_range (n := b) (fun j H' => Same H15 H' ∧ H' D2 = some (.lst (nV (bitL i j)))) ⟨same_new hD2, upd_same⟩ ?_ ?_
          · rintro j H16 hj ⟨S1, g1⟩
            refine ⟨rfl, _, rfl, _, rfl, _, j, rfl, congrArg V.int (Int.zero_add _), _, _, rfl, rfl, _, g1, ?_, fun a o e => ?_, ?_⟩
            · rw [nV_len, bitL_len, sizeLine_eq]
              omega
            · rw [upd_ne (ne_of_none e hD2)]
              exact S1 a o e
            · rw [upd_same]
              show some (HO.lst (nV (bitL i j) ++ [V.int (Builtin.bitAnd ((i : Int) / 2 ^ j) 1)])) = _
              rw [bit_is]
              unfold bitL nV
              rw [List.range_succ, List.map_append, List.map_append]
              rfl
          rintro H16 ⟨S1, g1⟩
          replace R := R.same S1
          clear hD2 g_T
          refine ⟨D2, (bitL i b).map fun n : Nat => (n : Int), rfl, SqL.of (by rw [g1]; unfold nV; rw [List.map_map]; rfl), ?_⟩
          rw [sum_cast]
          have po : (bitL i b).sum % 2 = (MC.par (MC.wd i) 8).toNat := by
            rw [par8 (show i < 2 ^ b by omega) (by omega)]
            exact ones_par (MC.wd i) b
          generalize (bitL i b).sum = on at po ⊢
          clear g1 S1 D2
          repeat (first | (with_reducible refine st_i0 rfl rfl rfl ?_) | ((with_reducible refine st_i rfl rfl ?_ rfl ?_); first | omega | exact ⟨by decide, by decide, by decide⟩ | exact .inl ⟨by decide, by decide⟩ | exact .inl ⟨by omega, by omega⟩ | exact .inr ⟨by omega, by omega⟩ | fail) | ((fail_if_success refine Exists.intro (α := Nat → Nat → L2.St → Hp → Prop) ?_ ?_); (fail_if_success refine Exists.intro (α := L2.St → Hp → Prop) ?_ ?_); (fail_if_success refine Exists.intro (α := Nat → L2.St → Hp → Prop) ?_ ?_); apply Exists.intro) | ((refine And.intro ?_ ?_); first | with_reducible rfl | with_reducible assumption | rfl | ((with_reducible apply SqL.of); assumption) | ((with_reducible apply SqT.of); assumption) | ((with_reducible apply OwnC.cl); assumption) | (with_reducible exact isI_int _) | (with_reducible exact upd_same) | ((with_reducible apply Mid.o); assumption) | ((with_reducible apply Mid.t); assumption) | (with_reducible exact ⟨_, SqT.of (by assumption)⟩) | (with_reducible exact ⟨_, SqL.of (by assumption)⟩) | omega | exact Nat.le_of_ble_eq_true rfl | exact nat9 (by omega) | (show _ ≤ sizeLine; decide) | exact ⟨by decide, by decide, by decide⟩ | exact .inl ⟨by decide, by decide⟩ | exact .inl ⟨by omega, by omega⟩ | exact .inr ⟨by omega, by omega⟩ | assumption | fail) | ((with_reducible refine iteF' ?_ ?_); first | rfl | exact decide_eq_false (by omega) | (simp <;> fail) | fail) | ((with_reducible refine iteT' ?_ ?_); first | rfl | exact decide_eq_true (by omega) | (simp <;> fail) | fail))
          intro ta h_ta
          generalize hE : upd _ ta _ = H17
          obtain ⟨S_ta, g_ta⟩ := new_facts h_ta hE
          replace R := R.same S_ta
          clear hE S_ta h_ta
          repeat (first | (with_reducible refine st_i0 rfl rfl rfl ?_) | ((with_reducible refine st_i rfl rfl ?_ rfl ?_); first | omega | exact ⟨by decide, by decide, by decide⟩ | exact .inl ⟨by decide, by decide⟩ | exact .inl ⟨by omega, by omega⟩ | exact .inr ⟨by omega, by omega⟩ | fail) | ((fail_if_success refine Exists.intro (α := Nat → Nat → L2.St → Hp → Prop) ?_ ?_); (fail_if_success refine Exists.intro (α := L2.St → Hp → Prop) ?_ ?_); (fail_if_success refine Exists.intro (α := Nat → L2.St → Hp → Prop) ?_ ?_); apply Exists.intro) | ((refine And.intro ?_ ?_); first | with_reducible rfl | with_reducible assumption | rfl | ((with_reducible apply SqL.of); assumption) | ((with_reducible apply SqT.of); assumption) | ((with_reducible apply OwnC.cl); assumption) | (with_reducible exact isI_int _) | (with_reducible exact upd_same) | ((with_reducible apply Mid.o); assumption) | ((with_reducible apply Mid.t); assumption) | (with_reducible exact ⟨_, SqT.of (by assumption)⟩) | (with_reducible exact ⟨_, SqL.of (by assumption)⟩) | omega | exact Nat.le_of_ble_eq_true rfl | exact nat9 (by omega) | (show _ ≤ sizeLine; decide) | exact ⟨by decide, by decide, by decide⟩ | exact .inl ⟨by decide, by decide⟩ | exact .inl ⟨by omega, by omega⟩ | exact .inr ⟨by omega, by omega⟩ | assumption | fail) | ((with_reducible refine iteF' ?_ ?_); first | rfl | exact decide_eq_false (by omega) | (simp <;> fail) | fail) | ((with_reducible refine iteT' ?_ ?_); first | rfl | exact decide_eq_true (by omega) | (simp <;> fail) | fail))
          refine for_tup (xs := [V.int 0, .int 1]) (fun j σ H' => H' ta = some (.tup [V.int 0, .int 1]) ∧ ∃ Ld, R33 (TB3 Pa Pb Pc) p b0 (n + 150) L x D due b ms Ld H' ∧ DueInv mo ms i j 0 Ld ∧ ∃ u13 u14 u15 : Option V, σ = st33 p D x due b s' mo k2 sh (some (.int (i : Int))) (some (mv m)) (some (.int (on : Int))) u12 u13 u14 u15) ⟨g_ta, Ld, R, DI, _, _, _, rfl⟩ (fun j σ H' _ z => SqT.of z.1) ?_ ?_
          · clear g_ta R DI
            rintro j yv σ H18 hy ⟨g_ta, Ld, R, DI, u13, u14, u15, rfl⟩
            obtain ⟨hj, rfl⟩ : j < 2 ∧ yv = V.int (j : Int) := by
              match j, hy with
              | 0, z => cases z; exact ⟨by decide, rfl⟩
              | 1, z => cases z; exact ⟨by decide, rfl⟩
              | j + 2, z => cases z
            repeat (first | (with_reducible refine st_i0 rfl rfl rfl ?_) | ((with_reducible refine st_i rfl rfl ?_ rfl ?_); first | omega | exact ⟨by decide, by decide, by decide⟩ | exact .inl ⟨by decide, by decide⟩ | exact .inl ⟨by omega, by omega⟩ | exact .inr ⟨by omega, by omega⟩ | fail) | ((fail_if_success refine Exists.intro (α := Nat → Nat → L2.St → Hp → Prop) ?_ ?_); (fail_if_success refine Exists.intro (α := L2.St → Hp → Prop) ?_ ?_); (fail_if_success refine Exists.intro (α := Nat → L2.St → Hp → Prop) ?_ ?_); apply Exists.intro) | ((refine And.intro ?_ ?_); first | with_reducible rfl | with_reducible assumption | rfl | ((with_reducible apply SqL.of); assumption) | ((with_reducible apply SqT.of); assumption) | ((with_reducible apply OwnC.cl); assumption) | (with_reducible exact isI_int _) | (with_reducible exact upd_same) | ((with_reducible apply Mid.o); assumption) | ((with_reducible apply Mid.t); assumption) | (with_reducible exact ⟨_, SqT.of (by assumption)⟩) | (with_reducible exact ⟨_, SqL.of (by assumption)⟩) | omega | exact Nat.le_of_ble_eq_true rfl | exact nat9 (by omega) | (show _ ≤ sizeLine; decide) | exact ⟨by decide, by decide, by decide⟩ | exact .inl ⟨by decide, by decide⟩ | exact .inl ⟨by omega, by omega⟩ | exact .inr ⟨by omega, by omega⟩ | assumption | fail) | ((with_reducible refine iteF' ?_ ?_); first | rfl | exact decide_eq_false (by omega) | (simp <;> fail) | fail) | ((with_reducible refine iteT' ?_ ?_); first | rfl | exact decide_eq_true (by omega) | (simp <;> fail) | fail))
            intro tb h_tb
            generalize hE : upd _ tb _ = H19
            obtain ⟨S_tb, g_tb⟩ := new_facts h_tb hE
            replace R := R.same S_tb
            replace g_ta := S_tb _ _ g_ta
            clear hE S_tb h_tb hy
            repeat (first | (with_reducible refine st_i0 rfl rfl rfl ?_) | ((with_reducible refine st_i rfl rfl ?_ rfl ?_); first | omega | exact ⟨by decide, by decide, by decide⟩ | exact .inl ⟨by decide, by decide⟩ | exact .inl ⟨by omega, by omega⟩ | exact .inr ⟨by omega, by omega⟩ | fail) | ((fail_if_success refine Exists.intro (α := Nat → Nat → L2.St → Hp → Prop) ?_ ?_); (fail_if_success refine Exists.intro (α := L2.St → Hp → Prop) ?_ ?_); (fail_if_success refine Exists.intro (α := Nat → L2.St → Hp → Prop) ?_ ?_); apply Exists.intro) | ((refine And.intro ?_ ?_); first | with_reducible rfl | with_reducible assumption | rfl | ((with_reducible apply SqL.of); assumption) | ((with_reducible apply SqT.of); assumption) | ((with_reducible apply OwnC.cl); assumption) | (with_reducible exact isI_int _) | (with_reducible exact upd_same) | ((with_reducible apply Mid.o); assumption) | ((with_reducible apply Mid.t); assumption) | (with_reducible exact ⟨_, SqT.of (by assumption)⟩) | (with_reducible exact ⟨_, SqL.of (by assumption)⟩) | omega | exact Nat.le_of_ble_eq_true rfl | exact nat9 (by omega) | (show _ ≤ sizeLine; decide) | exact ⟨by decide, by decide, by decide⟩ | exact .inl ⟨by decide, by decide⟩ | exact .inl ⟨by omega, by omega⟩ | exact .inr ⟨by omega, by omega⟩ | assumption | fail) | ((with_reducible refine iteF' ?_ ?_); first | rfl | exact decide_eq_false (by omega) | (simp <;> fail) | fail) | ((with_reducible refine iteT' ?_ ?_); first | rfl | exact decide_eq_true (by omega) | (simp <;> fail) | fail))
            refine for_tup (xs := [V.int 0, .int 1]) (fun u σ H' => H' ta = some (.tup [V.int 0, .int 1]) ∧ H' tb = some (.tup [V.int 0, .int 1]) ∧ ∃ Ld, R33 (TB3 Pa Pb Pc) p b0 (n + 150) L x D due b ms Ld H' ∧ DueInv mo ms i j u Ld ∧ ∃ u14 u15 : Option V, σ = st33 p D x due b s' mo k2 sh (some (.int (i : Int))) (some (mv m)) (some (.int (on : Int))) u12 (some (.int (j : Int))) u14 u15) ⟨g_ta, g_tb, Ld, R, DI, _, _, rfl⟩ (fun j σ H' _ z => SqT.of z.2.1) ?_ ?_
            · clear g_ta g_tb R DI
              rintro u yv σ H20 hy ⟨g_ta, g_tb, Ld, R, DI, u14, u15, rfl⟩
              obtain ⟨hu, rfl⟩ : u < 2 ∧ yv = V.int (u : Int) := by
                match u, hy with
                | 0, z => cases z; exact ⟨by decide, rfl⟩
                | 1, z => cases z; exact ⟨by decide, rfl⟩
                | u + 2, z => cases z
              have g_due := R.gd
              have e1 : V.int ((b : Int) + 1) = V.int ((b + 1 : Nat) : Int) := congrArg V.int (by omega)
              have pb1 : 2 ^ (b + 1) = 2 * 2 ^ b := by rw [Nat.pow_succ, Nat.mul_comm]
              repeat (first | (refine Or.inl ⟨_, rfl, ?_⟩) | (with_reducible refine st_i0 rfl rfl rfl ?_) | ((with_reducible refine st_i rfl rfl ?_ rfl ?_); first | omega | exact ⟨by decide, by decide, by decide⟩ | exact .inl ⟨by decide, by decide⟩ | exact .inl ⟨by omega, by omega⟩ | exact .inr ⟨by omega, by omega⟩ | fail) | ((fail_if_success refine Exists.intro (α := Nat → Nat → L2.St → Hp → Prop) ?_ ?_); (fail_if_success refine Exists.intro (α := L2.St → Hp → Prop) ?_ ?_); (fail_if_success refine Exists.intro (α := Nat → L2.St → Hp → Prop) ?_ ?_); apply Exists.intro) | ((refine And.intro ?_ ?_); first | with_reducible rfl | with_reducible assumption | rfl | ((with_reducible apply SqL.of); assumption) | ((with_reducible apply SqT.of); assumption) | ((with_reducible apply OwnC.cl); assumption) | (with_reducible exact isI_int _) | (with_reducible exact upd_same) | ((with_reducible apply Mid.o); assumption) | ((with_reducible apply Mid.t); assumption) | (with_reducible exact ⟨_, SqT.of (by assumption)⟩) | (with_reducible exact ⟨_, SqL.of (by assumption)⟩) | omega | exact Nat.le_of_ble_eq_true rfl | exact nat9 (by omega) | (show _ ≤ sizeLine; decide) | exact ⟨by decide, by decide, by decide⟩ | exact .inl ⟨by decide, by decide⟩ | exact .inl ⟨by omega, by omega⟩ | exact .inr ⟨by omega, by omega⟩ | assumption | fail) | ((with_reducible refine iteF' ?_ ?_); first | rfl | exact decide_eq_false (by omega) | (simp <;> fail) | fail) | ((with_reducible refine iteT' ?_ ?_); first | rfl | exact decide_eq_true (by omega) | (simp <;> fail) | fail))
              have ix : ixN Ld.length ((i : Int) + (j : Int) * ((2 ^ b : Nat) : Int) + (u : Int) * ((2 ^ (b + 1) : Nat) : Int)) = some ((j + 2 * u) * ms.length + i) := by
                have lt : (j + 2 * u) * ms.length + i < Ld.length := by
                  rw [DI.len]
                  have : (j + 2 * u) * ms.length ≤ 3 * ms.length := Nat.mul_le_mul_right _ (by omega)
                  omega
                rw [← ixN_of lt, pb1, ← len]
                refine congrArg _ ?_
                rcases (show j = 0 ∨ j = 1 by omega) with rfl | rfl <;> rcases (show u = 0 ∨ u = 1 by omega) with rfl | rfl <;> simp <;> omega
              have ab := congrArg mv (abo_is (s := mo) hm hj hu)
              have nta := ne_of g_ta R.gd (by intro z; cases z)
              have ntb := ne_of g_tb R.gd (by intro z; cases z)
              have fin : ∀ v : V, mv (aboM mo ms (j + 2 * u) i) = v → ∀ x14 : Option V, upd H20 due (.lst (Ld.set ((j + 2 * u) * ms.length + i) v)) ta = some (.tup [V.int 0, .int 1]) ∧ upd H20 due (.lst (Ld.set ((j + 2 * u) * ms.length + i) v)) tb = some (.tup [V.int 0, .int 1]) ∧ ∃ Le, R33 (TB3 Pa Pb Pc) p b0 (n + 150) L x D due b ms Le (upd H20 due (.lst (Ld.set ((j + 2 * u) * ms.length + i) v))) ∧ DueInv mo ms i j (u + 1) Le ∧ ∃ y14 y15 : Option V, st33 p D x due b s' mo k2 sh (some (.int (i : Int))) (some (mv m)) (some (.int (on : Int))) u12 (some (.int (j : Int))) (some (.int (u : Int))) x14 = st33 p D x due b s' mo k2 sh (some (.int (i : Int))) (some (mv m)) (some (.int (on : Int))) u12 (some (.int (j : Int))) y14 y15 := fun v hv x14 => by
                subst hv
                exact ⟨by rw [upd_ne nta]; exact g_ta, by rw [upd_ne ntb]; exact g_tb, _, R.set _, DI.set hi hj hu, _, _, rfl⟩
              refine iteB (fun c => ?_) (fun c => ?_)
              · have hp : MC.par (MC.wd i) 8 = false := by
                  have c := V.int.inj (of_decide_eq_true c)
                  cases h : MC.par (MC.wd i) 8 with
                  | false => rfl
                  | true =>
                    rw [h] at po
                    have po : on % 2 = 1 := po
                    omega
                skip
                have ch : (if MC.par (MC.wd i) 8 then j else u) = u := by rw [hp]; rfl
                rw [ch] at ab
                cases m with
                | none =>
                  repeat (first | (with_reducible refine st_i0 rfl rfl rfl ?_) | ((with_reducible refine st_i rfl rfl ?_ rfl ?_); first | omega | exact ⟨by decide, by decide, by decide⟩ | exact .inl ⟨by decide, by decide⟩ | exact .inl ⟨by omega, by omega⟩ | exact .inr ⟨by omega, by omega⟩ | fail) | ((fail_if_success refine Exists.intro (α := Nat → Nat → L2.St → Hp → Prop) ?_ ?_); (fail_if_success refine Exists.intro (α := L2.St → Hp → Prop) ?_ ?_); (fail_if_success refine Exists.intro (α := Nat → L2.St → Hp → Prop) ?_ ?_); apply Exists.intro) | ((refine And.intro ?_ ?_); first | with_reducible rfl | with_reducible assumption | rfl | ((with_reducible apply SqL.of); assumption) | ((with_reducible apply SqT.of); assumption) | ((with_reducible apply OwnC.cl); assumption) | (with_reducible exact isI_int _) | (with_reducible exact upd_same) | ((with_reducible apply Mid.o); assumption) | ((with_reducible apply Mid.t); assumption) | (with_reducible exact ⟨_, SqT.of (by assumption)⟩) | (with_reducible exact ⟨_, SqL.of (by assumption)⟩) | omega | exact Nat.le_of_ble_eq_true rfl | exact nat9 (by omega) | (show _ ≤ sizeLine; decide) | exact ⟨by decide, by decide, by decide⟩ | exact .inl ⟨by decide, by decide⟩ | exact .inl ⟨by omega, by omega⟩ | exact .inr ⟨by omega, by omega⟩ | assumption | fail) | ((with_reducible refine iteF' ?_ ?_); first | rfl | exact decide_eq_false (by omega) | (simp <;> fail) | fail) | ((with_reducible refine iteT' ?_ ?_); first | rfl | exact decide_eq_true (by omega) | (simp <;> fail) | fail))
                  exact fin V.non ab _
                | some t =>
                  repeat (first | (with_reducible refine st_i0 rfl rfl rfl ?_) | ((with_reducible refine st_i rfl rfl ?_ rfl ?_); first | omega | exact ⟨by decide, by decide, by decide⟩ | exact .inl ⟨by decide, by decide⟩ | exact .inl ⟨by omega, by omega⟩ | exact .inr ⟨by omega, by omega⟩ | fail) | ((fail_if_success refine Exists.intro (α := Nat → Nat → L2.St → Hp → Prop) ?_ ?_); (fail_if_success refine Exists.intro (α := L2.St → Hp → Prop) ?_ ?_); (fail_if_success refine Exists.intro (α := Nat → L2.St → Hp → Prop) ?_ ?_); apply Exists.intro) | ((refine And.intro ?_ ?_); first | with_reducible rfl | with_reducible assumption | rfl | ((with_reducible apply SqL.of); assumption) | ((with_reducible apply SqT.of); assumption) | ((with_reducible apply OwnC.cl); assumption) | (with_reducible exact isI_int _) | (with_reducible exact upd_same) | ((with_reducible apply Mid.o); assumption) | ((with_reducible apply Mid.t); assumption) | (with_reducible exact ⟨_, SqT.of (by assumption)⟩) | (with_reducible exact ⟨_, SqL.of (by assumption)⟩) | omega | exact Nat.le_of_ble_eq_true rfl | exact nat9 (by omega) | (show _ ≤ sizeLine; decide) | exact ⟨by decide, by decide, by decide⟩ | exact .inl ⟨by decide, by decide⟩ | exact .inl ⟨by omega, by omega⟩ | exact .inr ⟨by omega, by omega⟩ | assumption | fail) | ((with_reducible refine iteF' ?_ ?_); first | rfl | exact decide_eq_false (by omega) | (simp <;> fail) | fail) | ((with_reducible refine iteT' ?_ ?_); first | rfl | exact decide_eq_true (by omega) | (simp <;> fail) | fail))
                  exact fin (V.int ((t : Int) + (mo : Int) * (u : Int))) (ab.trans (congrArg V.int (by rw [Int.natCast_add, Int.natCast_mul]))) _
              · have hp : MC.par (MC.wd i) 8 = true := by
                  cases h : MC.par (MC.wd i) 8 with
                  | true => rfl
                  | false =>
                    rw [h] at po
                    have po : on % 2 = 0 := po
                    exact absurd (show V.int ((on : Int) % 2) = V.int 0 from congrArg V.int (by omega)) (of_decide_eq_false c)
                skip
                have ch : (if MC.par (MC.wd i) 8 then j else u) = j := by rw [hp]; rfl
                rw [ch] at ab
                cases m with
                | none =>
                  repeat (first | (with_reducible refine st_i0 rfl rfl rfl ?_) | ((with_reducible refine st_i rfl rfl ?_ rfl ?_); first | omega | exact ⟨by decide, by decide, by decide⟩ | exact .inl ⟨by decide, by decide⟩ | exact .inl ⟨by omega, by omega⟩ | exact .inr ⟨by omega, by omega⟩ | fail) | ((fail_if_success refine Exists.intro (α := Nat → Nat → L2.St → Hp → Prop) ?_ ?_); (fail_if_success refine Exists.intro (α := L2.St → Hp → Prop) ?_ ?_); (fail_if_success refine Exists.intro (α := Nat → L2.St → Hp → Prop) ?_ ?_); apply Exists.intro) | ((refine And.intro ?_ ?_); first | with_reducible rfl | with_reducible assumption | rfl | ((with_reducible apply SqL.of); assumption) | ((with_reducible apply SqT.of); assumption) | ((with_reducible apply OwnC.cl); assumption) | (with_reducible exact isI_int _) | (with_reducible exact upd_same) | ((with_reducible apply Mid.o); assumption) | ((with_reducible apply Mid.t); assumption) | (with_reducible exact ⟨_, SqT.of (by assumption)⟩) | (with_reducible exact ⟨_, SqL.of (by assumption)⟩) | omega | exact Nat.le_of_ble_eq_true rfl | exact nat9 (by omega) | (show _ ≤ sizeLine; decide) | exact ⟨by decide, by decide, by decide⟩ | exact .inl ⟨by decide, by decide⟩ | exact .inl ⟨by omega, by omega⟩ | exact .inr ⟨by omega, by omega⟩ | assumption | fail) | ((with_reducible refine iteF' ?_ ?_); first | rfl | exact decide_eq_false (by omega) | (simp <;> fail) | fail) | ((with_reducible refine iteT' ?_ ?_); first | rfl | exact decide_eq_true (by omega) | (simp <;> fail) | fail))
                  exact fin V.non ab _
                | some t =>
                  repeat (first | (with_reducible refine st_i0 rfl rfl rfl ?_) | ((with_reducible refine st_i rfl rfl ?_ rfl ?_); first | omega | exact ⟨by decide, by decide, by decide⟩ | exact .inl ⟨by decide, by decide⟩ | exact .inl ⟨by omega, by omega⟩ | exact .inr ⟨by omega, by omega⟩ | fail) | ((fail_if_success refine Exists.intro (α := Nat → Nat → L2.St → Hp → Prop) ?_ ?_); (fail_if_success refine Exists.intro (α := L2.St → Hp → Prop) ?_ ?_); (fail_if_success refine Exists.intro (α := Nat → L2.St → Hp → Prop) ?_ ?_); apply Exists.intro) | ((refine And.intro ?_ ?_); first | with_reducible rfl | with_reducible assumption | rfl | ((with_reducible apply SqL.of); assumption) | ((with_reducible apply SqT.of); assumption) | ((with_reducible apply OwnC.cl); assumption) | (with_reducible exact isI_int _) | (with_reducible exact upd_same) | ((with_reducible apply Mid.o); assumption) | ((with_reducible apply Mid.t); assumption) | (with_reducible exact ⟨_, SqT.of (by assumption)⟩) | (with_reducible exact ⟨_, SqL.of (by assumption)⟩) | omega | exact Nat.le_of_ble_eq_true rfl | exact nat9 (by omega) | (show _ ≤ sizeLine; decide) | exact ⟨by decide, by decide, by decide⟩ | exact .inl ⟨by decide, by decide⟩ | exact .inl ⟨by omega, by omega⟩ | exact .inr ⟨by omega, by omega⟩ | assumption | fail) | ((with_reducible refine iteF' ?_ ?_); first | rfl | exact decide_eq_false (by omega) | (simp <;> fail) | fail) | ((with_reducible refine iteT' ?_ ?_); first | rfl | exact decide_eq_true (by omega) | (simp <;> fail) | fail))
                  exact fin (V.int ((t : Int) + (mo : Int) * (j : Int))) (ab.trans (congrArg V.int (by rw [Int.natCast_add, Int.natCast_mul]))) _
            · rintro σ H20 ⟨g_ta, g_tb, Ld, R, DI, u14, u15, rfl⟩
              exact ⟨g_ta, Ld, R, DI.mono fun x pr _ _ => by unfold Dn; simp only [List.length_cons, List.length_nil]; omega, _, _, _, rfl⟩
          · rintro σ H18 ⟨g_ta, Ld, R, DI, u13, u14, u15, rfl⟩
            exact ⟨Ld, R, DI.mono fun x pr _ _ => by unfold Dn; simp only [List.length_cons, List.length_nil]; omega, _, _, _, _, _, _, _, rfl⟩
          -- </cut>
        · rintro σ H14 ⟨Ld, R, DI, u5, u10, u11, u12, u13, u14, u15, rfl⟩
          rw [List.length_map] at DI
          obtain rfl := DI.all
          clear DI
          have dok : LayOk (b + 2) (dblM mo ms 4) := ⟨by omega, by omega, by rw [dbl_len, len, pq], fun t ht => dbl_small (by omega) (fun t ht => by have := small t ht; omega) 4 t ht⟩
          obtain ⟨w1, w2, w3, w4⟩ := datT_ok dok
          have gf : grt mo ms = false := grt_of fun t ht => by have := small t ht; omega
          have hl := R.hl
          repeat (first | (with_reducible refine st_i0 rfl rfl rfl ?_) | ((with_reducible refine st_i rfl rfl ?_ rfl ?_); first | omega | exact ⟨by decide, by decide, by decide⟩ | exact .inl ⟨by decide, by decide⟩ | exact .inl ⟨by omega, by omega⟩ | exact .inr ⟨by omega, by omega⟩ | fail) | ((fail_if_success refine Exists.intro (α := Nat → Nat → L2.St → Hp → Prop) ?_ ?_); (fail_if_success refine Exists.intro (α := L2.St → Hp → Prop) ?_ ?_); (fail_if_success refine Exists.intro (α := Nat → L2.St → Hp → Prop) ?_ ?_); apply Exists.intro) | ((refine And.intro ?_ ?_); first | with_reducible rfl | with_reducible assumption | rfl | ((with_reducible apply SqL.of); assumption) | ((with_reducible apply SqT.of); assumption) | ((with_reducible apply OwnC.cl); assumption) | (with_reducible exact isI_int _) | (with_reducible exact upd_same) | ((with_reducible apply Mid.o); assumption) | ((with_reducible apply Mid.t); assumption) | (with_reducible exact ⟨_, SqT.of (by assumption)⟩) | (with_reducible exact ⟨_, SqL.of (by assumption)⟩) | omega | exact Nat.le_of_ble_eq_true rfl | exact nat9 (by omega) | (show _ ≤ sizeLine; decide) | exact ⟨by decide, by decide, by decide⟩ | exact .inl ⟨by decide, by decide⟩ | exact .inl ⟨by omega, by omega⟩ | exact .inr ⟨by omega, by omega⟩ | assumption | fail) | ((with_reducible refine iteF' ?_ ?_); first | rfl | exact decide_eq_false (by omega) | (simp <;> fail) | fail) | ((with_reducible refine iteT' ?_ ?_); first | rfl | exact decide_eq_true (by omega) | (simp <;> fail) | fail))
          refine .inr ⟨x, b, ms, rfl, R.hl, lok, .inr ⟨mo, rfl, by omega, by omega, .inr ⟨by omega, .inr ⟨by omega, gf, fun t2 H15 n15 S15 la => ?_⟩⟩⟩⟩
          replace R := R.same S15
          replace hl := hl.same S15
          obtain ⟨dx2, fs2, tb, e1, e2, e3, e4⟩ := id la
          clear n15 S15
          repeat (first | (refine ⟨_, datT (dblM mo ms 4), rfl, Dp.tup (SqT.of (by assumption)) (dp_means _), w1, w2, w3, w4, ?_⟩) | (with_reducible refine st_i0 rfl rfl rfl ?_) | ((with_reducible refine st_i rfl rfl ?_ rfl ?_); first | omega | exact ⟨by decide, by decide, by decide⟩ | exact .inl ⟨by decide, by decide⟩ | exact .inl ⟨by omega, by omega⟩ | exact .inr ⟨by omega, by omega⟩ | fail) | ((fail_if_success refine Exists.intro (α := Nat → Nat → L2.St → Hp → Prop) ?_ ?_); (fail_if_success refine Exists.intro (α := L2.St → Hp → Prop) ?_ ?_); (fail_if_success refine Exists.intro (α := Nat → L2.St → Hp → Prop) ?_ ?_); apply Exists.intro) | ((refine And.intro ?_ ?_); first | with_reducible rfl | with_reducible assumption | rfl | ((with_reducible apply SqL.of); assumption) | ((with_reducible apply SqT.of); assumption) | ((with_reducible apply OwnC.cl); assumption) | (with_reducible exact isI_int _) | (with_reducible exact upd_same) | ((with_reducible apply Mid.o); assumption) | ((with_reducible apply Mid.t); assumption) | (with_reducible exact ⟨_, SqT.of (by assumption)⟩) | (with_reducible exact ⟨_, SqL.of (by assumption)⟩) | omega | exact Nat.le_of_ble_eq_true rfl | exact nat9 (by omega) | (show _ ≤ sizeLine; decide) | exact ⟨by decide, by decide, by decide⟩ | exact .inl ⟨by decide, by decide⟩ | exact .inl ⟨by omega, by omega⟩ | exact .inr ⟨by omega, by omega⟩ | assumption | fail) | ((with_reducible refine iteF' ?_ ?_); first | rfl | exact decide_eq_false (by omega) | (simp <;> fail) | fail) | ((with_reducible refine iteT' ?_ ?_); first | rfl | exact decide_eq_true (by omega) | (simp <;> fail) | fail))
          refine .inl ⟨SqL.of R.gd, fun t3 n3 => ?_⟩
          generalize hE : upd _ t3 _ = H16
          obtain ⟨S3, g_t3⟩ := new_facts n3 hE
          replace R := R.same S3
          replace hl := hl.same S3; replace la := la.same S3
          obtain ⟨dx2, fs2, tb, e1, e2, e3, e4⟩ := id la
          obtain ⟨dy2, gs2, ty, f1, f2, f3, f4⟩ := id hl
          clear hE n3 S3
          repeat (first | (refine ⟨_, datT (dblM mo ms 4), rfl, Dp.tup (SqT.of (by assumption)) (dp_means _), w1, w2, w3, w4, ?_⟩) | (refine ⟨_, datT ms, rfl, Dp.tup (SqT.of (by assumption)) (dp_means _), q1, q2, q3, q4, ?_⟩) | (with_reducible refine st_i0 rfl rfl rfl ?_) | ((with_reducible refine st_i rfl rfl ?_ rfl ?_); first | omega | exact ⟨by decide, by decide, by decide⟩ | exact .inl ⟨by decide, by decide⟩ | exact .inl ⟨by omega, by omega⟩ | exact .inr ⟨by omega, by omega⟩ | fail) | ((fail_if_success refine Exists.intro (α := Nat → Nat → L2.St → Hp → Prop) ?_ ?_); (fail_if_success refine Exists.intro (α := L2.St → Hp → Prop) ?_ ?_); (fail_if_success refine Exists.intro (α := Nat → L2.St → Hp → Prop) ?_ ?_); apply Exists.intro) | ((refine And.intro ?_ ?_); first | with_reducible rfl | with_reducible assumption | rfl | ((with_reducible apply SqL.of); assumption) | ((with_reducible apply SqT.of); assumption) | ((with_reducible apply OwnC.cl); assumption) | (with_reducible exact isI_int _) | (with_reducible exact upd_same) | ((with_reducible apply Mid.o); assumption) | ((with_reducible apply Mid.t); assumption) | (with_reducible exact ⟨_, SqT.of (by assumption)⟩) | (with_reducible exact ⟨_, SqL.of (by assumption)⟩) | omega | exact Nat.le_of_ble_eq_true rfl | exact nat9 (by omega) | (show _ ≤ sizeLine; decide) | exact ⟨by decide, by decide, by decide⟩ | exact .inl ⟨by decide, by decide⟩ | exact .inl ⟨by omega, by omega⟩ | exact .inr ⟨by omega, by omega⟩ | assumption | fail) | ((with_reducible refine iteF' ?_ ?_); first | rfl | exact decide_eq_false (by omega) | (simp <;> fail) | fail) | ((with_reducible refine iteT' ?_ ?_); first | rfl | exact decide_eq_true (by omega) | (simp <;> fail) | fail))
          rw [esh]
          have g_due := R.gd
          repeat (first | (with_reducible refine st_i0 rfl rfl rfl ?_) | ((with_reducible refine st_i rfl rfl ?_ rfl ?_); first | omega | exact ⟨by decide, by decide, by decide⟩ | exact .inl ⟨by decide, by decide⟩ | exact .inl ⟨by omega, by omega⟩ | exact .inr ⟨by omega, by omega⟩ | fail) | ((fail_if_success refine Exists.intro (α := Nat → Nat → L2.St → Hp → Prop) ?_ ?_); (fail_if_success refine Exists.intro (α := L2.St → Hp → Prop) ?_ ?_); (fail_if_success refine Exists.intro (α := Nat → L2.St → Hp → Prop) ?_ ?_); apply Exists.intro) | ((refine And.intro ?_ ?_); first | with_reducible rfl | with_reducible assumption | rfl | ((with_reducible apply SqL.of); assumption) | ((with_reducible apply SqT.of); assumption) | ((with_reducible apply OwnC.cl); assumption) | (with_reducible exact isI_int _) | (with_reducible exact upd_same) | ((with_reducible apply Mid.o); assumption) | ((with_reducible apply Mid.t); assumption) | (with_reducible exact ⟨_, SqT.of (by assumption)⟩) | (with_reducible exact ⟨_, SqL.of (by assumption)⟩) | omega | exact Nat.le_of_ble_eq_true rfl | exact nat9 (by omega) | (show _ ≤ sizeLine; decide) | exact ⟨by decide, by decide, by decide⟩ | exact .inl ⟨by decide, by decide⟩ | exact .inl ⟨by omega, by omega⟩ | exact .inr ⟨by omega, by omega⟩ | assumption | fail) | ((with_reducible refine iteF' ?_ ?_); first | rfl | exact decide_eq_false (by omega) | (simp <;> fail) | fail) | ((with_reducible refine iteT' ?_ ?_); first | rfl | exact decide_eq_true (by omega) | (simp <;> fail) | fail))
          intro y dy ny ndy ney
          show spLayInit L [.ref y, .int ((b : Int) + 2), .ref due] _ _ _
          rw [show (b : Int) + 2 = ((b + 2 : Nat) : Int) by omega]
          refine make_lay dok (.inl g_due) ny ndy fun H17 S17 lb => ?_
          replace R := R.same S17
          replace hl := hl.same S17; replace la := la.same S17
          clear g_t3 e1 e2 e3 e4 f1 f2 f3 f4 dx2 fs2 tb dy2 gs2 ty S17 ny ndy ney g_due
          repeat (first | (refine ne_lay (by assumption) (by assumption) ?_) | (with_reducible refine st_i0 rfl rfl rfl ?_) | ((with_reducible refine st_i rfl rfl ?_ rfl ?_); first | omega | exact ⟨by decide, by decide, by decide⟩ | exact .inl ⟨by decide, by decide⟩ | exact .inl ⟨by omega, by omega⟩ | exact .inr ⟨by omega, by omega⟩ | fail) | ((fail_if_success refine Exists.intro (α := Nat → Nat → L2.St → Hp → Prop) ?_ ?_); (fail_if_success refine Exists.intro (α := L2.St → Hp → Prop) ?_ ?_); (fail_if_success refine Exists.intro (α := Nat → L2.St → Hp → Prop) ?_ ?_); apply Exists.intro) | ((refine And.intro ?_ ?_); first | with_reducible rfl | with_reducible assumption | rfl | ((with_reducible apply SqL.of); assumption) | ((with_reducible apply SqT.of); assumption) | ((with_reducible apply OwnC.cl); assumption) | (with_reducible exact isI_int _) | (with_reducible exact upd_same) | ((with_reducible apply Mid.o); assumption) | ((with_reducible apply Mid.t); assumption) | (with_reducible exact ⟨_, SqT.of (by assumption)⟩) | (with_reducible exact ⟨_, SqL.of (by assumption)⟩) | omega | exact Nat.le_of_ble_eq_true rfl | exact nat9 (by omega) | (show _ ≤ sizeLine; decide) | exact ⟨by decide, by decide, by decide⟩ | exact .inl ⟨by decide, by decide⟩ | exact .inl ⟨by omega, by omega⟩ | exact .inr ⟨by omega, by omega⟩ | assumption | fail) | ((with_reducible refine iteF' ?_ ?_); first | rfl | exact decide_eq_false (by omega) | (simp <;> fail) | fail) | ((with_reducible refine iteT' ?_ ?_); first | rfl | exact decide_eq_true (by omega) | (simp <;> fail) | fail))
          have M := R.M
          have g_D := R.gD
          clear R la lb q1 q2 q3 q4 w1 w2 w3 w4 gf esh dok
          repeat (first | (with_reducible refine st_i0 rfl rfl rfl ?_) | ((with_reducible refine st_i rfl rfl ?_ rfl ?_); first | omega | exact ⟨by decide, by decide, by decide⟩ | exact .inl ⟨by decide, by decide⟩ | exact .inl ⟨by omega, by omega⟩ | exact .inr ⟨by omega, by omega⟩ | fail) | ((fail_if_success refine Exists.intro (α := Nat → Nat → L2.St → Hp → Prop) ?_ ?_); (fail_if_success refine Exists.intro (α := L2.St → Hp → Prop) ?_ ?_); (fail_if_success refine Exists.intro (α := Nat → L2.St → Hp → Prop) ?_ ?_); apply Exists.intro) | ((refine And.intro ?_ ?_); first | with_reducible rfl | with_reducible assumption | rfl | ((with_reducible apply SqL.of); assumption) | ((with_reducible apply SqT.of); assumption) | ((with_reducible apply OwnC.cl); assumption) | (with_reducible exact isI_int _) | (with_reducible exact upd_same) | ((with_reducible apply Mid.o); assumption) | ((with_reducible apply Mid.t); assumption) | (with_reducible exact ⟨_, SqT.of (by assumption)⟩) | (with_reducible exact ⟨_, SqL.of (by assumption)⟩) | omega | exact Nat.le_of_ble_eq_true rfl | exact nat9 (by omega) | (show _ ≤ sizeLine; decide) | exact ⟨by decide, by decide, by decide⟩ | exact .inl ⟨by decide, by decide⟩ | exact .inl ⟨by omega, by omega⟩ | exact .inr ⟨by omega, by omega⟩ | assumption | fail) | ((with_reducible refine iteF' ?_ ?_); first | rfl | exact decide_eq_false (by omega) | (simp <;> fail) | fail) | ((with_reducible refine iteT' ?_ ?_); first | rfl | exact decide_eq_true (by omega) | (simp <;> fail) | fail))
          intro Dm hDm
          have npm := M.pD hDm
          have nbm := M.bD hDm
          refine lc_list (K := K) (a := D) (xs := ms.map mv) (fun i H' => Same H17 H' ∧ H' Dm = some (.lst ((metL (ms.take i)).map V.int))) ⟨same_new hDm, upd_same⟩ (fun i H' _ z => SqL.of (z.1 _ _ g_D)) ?_ ?_
          · rintro i yv H18 hy ⟨S1, g1⟩
            obtain ⟨m, hm, rfl⟩ : ∃ m, ms[i]? = some m ∧ yv = mv m := by
              rw [List.getElem?_map] at hy
              cases e : ms[i]? with
              | none => rw [e] at hy; cases hy
              | some m => rw [e] at hy; exact ⟨m, rfl, (Option.some.inj hy).symm⟩
            have hi := (List.getElem?_eq_some_iff.mp hm).1
            have tk := take_more hm
            have ln := metL_len (ms.take i)
            rw [List.length_take] at ln
            cases m with
            | none =>
              refine ⟨rfl, ?_⟩
              repeat (first | (with_reducible refine st_i0 rfl rfl rfl ?_) | ((with_reducible refine st_i rfl rfl ?_ rfl ?_); first | omega | exact ⟨by decide, by decide, by decide⟩ | exact .inl ⟨by decide, by decide⟩ | exact .inl ⟨by omega, by omega⟩ | exact .inr ⟨by omega, by omega⟩ | fail) | ((fail_if_success refine Exists.intro (α := Nat → Nat → L2.St → Hp → Prop) ?_ ?_); (fail_if_success refine Exists.intro (α := L2.St → Hp → Prop) ?_ ?_); (fail_if_success refine Exists.intro (α := Nat → L2.St → Hp → Prop) ?_ ?_); apply Exists.intro) | ((refine And.intro ?_ ?_); first | with_reducible rfl | with_reducible assumption | rfl | ((with_reducible apply SqL.of); assumption) | ((with_reducible apply SqT.of); assumption) | ((with_reducible apply OwnC.cl); assumption) | (with_reducible exact isI_int _) | (with_reducible exact upd_same) | ((with_reducible apply Mid.o); assumption) | ((with_reducible apply Mid.t); assumption) | (with_reducible exact ⟨_, SqT.of (by assumption)⟩) | (with_reducible exact ⟨_, SqL.of (by assumption)⟩) | omega | exact Nat.le_of_ble_eq_true rfl | exact nat9 (by omega) | (show _ ≤ sizeLine; decide) | exact ⟨by decide, by decide, by decide⟩ | exact .inl ⟨by decide, by decide⟩ | exact .inl ⟨by omega, by omega⟩ | exact .inr ⟨by omega, by omega⟩ | assumption | fail) | ((with_reducible refine iteF' ?_ ?_); first | rfl | exact decide_eq_false (by omega) | (simp <;> fail) | fail) | ((with_reducible refine iteT' ?_ ?_); first | rfl | exact decide_eq_true (by omega) | (simp <;> fail) | fail))
              rw [tk, metL_snoc, g1]
              simp
            | some t =>
              refine ⟨rfl, ?_⟩
              have hlen : ((metL (ms.take i)).map V.int).length < sizeLine := by
                rw [List.length_map, sizeLine_eq]
                omega
              repeat (first | (with_reducible refine st_i0 rfl rfl rfl ?_) | ((with_reducible refine st_i rfl rfl ?_ rfl ?_); first | omega | exact ⟨by decide, by decide, by decide⟩ | exact .inl ⟨by decide, by decide⟩ | exact .inl ⟨by omega, by omega⟩ | exact .inr ⟨by omega, by omega⟩ | fail) | ((fail_if_success refine Exists.intro (α := Nat → Nat → L2.St → Hp → Prop) ?_ ?_); (fail_if_success refine Exists.intro (α := L2.St → Hp → Prop) ?_ ?_); (fail_if_success refine Exists.intro (α := Nat → L2.St → Hp → Prop) ?_ ?_); apply Exists.intro) | ((refine And.intro ?_ ?_); first | with_reducible rfl | with_reducible assumption | rfl | ((with_reducible apply SqL.of); assumption) | ((with_reducible apply SqT.of); assumption) | ((with_reducible apply OwnC.cl); assumption) | (with_reducible exact isI_int _) | (with_reducible exact upd_same) | ((with_reducible apply Mid.o); assumption) | ((with_reducible apply Mid.t); assumption) | (with_reducible exact ⟨_, SqT.of (by assumption)⟩) | (with_reducible exact ⟨_, SqL.of (by assumption)⟩) | omega | exact Nat.le_of_ble_eq_true rfl | exact nat9 (by omega) | (show _ ≤ sizeLine; decide) | exact ⟨by decide, by decide, by decide⟩ | exact .inl ⟨by decide, by decide⟩ | exact .inl ⟨by omega, by omega⟩ | exact .inr ⟨by omega, by omega⟩ | assumption | fail) | ((with_reducible refine iteF' ?_ ?_); first | rfl | exact decide_eq_false (by omega) | (simp <;> fail) | fail) | ((with_reducible refine iteT' ?_ ?_); first | rfl | exact decide_eq_true (by omega) | (simp <;> fail) | fail))
              refine ⟨fun a o e => ?_, ?_⟩
              · rw [upd_ne (ne_of_none e hDm)]
                exact S1 a o e
              · rw [upd_same, tk, metL_snoc, List.map_append]
                rfl
          · rintro H18 ⟨S1, g_m⟩
            rw [List.length_map, List.take_of_length_le (by omega)] at g_m
            replace M := M.same S1
            replace hl := hl.same S1
            clear g_D hDm S1 R
            repeat (first | (with_reducible refine st_i0 rfl rfl rfl ?_) | ((with_reducible refine st_i rfl rfl ?_ rfl ?_); first | omega | exact ⟨by decide, by decide, by decide⟩ | exact .inl ⟨by decide, by decide⟩ | exact .inl ⟨by omega, by omega⟩ | exact .inr ⟨by omega, by omega⟩ | fail) | ((fail_if_success refine Exists.intro (α := Nat → Nat → L2.St → Hp → Prop) ?_ ?_); (fail_if_success refine Exists.intro (α := L2.St → Hp → Prop) ?_ ?_); (fail_if_success refine Exists.intro (α := Nat → L2.St → Hp → Prop) ?_ ?_); apply Exists.intro) | ((refine And.intro ?_ ?_); first | with_reducible rfl | with_reducible assumption | rfl | ((with_reducible apply SqL.of); assumption) | ((with_reducible apply SqT.of); assumption) | ((with_reducible apply OwnC.cl); assumption) | (with_reducible exact isI_int _) | (with_reducible exact upd_same) | ((with_reducible apply Mid.o); assumption) | ((with_reducible apply Mid.t); assumption) | (with_reducible exact ⟨_, SqT.of (by assumption)⟩) | (with_reducible exact ⟨_, SqL.of (by assumption)⟩) | omega | exact Nat.le_of_ble_eq_true rfl | exact nat9 (by omega) | (show _ ≤ sizeLine; decide) | exact ⟨by decide, by decide, by decide⟩ | exact .inl ⟨by decide, by decide⟩ | exact .inl ⟨by omega, by omega⟩ | exact .inr ⟨by omega, by omega⟩ | assumption | fail) | ((with_reducible refine iteF' ?_ ?_); first | rfl | exact decide_eq_false (by omega) | (simp <;> fail) | fail) | ((with_reducible refine iteT' ?_ ?_); first | rfl | exact decide_eq_true (by omega) | (simp <;> fail) | fail))
            refine ⟨fun σ' H' => σ' = (List.set (st33 p D x due b s' mo k2 sh u5 u10 u11 u12 u13 u14 u15) 16 (some (V.ref t2))).set 17 (some (V.ref Dm)) ∧ Mid (TB3 Pa Pb Pc) p b0 (n + 160) H' ∧ IsLay H' L x b ms, ?_, ?_⟩
            · repeat (first | (with_reducible refine st_i0 rfl rfl rfl ?_) | ((with_reducible refine st_i rfl rfl ?_ rfl ?_); first | omega | exact ⟨by decide, by decide, by decide⟩ | exact .inl ⟨by decide, by decide⟩ | exact .inl ⟨by omega, by omega⟩ | exact .inr ⟨by omega, by omega⟩ | fail) | ((fail_if_success refine Exists.intro (α := Nat → Nat → L2.St → Hp → Prop) ?_ ?_); (fail_if_success refine Exists.intro (α := L2.St → Hp → Prop) ?_ ?_); (fail_if_success refine Exists.intro (α := Nat → L2.St → Hp → Prop) ?_ ?_); apply Exists.intro) | ((refine And.intro ?_ ?_); first | with_reducible rfl | with_reducible assumption | rfl | ((with_reducible apply SqL.of); assumption) | ((with_reducible apply SqT.of); assumption) | ((with_reducible apply OwnC.cl); assumption) | (with_reducible exact isI_int _) | (with_reducible exact upd_same) | ((with_reducible apply Mid.o); assumption) | ((with_reducible apply Mid.t); assumption) | (with_reducible exact ⟨_, SqT.of (by assumption)⟩) | (with_reducible exact ⟨_, SqL.of (by assumption)⟩) | omega | exact Nat.le_of_ble_eq_true rfl | exact nat9 (by omega) | (show _ ≤ sizeLine; decide) | exact ⟨by decide, by decide, by decide⟩ | exact .inl ⟨by decide, by decide⟩ | exact .inl ⟨by omega, by omega⟩ | exact .inr ⟨by omega, by omega⟩ | assumption | fail) | ((with_reducible refine iteF' ?_ ?_); first | rfl | exact decide_eq_false (by omega) | (simp <;> fail) | fail) | ((with_reducible refine iteT' ?_ ?_); first | rfl | exact decide_eq_true (by omega) | (simp <;> fail) | fail))
              intro l9 h9
              generalize hE : upd _ l9 _ = H20
              obtain ⟨S9, g_9⟩ := new_facts h9 hE
              replace M := M.same S9; replace hl := hl.same S9
              replace g_m := S9 _ _ g_m
              clear hE h9 S9
              refine ⟨.list ((metL ms).map PyData.int), .list [], Dp.lst (SqL.of g_m) (dp_ints _), Dp.lst (SqL.of g_9) .nil, shaped_ints _, shaped_ints [], _, rfl, ?_⟩
              rw [eqv_nil]
              by_cases hne : metL ms = []
              · refine iteF' (by simp [hne]) (iteF' rfl ?_)
                exact ⟨rfl, M.mono (by omega), hl⟩
              refine iteT' (by simp [hne]) ?_
              have hpos : 0 < (metL ms).length := List.length_pos_iff.mpr hne
              repeat (first | (with_reducible refine st_i0 rfl rfl rfl ?_) | ((with_reducible refine st_i rfl rfl ?_ rfl ?_); first | omega | exact ⟨by decide, by decide, by decide⟩ | exact .inl ⟨by decide, by decide⟩ | exact .inl ⟨by omega, by omega⟩ | exact .inr ⟨by omega, by omega⟩ | fail) | ((fail_if_success refine Exists.intro (α := Nat → Nat → L2.St → Hp → Prop) ?_ ?_); (fail_if_success refine Exists.intro (α := L2.St → Hp → Prop) ?_ ?_); (fail_if_success refine Exists.intro (α := Nat → L2.St → Hp → Prop) ?_ ?_); apply Exists.intro) | ((refine And.intro ?_ ?_); first | with_reducible rfl | with_reducible assumption | rfl | ((with_reducible apply SqL.of); assumption) | ((with_reducible apply SqT.of); assumption) | ((with_reducible apply OwnC.cl); assumption) | (with_reducible exact isI_int _) | (with_reducible exact upd_same) | ((with_reducible apply Mid.o); assumption) | ((with_reducible apply Mid.t); assumption) | (with_reducible exact ⟨_, SqT.of (by assumption)⟩) | (with_reducible exact ⟨_, SqL.of (by assumption)⟩) | omega | exact Nat.le_of_ble_eq_true rfl | exact nat9 (by omega) | (show _ ≤ sizeLine; decide) | exact ⟨by decide, by decide, by decide⟩ | exact .inl ⟨by decide, by decide⟩ | exact .inl ⟨by omega, by omega⟩ | exact .inr ⟨by omega, by omega⟩ | assumption | fail) | ((with_reducible refine iteF' ?_ ?_); first | rfl | exact decide_eq_false (by omega) | (simp <;> fail) | fail) | ((with_reducible refine iteT' ?_ ?_); first | rfl | exact decide_eq_true (by omega) | (simp <;> fail) | fail))
              intro mx hmx hall
              obtain ⟨t, rfl, ht⟩ := metL_mem hmx
              have tlt := small t ht
              repeat (first | (with_reducible refine st_i0 rfl rfl rfl ?_) | ((with_reducible refine st_i rfl rfl ?_ rfl ?_); first | omega | exact ⟨by decide, by decide, by decide⟩ | exact .inl ⟨by decide, by decide⟩ | exact .inl ⟨by omega, by omega⟩ | exact .inr ⟨by omega, by omega⟩ | fail) | ((fail_if_success refine Exists.intro (α := Nat → Nat → L2.St → Hp → Prop) ?_ ?_); (fail_if_success refine Exists.intro (α := L2.St → Hp → Prop) ?_ ?_); (fail_if_success refine Exists.intro (α := Nat → L2.St → Hp → Prop) ?_ ?_); apply Exists.intro) | ((refine And.intro ?_ ?_); first | with_reducible rfl | with_reducible assumption | rfl | ((with_reducible apply SqL.of); assumption) | ((with_reducible apply SqT.of); assumption) | ((with_reducible apply OwnC.cl); assumption) | (with_reducible exact isI_int _) | (with_reducible exact upd_same) | ((with_reducible apply Mid.o); assumption) | ((with_reducible apply Mid.t); assumption) | (with_reducible exact ⟨_, SqT.of (by assumption)⟩) | (with_reducible exact ⟨_, SqL.of (by assumption)⟩) | omega | exact Nat.le_of_ble_eq_true rfl | exact nat9 (by omega) | (show _ ≤ sizeLine; decide) | exact ⟨by decide, by decide, by decide⟩ | exact .inl ⟨by decide, by decide⟩ | exact .inl ⟨by omega, by omega⟩ | exact .inr ⟨by omega, by omega⟩ | assumption | fail) | ((with_reducible refine iteF' ?_ ?_); first | rfl | exact decide_eq_false (by omega) | (simp <;> fail) | fail) | ((with_reducible refine iteT' ?_ ?_); first | rfl | exact decide_eq_true (by omega) | (simp <;> fail) | fail))
              by_cases tp : 0 < t
              · refine iteT' (decide_eq_true (by omega)) ?_
                repeat (first | (with_reducible refine st_i0 rfl rfl rfl ?_) | ((with_reducible refine st_i rfl rfl ?_ rfl ?_); first | omega | exact ⟨by decide, by decide, by decide⟩ | exact .inl ⟨by decide, by decide⟩ | exact .inl ⟨by omega, by omega⟩ | exact .inr ⟨by omega, by omega⟩ | fail) | ((fail_if_success refine Exists.intro (α := Nat → Nat → L2.St → Hp → Prop) ?_ ?_); (fail_if_success refine Exists.intro (α := L2.St → Hp → Prop) ?_ ?_); (fail_if_success refine Exists.intro (α := Nat → L2.St → Hp → Prop) ?_ ?_); apply Exists.intro) | ((refine And.intro ?_ ?_); first | with_reducible rfl | with_reducible assumption | rfl | ((with_reducible apply SqL.of); assumption) | ((with_reducible apply SqT.of); assumption) | ((with_reducible apply OwnC.cl); assumption) | (with_reducible exact isI_int _) | (with_reducible exact upd_same) | ((with_reducible apply Mid.o); assumption) | ((with_reducible apply Mid.t); assumption) | (with_reducible exact ⟨_, SqT.of (by assumption)⟩) | (with_reducible exact ⟨_, SqL.of (by assumption)⟩) | omega | exact Nat.le_of_ble_eq_true rfl | exact nat9 (by omega) | (show _ ≤ sizeLine; decide) | exact ⟨by decide, by decide, by decide⟩ | exact .inl ⟨by decide, by decide⟩ | exact .inl ⟨by omega, by omega⟩ | exact .inr ⟨by omega, by omega⟩ | assumption | fail) | ((with_reducible refine iteF' ?_ ?_); first | rfl | exact decide_eq_false (by omega) | (simp <;> fail) | fail) | ((with_reducible refine iteT' ?_ ?_); first | rfl | exact decide_eq_true (by omega) | (simp <;> fail) | fail))
                intro Ha ea Ta
                replace M := M.ext ea Ta
                replace hl := lay_ext hl ea
                replace g_m := ea _ _ g_m (fun _ z => nomatch z)
                repeat (first | (with_reducible refine st_i0 rfl rfl rfl ?_) | ((with_reducible refine st_i rfl rfl ?_ rfl ?_); first | omega | exact ⟨by decide, by decide, by decide⟩ | exact .inl ⟨by decide, by decide⟩ | exact .inl ⟨by omega, by omega⟩ | exact .inr ⟨by omega, by omega⟩ | fail) | ((fail_if_success refine Exists.intro (α := Nat → Nat → L2.St → Hp → Prop) ?_ ?_); (fail_if_success refine Exists.intro (α := L2.St → Hp → Prop) ?_ ?_); (fail_if_success refine Exists.intro (α := Nat → L2.St → Hp → Prop) ?_ ?_); apply Exists.intro) | ((refine And.intro ?_ ?_); first | with_reducible rfl | with_reducible assumption | rfl | ((with_reducible apply SqL.of); assumption) | ((with_reducible apply SqT.of); assumption) | ((with_reducible apply OwnC.cl); assumption) | (with_reducible exact isI_int _) | (with_reducible exact upd_same) | ((with_reducible apply Mid.o); assumption) | ((with_reducible apply Mid.t); assumption) | (with_reducible exact ⟨_, SqT.of (by assumption)⟩) | (with_reducible exact ⟨_, SqL.of (by assumption)⟩) | omega | exact Nat.le_of_ble_eq_true rfl | exact nat9 (by omega) | (show _ ≤ sizeLine; decide) | exact ⟨by decide, by decide, by decide⟩ | exact .inl ⟨by decide, by decide⟩ | exact .inl ⟨by omega, by omega⟩ | exact .inr ⟨by omega, by omega⟩ | assumption | fail) | ((with_reducible refine iteF' ?_ ?_); first | rfl | exact decide_eq_false (by omega) | (simp <;> fail) | fail) | ((with_reducible refine iteT' ?_ ?_); first | rfl | exact decide_eq_true (by omega) | (simp <;> fail) | fail))
                intro mx2 hmx2 hall2
                obtain ⟨t', rfl, ht'⟩ := metL_mem hmx2
                have tlt' := small t' ht'
                have tt := hall2 _ hmx
                repeat (first | (with_reducible refine st_i0 rfl rfl rfl ?_) | ((with_reducible refine st_i rfl rfl ?_ rfl ?_); first | omega | exact ⟨by decide, by decide, by decide⟩ | exact .inl ⟨by decide, by decide⟩ | exact .inl ⟨by omega, by omega⟩ | exact .inr ⟨by omega, by omega⟩ | fail) | ((fail_if_success refine Exists.intro (α := Nat → Nat → L2.St → Hp → Prop) ?_ ?_); (fail_if_success refine Exists.intro (α := L2.St → Hp → Prop) ?_ ?_); (fail_if_success refine Exists.intro (α := Nat → L2.St → Hp → Prop) ?_ ?_); apply Exists.intro) | ((refine And.intro ?_ ?_); first | with_reducible rfl | with_reducible assumption | rfl | ((with_reducible apply SqL.of); assumption) | ((with_reducible apply SqT.of); assumption) | ((with_reducible apply OwnC.cl); assumption) | (with_reducible exact isI_int _) | (with_reducible exact upd_same) | ((with_reducible apply Mid.o); assumption) | ((with_reducible apply Mid.t); assumption) | (with_reducible exact ⟨_, SqT.of (by assumption)⟩) | (with_reducible exact ⟨_, SqL.of (by assumption)⟩) | omega | exact Nat.le_of_ble_eq_true rfl | exact nat9 (by omega) | (show _ ≤ sizeLine; decide) | exact ⟨by decide, by decide, by decide⟩ | exact .inl ⟨by decide, by decide⟩ | exact .inl ⟨by omega, by omega⟩ | exact .inr ⟨by omega, by omega⟩ | assumption | fail) | ((with_reducible refine iteF' ?_ ?_); first | rfl | exact decide_eq_false (by omega) | (simp <;> fail) | fail) | ((with_reducible refine iteT' ?_ ?_); first | rfl | exact decide_eq_true (by omega) | (simp <;> fail) | fail))
                refine .inr ⟨x, b, ms, rfl, hl, lok, .inr ⟨t', rfl, by omega, by omega, .inr ⟨by omega, .inl ⟨.inr (grt_yes ht'), fun Hz Sz dd hdd => ⟨dd, "states", rfl, upd_same, .inr (.inr (.inr ⟨rfl, fun tq Hb Sb g_tq => ?_⟩))⟩⟩⟩⟩⟩
                have Sd := Sz.trans ((same_new (o := .xd [(("part" : Str), .str "states")]) hdd).trans Sb)
                replace M := M.same Sd; replace hl := hl.same Sd
                clear Sd Sz hdd Sb
                repeat (first | (with_reducible refine st_i0 rfl rfl rfl ?_) | ((with_reducible refine st_i rfl rfl ?_ rfl ?_); first | omega | exact ⟨by decide, by decide, by decide⟩ | exact .inl ⟨by decide, by decide⟩ | exact .inl ⟨by omega, by omega⟩ | exact .inr ⟨by omega, by omega⟩ | fail) | ((fail_if_success refine Exists.intro (α := Nat → Nat → L2.St → Hp → Prop) ?_ ?_); (fail_if_success refine Exists.intro (α := L2.St → Hp → Prop) ?_ ?_); (fail_if_success refine Exists.intro (α := Nat → L2.St → Hp → Prop) ?_ ?_); apply Exists.intro) | ((refine And.intro ?_ ?_); first | with_reducible rfl | with_reducible assumption | rfl | ((with_reducible apply SqL.of); assumption) | ((with_reducible apply SqT.of); assumption) | ((with_reducible apply OwnC.cl); assumption) | (with_reducible exact isI_int _) | (with_reducible exact upd_same) | ((with_reducible apply Mid.o); assumption) | ((with_reducible apply Mid.t); assumption) | (with_reducible exact ⟨_, SqT.of (by assumption)⟩) | (with_reducible exact ⟨_, SqL.of (by assumption)⟩) | omega | exact Nat.le_of_ble_eq_true rfl | exact nat9 (by omega) | (show _ ≤ sizeLine; decide) | exact ⟨by decide, by decide, by decide⟩ | exact .inl ⟨by decide, by decide⟩ | exact .inl ⟨by omega, by omega⟩ | exact .inr ⟨by omega, by omega⟩ | assumption | fail) | ((with_reducible refine iteF' ?_ ?_); first | rfl | exact decide_eq_false (by omega) | (simp <;> fail) | fail) | ((with_reducible refine iteT' ?_ ?_); first | rfl | exact decide_eq_true (by omega) | (simp <;> fail) | fail))
                intro tr htr
                generalize hE : upd _ tr _ = H21
                obtain ⟨Sr, g_r⟩ := new_facts htr hE
                replace M := M.same Sr; replace hl := hl.same Sr
                replace g_tq := Sr _ _ g_tq
                refine ⟨.tuple [.str "misfit", .str "states"], .tuple [.str "misfit", .str "states"], Dp.tup (SqT.of g_tq) (.cons (.str _) (.cons (.str _) .nil)), Dp.tup (SqT.of g_r) (.cons (.str _) (.cons (.str _) .nil)), (by decide +kernel), (by decide +kernel), _, rfl, ?_⟩
                rw [SeqAt.eqv_refl _ (by decide +kernel)]
                refine iteF' rfl ?_
                exact ⟨rfl, M.mono (by omega), hl⟩
              · refine iteF' (decide_eq_false (by omega)) (iteF' rfl ?_)
                exact ⟨rfl, M.mono (by omega), hl⟩
            · rintro σ' H19 ⟨rfl, M, hl⟩
              repeat (first | (with_reducible refine st_i0 rfl rfl rfl ?_) | ((with_reducible refine st_i rfl rfl ?_ rfl ?_); first | omega | exact ⟨by decide, by decide, by decide⟩ | exact .inl ⟨by decide, by decide⟩ | exact .inl ⟨by omega, by omega⟩ | exact .inr ⟨by omega, by omega⟩ | fail) | ((fail_if_success refine Exists.intro (α := Nat → Nat → L2.St → Hp → Prop) ?_ ?_); (fail_if_success refine Exists.intro (α := L2.St → Hp → Prop) ?_ ?_); (fail_if_success refine Exists.intro (α := Nat → L2.St → Hp → Prop) ?_ ?_); apply Exists.intro) | ((refine And.intro ?_ ?_); first | with_reducible rfl | with_reducible assumption | rfl | ((with_reducible apply SqL.of); assumption) | ((with_reducible apply SqT.of); assumption) | ((with_reducible apply OwnC.cl); assumption) | (with_reducible exact isI_int _) | (with_reducible exact upd_same) | ((with_reducible apply Mid.o); assumption) | ((with_reducible apply Mid.t); assumption) | (with_reducible exact ⟨_, SqT.of (by assumption)⟩) | (with_reducible exact ⟨_, SqL.of (by assumption)⟩) | omega | exact Nat.le_of_ble_eq_true rfl | exact nat9 (by omega) | (show _ ≤ sizeLine; decide) | exact ⟨by decide, by decide, by decide⟩ | exact .inl ⟨by decide, by decide⟩ | exact .inl ⟨by omega, by omega⟩ | exact .inr ⟨by omega, by omega⟩ | assumption | fail) | ((with_reducible refine iteF' ?_ ?_); first | rfl | exact decide_eq_false (by omega) | (simp <;> fail) | fail) | ((with_reducible refine iteT' ?_ ?_); first | rfl | exact decide_eq_true (by omega) | (simp <;> fail) | fail))
              intro Ha ea Ta
              replace M := M.ext ea Ta
              replace hl := lay_ext hl ea
              repeat (first | (with_reducible refine st_i0 rfl rfl rfl ?_) | ((with_reducible refine st_i rfl rfl ?_ rfl ?_); first | omega | exact ⟨by decide, by decide, by decide⟩ | exact .inl ⟨by decide, by decide⟩ | exact .inl ⟨by omega, by omega⟩ | exact .inr ⟨by omega, by omega⟩ | fail) | ((fail_if_success refine Exists.intro (α := Nat → Nat → L2.St → Hp → Prop) ?_ ?_); (fail_if_success refine Exists.intro (α := L2.St → Hp → Prop) ?_ ?_); (fail_if_success refine Exists.intro (α := Nat → L2.St → Hp → Prop) ?_ ?_); apply Exists.intro) | ((refine And.intro ?_ ?_); first | with_reducible rfl | with_reducible assumption | rfl | ((with_reducible apply SqL.of); assumption) | ((with_reducible apply SqT.of); assumption) | ((with_reducible apply OwnC.cl); assumption) | (with_reducible exact isI_int _) | (with_reducible exact upd_same) | ((with_reducible apply Mid.o); assumption) | ((with_reducible apply Mid.t); assumption) | (with_reducible exact ⟨_, SqT.of (by assumption)⟩) | (with_reducible exact ⟨_, SqL.of (by assumption)⟩) | omega | exact Nat.le_of_ble_eq_true rfl | exact nat9 (by omega) | (show _ ≤ sizeLine; decide) | exact ⟨by decide, by decide, by decide⟩ | exact .inl ⟨by decide, by decide⟩ | exact .inl ⟨by omega, by omega⟩ | exact .inr ⟨by omega, by omega⟩ | assumption | fail) | ((with_reducible refine iteF' ?_ ?_); first | rfl | exact decide_eq_false (by omega) | (simp <;> fail) | fail) | ((with_reducible refine iteT' ?_ ?_); first | rfl | exact decide_eq_true (by omega) | (simp <;> fail) | fail))
              intro z H20 z0 z1 O_z B_z; obtain ⟨_, _, _, hpX, _⟩ := id M.o; replace hl := hl.but B_z hpX; replace M := M.draw O_z B_z; obtain ⟨z, rfl⟩ := Int.eq_ofNat_of_zero_le z0; clear O_z B_z
              repeat (first | (with_reducible refine st_i0 rfl rfl rfl ?_) | ((with_reducible refine st_i rfl rfl ?_ rfl ?_); first | omega | exact ⟨by decide, by decide, by decide⟩ | exact .inl ⟨by decide, by decide⟩ | exact .inl ⟨by omega, by omega⟩ | exact .inr ⟨by omega, by omega⟩ | fail) | ((fail_if_success refine Exists.intro (α := Nat → Nat → L2.St → Hp → Prop) ?_ ?_); (fail_if_success refine Exists.intro (α := L2.St → Hp → Prop) ?_ ?_); (fail_if_success refine Exists.intro (α := Nat → L2.St → Hp → Prop) ?_ ?_); apply Exists.intro) | ((refine And.intro ?_ ?_); first | with_reducible rfl | with_reducible assumption | rfl | ((with_reducible apply SqL.of); assumption) | ((with_reducible apply SqT.of); assumption) | ((with_reducible apply OwnC.cl); assumption) | (with_reducible exact isI_int _) | (with_reducible exact upd_same) | ((with_reducible apply Mid.o); assumption) | ((with_reducible apply Mid.t); assumption) | (with_reducible exact ⟨_, SqT.of (by assumption)⟩) | (with_reducible exact ⟨_, SqL.of (by assumption)⟩) | omega | exact Nat.le_of_ble_eq_true rfl | exact nat9 (by omega) | (show _ ≤ sizeLine; decide) | exact ⟨by decide, by decide, by decide⟩ | exact .inl ⟨by decide, by decide⟩ | exact .inl ⟨by omega, by omega⟩ | exact .inr ⟨by omega, by omega⟩ | assumption | fail) | ((with_reducible refine iteF' ?_ ?_); first | rfl | exact decide_eq_false (by omega) | (simp <;> fail) | fail) | ((with_reducible refine iteT' ?_ ?_); first | rfl | exact decide_eq_true (by omega) | (simp <;> fail) | fail))
              refine .inr ⟨x, b, ms, rfl, hl, lok, .inr ⟨33 + z, congrArg V.int (by omega), by omega, by omega, .inr ⟨by omega, .inl ⟨.inl (by omega), fun Hz Sz dd hdd => ⟨dd, "states", rfl, upd_same, .inr (.inr (.inr ⟨rfl, fun tq Hb Sb g_tq => ?_⟩))⟩⟩⟩⟩⟩
              have Sd := Sz.trans ((same_new (o := .xd [(("part" : Str), .str "states")]) hdd).trans Sb)
              replace M := M.same Sd; replace hl := hl.same Sd
              clear Sd Sz hdd Sb
              repeat (first | (with_reducible refine st_i0 rfl rfl rfl ?_) | ((with_reducible refine st_i rfl rfl ?_ rfl ?_); first | omega | exact ⟨by decide, by decide, by decide⟩ | exact .inl ⟨by decide, by decide⟩ | exact .inl ⟨by omega, by omega⟩ | exact .inr ⟨by omega, by omega⟩ | fail) | ((fail_if_success refine Exists.intro (α := Nat → Nat → L2.St → Hp → Prop) ?_ ?_); (fail_if_success refine Exists.intro (α := L2.St → Hp → Prop) ?_ ?_); (fail_if_success refine Exists.intro (α := Nat → L2.St → Hp → Prop) ?_ ?_); apply Exists.intro) | ((refine And.intro ?_ ?_); first | with_reducible rfl | with_reducible assumption | rfl | ((with_reducible apply SqL.of); assumption) | ((with_reducible apply SqT.of); assumption) | ((with_reducible apply OwnC.cl); assumption) | (with_reducible exact isI_int _) | (with_reducible exact upd_same) | ((with_reducible apply Mid.o); assumption) | ((with_reducible apply Mid.t); assumption) | (with_reducible exact ⟨_, SqT.of (by assumption)⟩) | (with_reducible exact ⟨_, SqL.of (by assumption)⟩) | omega | exact Nat.le_of_ble_eq_true rfl | exact nat9 (by omega) | (show _ ≤ sizeLine; decide) | exact ⟨by decide, by decide, by decide⟩ | exact .inl ⟨by decide, by decide⟩ | exact .inl ⟨by omega, by omega⟩ | exact .inr ⟨by omega, by omega⟩ | assumption | fail) | ((with_reducible refine iteF' ?_ ?_); first | rfl | exact decide_eq_false (by omega) | (simp <;> fail) | fail) | ((with_reducible refine iteT' ?_ ?_); first | rfl | exact decide_eq_true (by omega) | (simp <;> fail) | fail))
              intro tr htr
              generalize hE : upd _ tr _ = H21
              obtain ⟨Sr, g_r⟩ := new_facts htr hE
              replace M := M.same Sr; replace hl := hl.same Sr
              replace g_tq := Sr _ _ g_tq
              refine ⟨.tuple [.str "misfit", .str "states"], .tuple [.str "misfit", .str "states"], Dp.tup (SqT.of g_tq) (.cons (.str _) (.cons (.str _) .nil)), Dp.tup (SqT.of g_r) (.cons (.str _) (.cons (.str _) .nil)), (by decide +kernel), (by decide +kernel), ?_⟩
              rw [SeqAt.eqv_refl _ (by decide +kernel)]
              exact k _ (M.mono (by omega))
    obtain ⟨t, h1, h2⟩ := t0
    exact ⟨t, h1.nox, h2⟩
end
end K33
namespace K33
open PySem PySem.Spec PyProof.Rows L2 OB SkE LamX MD
def Kq (p h : Addr) (H H' : Hp) : Prop := ∀ q o, H q = some o → q ≠ p → q ≠ h → (∀ ps, o ≠ .tbl ps) → H' q = some o
theorem Kq.refl {p h : Addr} {H : Hp} : Kq p h H H := fun _ _ e _ _ _ => e
theorem Kq.trans {p h : Addr} {H H1 H2 : Hp} (a : Kq p h H H1) (b : Kq p h H1 H2) : Kq p h H H2 := fun q o e n m t => b q o (a q o e n m t) n m t
theorem Kq.same {p h : Addr} {H H' : Hp} (s : Same H H') : Kq p h H H' := fun q o e _ _ _ => s q o e
theorem Kq.ext {p h : Addr} {H H' : Hp} (s : ExtN H H') : Kq p h H H' := fun q o e _ _ t => s q o e t
theorem Kq.but {p h : Addr} {H H' : Hp} (s : But p H H') : Kq p h H H' := fun q o e n _ _ => s q o e n
theorem Kq.upd {p h : Addr} {H : Hp} {o : HO} : Kq p h H (upd H h o) := fun q u e _ n _ => by
  rw [upd_ne n]
  exact e
theorem res_tup2 {H H' : Hp} (h : ∀ t xs, H t = some (.tup xs) → H' t = some (.tup xs)) : ∀ {vs : List V} {ks : List (Option (Str × Str))}, Res H vs ks → Res H' vs ks
  | [], [], _ => trivial
  | v :: r, none :: ks, ⟨a, b⟩ => ⟨a, res_tup2 h b⟩
  | v :: r, some k :: ks, ⟨⟨t, e, ht⟩, b⟩ => ⟨⟨t, e, h _ _ ht⟩, res_tup2 h b⟩
/-- what was heard so far, in the list at h; draws may come between -/
structure Lq (T : List (Addr × Str)) (p b0 n h : Addr) (H0 H : Hp) (vs : List V) (ks : List (Option (Str × Str))) : Prop where
  kp : Kq p h H0 H
  mid : Mid T p b0 n H
  at' : H h = some (.lst vs)
  n1 : h ≠ p
  n2 : b0 ≠ h
  res : Res H vs ks
theorem Lq.step {T : List (Addr × Str)} {p b0 n m h : Addr} {H0 H Ha Hb : Hp} {vs : List V} {ks : List (Option (Str × Str))} {v : V} {k : Option (Str × Str)} (s : Lq T p b0 n h H0 H vs ks) (ea : ExtN H Ha) (B : Kq p h Ha Hb) (at1 : Hb h = some (.lst vs)) (M : Mid T p b0 m Hb) (e : Ent Hb v k) :
    Hb h = some (.lst vs) ∧ Lq T p b0 m h H0 (upd Hb h (.lst (vs ++ [v]))) (vs ++ [v]) (ks ++ [k]) := by
  have nt : ∀ {t : Addr} {xs : List V}, Hb t = some (.tup xs) → t ≠ h := fun {t xs} e z => by
    rw [z, at1] at e
    cases e
  have na : ∀ {t : Addr} {xs : List V}, H t = some (.tup xs) → t ≠ h ∧ t ≠ p := fun {t xs} e => by
    refine ⟨fun z => ?_, fun z => ?_⟩
    · rw [z, s.at'] at e
      cases e
    · obtain ⟨_, _, _, hp, _⟩ := s.mid.o
      rw [z, hp] at e
      cases e
  refine ⟨at1, ((s.kp.trans (.ext ea)).trans B).trans .upd, M.put at1 s.n1 s.n2, upd_same, s.n1, s.n2, ?_⟩
  have r1 : Res Hb vs ks := res_tup2 (fun t xs z => B _ _ (ea _ _ z fun _ y => nomatch y) (na z).2 (na z).1 fun _ y => nomatch y) s.res
  refine Res.snoc ?_ (res_tup2 (fun t xs z => by rw [upd_ne (nt z)]; exact z) r1)
  cases k with
  | none => exact e
  | some k =>
    obtain ⟨t, ev, ht⟩ := e
    exact ⟨t, ev, by rw [upd_ne (nt ht)]; exact ht⟩
theorem Lq.sstep {T : List (Addr × Str)} {p b0 n h : Addr} {H0 H Ha Hb : Hp} {vs : List V} {ks : List (Option (Str × Str))} {v : V} {k : Option (Str × Str)} (s : Lq T p b0 n h H0 H vs ks) (ea : ExtN H Ha) (Ta : Tabs T Ha) (S : Same Ha Hb) (e : Ent Hb v k) :
    Hb h = some (.lst vs) ∧ Lq T p b0 n h H0 (upd Hb h (.lst (vs ++ [v]))) (vs ++ [v]) (ks ++ [k]) :=
  s.step ea (.same S) (S _ _ (ea _ _ s.at' fun _ z => nomatch z)) ((s.mid.ext ea Ta).same S) e
theorem Lq.begin {T : List (Addr × Str)} {p b0 n h : Addr} {H0 H : Hp} {v : V} {k : Option (Str × Str)} (S : Kq p h H0 H) (m : Mid T p b0 n H) (hh : H h = none) (e : Ent H v k) : Lq T p b0 n h H0 (upd H h (.lst [v])) [v] [k] :=
  ⟨S.trans .upd, m.same (same_new hh), upd_same, m.pD hh, m.bD hh, ⟨e.keep (.same (same_new hh)), trivial⟩⟩
theorem res_new2 {H : Hp} {q : Addr} {a b : Str} {vs : List V} {ks : List (Option (Str × Str))} (h : H q = none) (r : Res H vs ks) : Res (upd H q (.tup [.str a, .str b])) (vs ++ [.ref q]) (ks ++ [some (a, b)]) :=
  Res.snoc (k := some (a, b)) ⟨q, rfl, upd_same⟩ (r.keep (.same (same_new h)))
theorem layinit_mono {C : Addr} : SpMonoQ (spLayInit C) := fun vs H Q1 Q2 h ⟨p, dx, q, b, ms, e, ok, hq, hp, k⟩ => ⟨p, dx, q, b, ms, e, ok, hq, hp, fun H' a b => h _ _ (k H' a b)⟩
theorem IsLay.kq {H H' : Hp} {C x p h : Addr} {b : Nat} {ms : List (Option Nat)} {xs : List V} (hl : IsLay H C x b ms) (hh : H h = none) (hp : H p = some (.lst xs)) (s : Kq p h H H') : IsLay H' C x b ms := by
  obtain ⟨dx, fs, t, h1, h2, h3, h4⟩ := hl
  exact ⟨dx, fs, t, s _ _ h1 (ne_of h1 hp (by intro z; cases z)) (ne_of_none h1 hh) (fun _ z => nomatch z), h2, h3, s _ _ h4 (ne_of h4 hp (by intro z; cases z)) (ne_of_none h4 hh) (fun _ z => nomatch z)⟩
def ms6 : List (Option Nat) := List.replicate 63 none ++ [some 31]
theorem ok6 : LayOk 6 ms6 := ⟨by decide, by decide, by decide +kernel, fun n hn => by
  rcases List.mem_append.mp hn with h | h
  · exact absurd (List.eq_of_mem_replicate h) (by simp)
  · have := Option.some.inj (List.mem_singleton.mp h)
    omega⟩
theorem okr (b n : Nat) (h1 : 1 ≤ b) (h8 : b ≤ 8) (hn : n ≤ 63) : LayOk b (List.replicate (2 ^ b) (some n)) := ⟨h1, h8, List.length_replicate, fun t ht => by
  have := Option.some.inj (List.eq_of_mem_replicate ht)
  omega⟩
theorem g6 : grt 31 ms6 = true := grt_yes (List.mem_append_right _ List.mem_cons_self)
theorem g6' : grt 32 ms6 = false := grt_of fun t ht => by
  rcases List.mem_append.mp ht with h | h
  · exact absurd (List.eq_of_mem_replicate h) (by simp)
  · have := Option.some.inj (List.mem_singleton.mp h)
    omega
def dueK : List (Option (Str × Str)) := [some ("layout", "layout"), some ("number", "states"), some ("misfit", "bits"), some ("misfit", "bits"), some ("misfit", "states"), none, some ("code", "code")]
section
variable {P : Program} {w : World} {K : PySem.W.Frag} {mg : Str → Option Value} {base : Heap}
theorem sc__law_refused_right : FnScope ["barn", "none", "odd", "wide", "heard", "due"] ["barn"] (defScope s__law_refused_right) := ⟨rfl, rfl, rfl, by decide +kernel, rfl, by decide +kernel, by decide +kernel⟩
abbrev N__law_refused_right : List Str := ["barn", "none", "odd", "wide", "heard", "due"]
theorem ok__law_refused_right {f f1 f2 f3 f5 f6 fI fL L C CF CC CL CN CM c Pa Pb Pc : Addr} {fd1 fd2 fd3 fd5 fd6 fdL : FuncData} {oc kV doc pm ct : Value} {od an : Option Addr} {osl : Array (Option Value)} (T : Blt mg)
    (lk : K.lookup f = some ⟨oc, od, .func (PySem.W.fnOf "_law_refused_right" "_law_refused_right" (defArgs s__law_refused_right) (defBody s__law_refused_right) (defScope s__law_refused_right) .none kV doc pm an (.ref c) ct), osl⟩) (hcd : PySem.W.codeIn K (.ref c) "_law_refused_right" = true)
    (TB : TabB base mg c Pc) (hu : ∀ p ∈ TB3 Pa Pb Pc, p.1 = Pc → p.2 = LQc) (Z : Kinds K mg CF CC CL CN CM) (O_Code : OwnC K mg "Code" C fI) (O_Layout : OwnC K mg "Layout" L fL)
    (D__law_heard : Df K mg "_law_heard" s__law_heard ["ask"] f1 fd1) (D__law_stack : Df K mg "_law_stack" s__law_stack ["barn", "many"] f2 fd2) (D__law_pick : Df K mg "_law_pick" s__law_pick ["barn", "some"] f3 fd3) (D_listed : Df K mg "listed" s_listed ["code"] f5 fd5) (GX_listed : FnOk P w K mg base (L2.CX P w) 8 f5 fd5 ["code"] (spListed K C L CC CM)) (D_doubled : Df K mg "doubled" s_doubled ["layout", "states"] f6 fd6) (GX_doubled : FnOk P w K mg base (L2.CX P w) 8 f6 fd6 ["layout", "states"] (spDoubled K L CL CN CM))
    (b_Layout_init : L2.Binds K fdL ["self", "bits", "means"] []) (G_Layout_init : FnOk P w K mg base CX0 4 fL fdL ["self", "bits", "means"] (spLayInit L)) :
    FnOk P w K mg base CX0 14 f (PySem.W.fnOf "_law_refused_right" "_law_refused_right" (defArgs s__law_refused_right) (defBody s__law_refused_right) (defScope s__law_refused_right) .none kV doc pm an (.ref c) ct) ["barn"] (spStep (TB3 Pa Pb Pc) 20) := by
  have G__law_stack : FnOk P w K mg base CX0 1 f2 fd2 ["barn", "many"] spDraw := ok__law_stack D__law_stack.F T
  have G__law_pick : FnOk P w K mg base CX0 2 f3 fd3 ["barn", "some"] spOne := ok__law_pick D__law_pick.F T D__law_stack
  obtain ⟨ocH, odH, kVH, docH, pmH, anH, cdvH, ctH, oslH, eH, lkH, hcH⟩ := D__law_heard.F.ex
  subst eH
  refine fn_of lk hcd sc__law_refused_right (fun vs H Q E h => ?_) fun A outer s H vs Q E hr h => ?_
  · obtain ⟨p, b0, n, rfl, _⟩ := h
    rfl
  · obtain ⟨p, b0, n, rfl, M, hn, k⟩ := h
    have t0 : ∃ t, PSs (cxOf CX0 P w K mg base ["barn", "none", "odd", "wide", "heard", "due"] "_law_refused_right" (defScope s__law_refused_right) f (.ref c) A outer s H E).nox (defBody s__law_refused_right) t ∧ t { nx := fun _ H' => Q .non H', rt := Q } (L2.start ["barn", "none", "odd", "wide", "heard", "due"] [.ref p]) H := by
      refine ⟨_, (pss_cons (ps_set (i := 1) sc__law_refused_right.nd rfl (Or.inr rfl) (pe_call G__law_pick (hr.mono (by decide)) (by rfl) D__law_pick.g D__law_pick.F.kp D__law_pick.b .nil pass0 (pa_cons (pv 0) (pa_cons (pe_lst (pa_cons pe_non (pa_cons pe_int (pa_cons pe_str (pa_cons (pe_tup (pa_cons pe_int (pa_cons pe_int pa_nil))) (pa_cons pe_bl (pa_cons (pe_lst (pa_cons (pe_make O_Layout.made G_Layout_init (hr.mono (by decide)) (by rfl) O_Layout.g b_Layout_init .nil pass0 (pa_cons pe_int (pa_cons (pe_lst (pa_cons pe_int (pa_cons pe_int pa_nil))) pa_nil))) pa_nil)) pa_nil))))))) pa_nil))))
  (pss_cons (ps_set (i := 2) sc__law_refused_right.nd rfl (Or.inr rfl) (pe_call G__law_pick (hr.mono (by decide)) (by rfl) D__law_pick.g D__law_pick.F.kp D__law_pick.b .nil pass0 (pa_cons (pv 0) (pa_cons (pe_lst (pa_cons pe_non (pa_cons pe_int (pa_cons pe_int (pa_cons (pe_un un_neg pe_int) (pa_cons pe_bl (pa_cons pe_str (pa_cons (pe_lst (pa_cons pe_int pa_nil)) (pa_cons (pe_op op_pow pe_int pe_int) pa_nil))))))))) pa_nil))))
  (pss_cons (ps_set (i := 3) sc__law_refused_right.nd rfl (Or.inr rfl) (pe_make O_Layout.made G_Layout_init (hr.mono (by decide)) (by rfl) O_Layout.g b_Layout_init .nil pass0 (pa_cons pe_int (pa_cons (pe_op op_rep (pe_lst (pa_cons (pe_call G__law_stack (hr.mono (by decide)) (by rfl) D__law_stack.g D__law_stack.F.kp D__law_stack.b .nil pass0 (pa_cons (pv 0) (pa_cons pe_int pa_nil))) pa_nil)) pe_int) pa_nil))))
  (pss_cons (ps_set (i := 4) sc__law_refused_right.nd rfl (Or.inl rfl) (pe_lst (pa_cons (pe_lam (T := TB3 Pa Pb Pc) (vs := []) (TT := TTheard CC CL CN CM) (k := 9) (nm := []) (dts := []) (t := fun E => tCallS (spDoubled K L CL CN CM) (WE fun cls d _ H => E cls d H) (tCons (tVar 1) (tCons (tVar 2) tNil))) (by rfl) D__law_heard.g D__law_heard.F.kp lkH hcH D__law_heard.b sc__law_heard rfl (Or.inl rfl) (heard_gives Z T) TB rfl mem3_3 hu (hr.mono (by decide)) (lamN_by (sc := defScope s__law_refused_right) (N := N__law_refused_right) (by decide +kernel)) (.inl ⟨rfl, rfl⟩) (bind_0 fun _ _ _ _ _ _ _ => rfl) (mono_S doubled_mono (mta_cons mte_var (mta_cons mte_var mta_nil))) pa_nil (fun _ _ _ => rfl) rfl (fun A outer s H E f c' hr2 => pe_callS GX_doubled (hr2.mono (by decide)) (by rfl) D_doubled.g D_doubled.F.kp D_doubled.b (fun σ => passAt (takes_of rfl rfl rfl rfl) σ) (pa_cons (pv 1) (pa_cons (pv 2) pa_nil)))) pa_nil)))
  (pss_cons (ps_expr (pe_bm PySem.F.plainAttrs_list PySem.F.slot_list_append PySem.F.type_list_append mt_append (pv 4) (pa_cons (pe_lam (T := TB3 Pa Pb Pc) (vs := []) (TT := TTheard CC CL CN CM) (k := 9) (nm := []) (dts := []) (t := fun E => tCallS (spDoubled K L CL CN CM) (WE fun cls d _ H => E cls d H) (tCons (tVar 3) (tCons (tVar 2) tNil))) (by rfl) D__law_heard.g D__law_heard.F.kp lkH hcH D__law_heard.b sc__law_heard rfl (Or.inl rfl) (heard_gives Z T) TB rfl mem3_3 hu (hr.mono (by decide)) (lamN_by (sc := defScope s__law_refused_right) (N := N__law_refused_right) (by decide +kernel)) (.inl ⟨rfl, rfl⟩) (bind_0 fun _ _ _ _ _ _ _ => rfl) (mono_S doubled_mono (mta_cons mte_var (mta_cons mte_var mta_nil))) pa_nil (fun _ _ _ => rfl) rfl (fun A outer s H E f c' hr2 => pe_callS GX_doubled (hr2.mono (by decide)) (by rfl) D_doubled.g D_doubled.F.kp D_doubled.b (fun σ => passAt (takes_of rfl rfl rfl rfl) σ) (pa_cons (pv 3) (pa_cons (pv 2) pa_nil)))) pa_nil)))
  (pss_cons (ps_expr (pe_bm PySem.F.plainAttrs_list PySem.F.slot_list_append PySem.F.type_list_append mt_append (pv 4) (pa_cons (pe_lam (T := TB3 Pa Pb Pc) (vs := []) (TT := TTheard CC CL CN CM) (k := 9) (nm := []) (dts := []) (t := fun E => tCallS (spDoubled K L CL CN CM) (WE fun cls d _ H => E cls d H) (tCons (tVar 3) (tCons (tOp (rI0 fun i j => V.int (i + j)) (tC (.int 1)) (tCall spDraw [] E0 (tCons (tVar 0) (tCons (tC (.int 64)) tNil)))) tNil))) (by rfl) D__law_heard.g D__law_heard.F.kp lkH hcH D__law_heard.b sc__law_heard rfl (Or.inl rfl) (heard_gives Z T) TB rfl mem3_3 hu (hr.mono (by decide)) (lamN_by (sc := defScope s__law_refused_right) (N := N__law_refused_right) (by decide +kernel)) (.inl ⟨rfl, rfl⟩) (bind_0 fun _ _ _ _ _ _ _ => rfl) (mono_S doubled_mono (mta_cons mte_var (mta_cons (mte_i0 mte_c (mte_call draw_mono (mta_cons mte_var (mta_cons mte_c mta_nil)))) mta_nil))) pa_nil (fun _ _ _ => rfl) rfl (fun A outer s H E f c' hr2 => pe_callS GX_doubled (hr2.mono (by decide)) (by rfl) D_doubled.g D_doubled.F.kp D_doubled.b (fun σ => passAt (takes_of rfl rfl rfl rfl) σ) (pa_cons (pv 3) (pa_cons (pe_op op_add pe_int (pe_call G__law_stack (hr2.mono (by decide)) (by rfl) D__law_stack.g D__law_stack.F.kp D__law_stack.b .nil pass0 (pa_cons (pv 0) (pa_cons pe_int pa_nil)))) pa_nil)))) pa_nil)))
  (pss_cons (ps_expr (pe_bm PySem.F.plainAttrs_list PySem.F.slot_list_append PySem.F.type_list_append mt_append (pv 4) (pa_cons (pe_lam (T := TB3 Pa Pb Pc) (vs := []) (TT := TTheard CC CL CN CM) (k := 9) (nm := []) (dts := []) (t := fun E => tCallS (spDoubled K L CL CN CM) (WE fun cls d _ H => E cls d H) (tCons (tMake L (spLayInit L) [] E0 (tCons (tC (.int 8)) (tCons (tOp rRep (tLst (tCons (tC (.int 5)) tNil)) (tC (.int 256))) tNil))) (tCons (tC (.int 3)) tNil))) (by rfl) D__law_heard.g D__law_heard.F.kp lkH hcH D__law_heard.b sc__law_heard rfl (Or.inl rfl) (heard_gives Z T) TB rfl mem3_3 hu (hr.mono (by decide)) (lamN_by (sc := defScope s__law_refused_right) (N := N__law_refused_right) (by decide +kernel)) (.inl ⟨rfl, rfl⟩) (bind_0 fun _ _ _ _ _ _ _ => rfl) (mono_S doubled_mono (mta_cons (mte_make layinit_mono (mta_cons mte_c (mta_cons (mte_op mono_Rep (mte_lst (mta_cons mte_c mta_nil)) mte_c) mta_nil))) (mta_cons mte_c mta_nil))) pa_nil (fun _ _ _ => rfl) rfl (fun A outer s H E f c' hr2 => pe_callS GX_doubled (hr2.mono (by decide)) (by rfl) D_doubled.g D_doubled.F.kp D_doubled.b (fun σ => passAt (takes_of rfl rfl rfl rfl) σ) (pa_cons (pe_make O_Layout.made G_Layout_init (hr2.mono (by decide)) (by rfl) O_Layout.g b_Layout_init .nil pass0 (pa_cons pe_int (pa_cons (pe_op op_rep (pe_lst (pa_cons pe_int pa_nil)) pe_int) pa_nil))) (pa_cons pe_int pa_nil)))) pa_nil)))
  (pss_cons (ps_expr (pe_bm PySem.F.plainAttrs_list PySem.F.slot_list_append PySem.F.type_list_append mt_append (pv 4) (pa_cons (pe_lam (T := TB3 Pa Pb Pc) (vs := []) (TT := TTheard CC CL CN CM) (k := 9) (nm := []) (dts := []) (t := fun E => tCallS (spDoubled K L CL CN CM) (WE fun cls d _ H => E cls d H) (tCons (tMake L (spLayInit L) [] E0 (tCons (tC (.int 6)) (tCons (tOp rCat (tOp rRep (tLst (tCons (tC .non) tNil)) (tC (.int 63))) (tLst (tCons (tC (.int 31)) tNil))) tNil))) (tCons (tC (.int 31)) tNil))) (by rfl) D__law_heard.g D__law_heard.F.kp lkH hcH D__law_heard.b sc__law_heard rfl (Or.inl rfl) (heard_gives Z T) TB rfl mem3_3 hu (hr.mono (by decide)) (lamN_by (sc := defScope s__law_refused_right) (N := N__law_refused_right) (by decide +kernel)) (.inl ⟨rfl, rfl⟩) (bind_0 fun _ _ _ _ _ _ _ => rfl) (mono_S doubled_mono (mta_cons (mte_make layinit_mono (mta_cons mte_c (mta_cons (mte_op mono_Cat (mte_op mono_Rep (mte_lst (mta_cons mte_c mta_nil)) mte_c) (mte_lst (mta_cons mte_c mta_nil))) mta_nil))) (mta_cons mte_c mta_nil))) pa_nil (fun _ _ _ => rfl) rfl (fun A outer s H E f c' hr2 => pe_callS GX_doubled (hr2.mono (by decide)) (by rfl) D_doubled.g D_doubled.F.kp D_doubled.b (fun σ => passAt (takes_of rfl rfl rfl rfl) σ) (pa_cons (pe_make O_Layout.made G_Layout_init (hr2.mono (by decide)) (by rfl) O_Layout.g b_Layout_init .nil pass0 (pa_cons pe_int (pa_cons (pe_op op_cat (pe_op op_rep (pe_lst (pa_cons pe_non pa_nil)) pe_int) (pe_lst (pa_cons pe_int pa_nil))) pa_nil))) (pa_cons pe_int pa_nil)))) pa_nil)))
  (pss_cons (ps_expr (pe_bm PySem.F.plainAttrs_list PySem.F.slot_list_append PySem.F.type_list_append mt_append (pv 4) (pa_cons (pe_lam (T := TB3 Pa Pb Pc) (vs := []) (TT := TTheard CC CL CN CM) (k := 9) (nm := []) (dts := []) (t := fun E => tCallS (spDoubled K L CL CN CM) (WE fun cls d _ H => E cls d H) (tCons (tMake L (spLayInit L) [] E0 (tCons (tC (.int 6)) (tCons (tOp rCat (tOp rRep (tLst (tCons (tC .non) tNil)) (tC (.int 63))) (tLst (tCons (tC (.int 31)) tNil))) tNil))) (tCons (tC (.int 32)) tNil))) (by rfl) D__law_heard.g D__law_heard.F.kp lkH hcH D__law_heard.b sc__law_heard rfl (Or.inl rfl) (heard_gives Z T) TB rfl mem3_3 hu (hr.mono (by decide)) (lamN_by (sc := defScope s__law_refused_right) (N := N__law_refused_right) (by decide +kernel)) (.inl ⟨rfl, rfl⟩) (bind_0 fun _ _ _ _ _ _ _ => rfl) (mono_S doubled_mono (mta_cons (mte_make layinit_mono (mta_cons mte_c (mta_cons (mte_op mono_Cat (mte_op mono_Rep (mte_lst (mta_cons mte_c mta_nil)) mte_c) (mte_lst (mta_cons mte_c mta_nil))) mta_nil))) (mta_cons mte_c mta_nil))) pa_nil (fun _ _ _ => rfl) rfl (fun A outer s H E f c' hr2 => pe_callS GX_doubled (hr2.mono (by decide)) (by rfl) D_doubled.g D_doubled.F.kp D_doubled.b (fun σ => passAt (takes_of rfl rfl rfl rfl) σ) (pa_cons (pe_make O_Layout.made G_Layout_init (hr2.mono (by decide)) (by rfl) O_Layout.g b_Layout_init .nil pass0 (pa_cons pe_int (pa_cons (pe_op op_cat (pe_op op_rep (pe_lst (pa_cons pe_non pa_nil)) pe_int) (pe_lst (pa_cons pe_int pa_nil))) pa_nil))) (pa_cons pe_int pa_nil)))) pa_nil)))
  (pss_cons (ps_expr (pe_bm PySem.F.plainAttrs_list PySem.F.slot_list_append PySem.F.type_list_append mt_append (pv 4) (pa_cons (pe_lam (T := TB3 Pa Pb Pc) (vs := []) (TT := TTheard CC CL CN CM) (k := 9) (nm := []) (dts := []) (t := fun E => tCallS (spListed K C L CC CM) (WE fun cls d _ H => E cls d H) (tCons (tVar 1) tNil)) (by rfl) D__law_heard.g D__law_heard.F.kp lkH hcH D__law_heard.b sc__law_heard rfl (Or.inl rfl) (heard_gives Z T) TB rfl mem3_3 hu (hr.mono (by decide)) (lamN_by (sc := defScope s__law_refused_right) (N := N__law_refused_right) (by decide +kernel)) (.inl ⟨rfl, rfl⟩) (bind_0 fun _ _ _ _ _ _ _ => rfl) (mono_S listed_mono (mta_cons mte_var mta_nil)) pa_nil (fun _ _ _ => rfl) rfl (fun A outer s H E f c' hr2 => pe_callS GX_listed (hr2.mono (by decide)) (by rfl) D_listed.g D_listed.F.kp D_listed.b (fun σ => passAt (takes_of rfl rfl rfl rfl) σ) (pa_cons (pv 1) pa_nil))) pa_nil)))
  (pss_cons (ps_set (i := 5) sc__law_refused_right.nd rfl (Or.inl rfl) (pe_lst (pa_cons (pe_tup (pa_cons pe_str (pa_cons pe_str pa_nil))) (pa_cons (pe_tup (pa_cons pe_str (pa_cons pe_str pa_nil))) (pa_cons (pe_tup (pa_cons pe_str (pa_cons pe_str pa_nil))) (pa_cons (pe_tup (pa_cons pe_str (pa_cons pe_str pa_nil))) (pa_cons (pe_tup (pa_cons pe_str (pa_cons pe_str pa_nil))) (pa_cons pe_non (pa_cons (pe_tup (pa_cons pe_str (pa_cons pe_str pa_nil))) pa_nil)))))))))
  (pss_one (ps_ret (pe_cmpR (op_eqD hr.units) (pv 4) (pv 5) (nomark _))))))))))))))), ?_⟩
      repeat (first | (with_reducible refine st_i0 rfl rfl rfl ?_) | ((with_reducible refine st_i rfl rfl ?_ rfl ?_); first | omega | exact ⟨by decide, by decide, by decide⟩ | exact .inl ⟨by decide, by decide⟩ | exact .inl ⟨by omega, by omega⟩ | exact .inr ⟨by omega, by omega⟩ | fail) | ((fail_if_success refine Exists.intro (α := Nat → Nat → L2.St → Hp → Prop) ?_ ?_); (fail_if_success refine Exists.intro (α := L2.St → Hp → Prop) ?_ ?_); (fail_if_success refine Exists.intro (α := Nat → L2.St → Hp → Prop) ?_ ?_); apply Exists.intro) | ((refine And.intro ?_ ?_); first | with_reducible rfl | with_reducible assumption | rfl | ((with_reducible apply SqL.of); assumption) | ((with_reducible apply SqT.of); assumption) | ((with_reducible apply OwnC.cl); assumption) | (with_reducible exact isI_int _) | (with_reducible exact upd_same) | ((with_reducible apply Mid.o); assumption) | ((with_reducible apply Mid.t); assumption) | (with_reducible exact ⟨_, SqT.of (by assumption)⟩) | (with_reducible exact ⟨_, SqL.of (by assumption)⟩) | omega | exact Nat.le_of_ble_eq_true rfl | exact nat9 (by omega) | (show _ ≤ sizeLine; decide) | exact ⟨by decide, by decide, by decide⟩ | exact .inl ⟨by decide, by decide⟩ | exact .inl ⟨by omega, by omega⟩ | exact .inr ⟨by omega, by omega⟩ | assumption | fail) | ((with_reducible refine iteF' ?_ ?_); first | rfl | exact decide_eq_false (by omega) | (simp <;> fail) | fail) | ((with_reducible refine iteT' ?_ ?_); first | rfl | exact decide_eq_true (by omega) | (simp <;> fail) | fail))
      intro a1 h_a1; have np_a1 := M.pD h_a1; have nb_a1 := M.bD h_a1; generalize hE : upd _ a1 _ = H1; obtain ⟨S_a1, g_a1⟩ := new_facts h_a1 hE; clear hE; replace M := M.same S_a1
      repeat (first | (with_reducible refine st_i0 rfl rfl rfl ?_) | ((with_reducible refine st_i rfl rfl ?_ rfl ?_); first | omega | exact ⟨by decide, by decide, by decide⟩ | exact .inl ⟨by decide, by decide⟩ | exact .inl ⟨by omega, by omega⟩ | exact .inr ⟨by omega, by omega⟩ | fail) | ((fail_if_success refine Exists.intro (α := Nat → Nat → L2.St → Hp → Prop) ?_ ?_); (fail_if_success refine Exists.intro (α := L2.St → Hp → Prop) ?_ ?_); (fail_if_success refine Exists.intro (α := Nat → L2.St → Hp → Prop) ?_ ?_); apply Exists.intro) | ((refine And.intro ?_ ?_); first | with_reducible rfl | with_reducible assumption | rfl | ((with_reducible apply SqL.of); assumption) | ((with_reducible apply SqT.of); assumption) | ((with_reducible apply OwnC.cl); assumption) | (with_reducible exact isI_int _) | (with_reducible exact upd_same) | ((with_reducible apply Mid.o); assumption) | ((with_reducible apply Mid.t); assumption) | (with_reducible exact ⟨_, SqT.of (by assumption)⟩) | (with_reducible exact ⟨_, SqL.of (by assumption)⟩) | omega | exact Nat.le_of_ble_eq_true rfl | exact nat9 (by omega) | (show _ ≤ sizeLine; decide) | exact ⟨by decide, by decide, by decide⟩ | exact .inl ⟨by decide, by decide⟩ | exact .inl ⟨by omega, by omega⟩ | exact .inr ⟨by omega, by omega⟩ | assumption | fail) | ((with_reducible refine iteF' ?_ ?_); first | rfl | exact decide_eq_false (by omega) | (simp <;> fail) | fail) | ((with_reducible refine iteT' ?_ ?_); first | rfl | exact decide_eq_true (by omega) | (simp <;> fail) | fail))
      intro l0 h_l0; have np_l0 := M.pD h_l0; have nb_l0 := M.bD h_l0; generalize hE : upd _ l0 _ = H2; obtain ⟨S_l0, g_l0⟩ := new_facts h_l0 hE; clear hE; replace M := M.same S_l0; replace g_a1 := S_l0 _ _ g_a1
      repeat (first | (with_reducible refine st_i0 rfl rfl rfl ?_) | ((with_reducible refine st_i rfl rfl ?_ rfl ?_); first | omega | exact ⟨by decide, by decide, by decide⟩ | exact .inl ⟨by decide, by decide⟩ | exact .inl ⟨by omega, by omega⟩ | exact .inr ⟨by omega, by omega⟩ | fail) | ((fail_if_success refine Exists.intro (α := Nat → Nat → L2.St → Hp → Prop) ?_ ?_); (fail_if_success refine Exists.intro (α := L2.St → Hp → Prop) ?_ ?_); (fail_if_success refine Exists.intro (α := Nat → L2.St → Hp → Prop) ?_ ?_); apply Exists.intro) | ((refine And.intro ?_ ?_); first | with_reducible rfl | with_reducible assumption | rfl | ((with_reducible apply SqL.of); assumption) | ((with_reducible apply SqT.of); assumption) | ((with_reducible apply OwnC.cl); assumption) | (with_reducible exact isI_int _) | (with_reducible exact upd_same) | ((with_reducible apply Mid.o); assumption) | ((with_reducible apply Mid.t); assumption) | (with_reducible exact ⟨_, SqT.of (by assumption)⟩) | (with_reducible exact ⟨_, SqL.of (by assumption)⟩) | omega | exact Nat.le_of_ble_eq_true rfl | exact nat9 (by omega) | (show _ ≤ sizeLine; decide) | exact ⟨by decide, by decide, by decide⟩ | exact .inl ⟨by decide, by decide⟩ | exact .inl ⟨by omega, by omega⟩ | exact .inr ⟨by omega, by omega⟩ | assumption | fail) | ((with_reducible refine iteF' ?_ ?_); first | rfl | exact decide_eq_false (by omega) | (simp <;> fail) | fail) | ((with_reducible refine iteT' ?_ ?_); first | rfl | exact decide_eq_true (by omega) | (simp <;> fail) | fail))
      intro x1 dx1 nx ndx nex
      refine make_lay (b := 1) (ms := [some 0, some 1]) ⟨by decide, by decide, rfl, fun n hn => by simp at hn; omega⟩ (.inl g_l0) nx ndx fun H3 S3 L1 => ?_
      replace M := M.same S3; replace g_a1 := S3 _ _ g_a1
      repeat (first | (with_reducible refine st_i0 rfl rfl rfl ?_) | ((with_reducible refine st_i rfl rfl ?_ rfl ?_); first | omega | exact ⟨by decide, by decide, by decide⟩ | exact .inl ⟨by decide, by decide⟩ | exact .inl ⟨by omega, by omega⟩ | exact .inr ⟨by omega, by omega⟩ | fail) | ((fail_if_success refine Exists.intro (α := Nat → Nat → L2.St → Hp → Prop) ?_ ?_); (fail_if_success refine Exists.intro (α := L2.St → Hp → Prop) ?_ ?_); (fail_if_success refine Exists.intro (α := Nat → L2.St → Hp → Prop) ?_ ?_); apply Exists.intro) | ((refine And.intro ?_ ?_); first | with_reducible rfl | with_reducible assumption | rfl | ((with_reducible apply SqL.of); assumption) | ((with_reducible apply SqT.of); assumption) | ((with_reducible apply OwnC.cl); assumption) | (with_reducible exact isI_int _) | (with_reducible exact upd_same) | ((with_reducible apply Mid.o); assumption) | ((with_reducible apply Mid.t); assumption) | (with_reducible exact ⟨_, SqT.of (by assumption)⟩) | (with_reducible exact ⟨_, SqL.of (by assumption)⟩) | omega | exact Nat.le_of_ble_eq_true rfl | exact nat9 (by omega) | (show _ ≤ sizeLine; decide) | exact ⟨by decide, by decide, by decide⟩ | exact .inl ⟨by decide, by decide⟩ | exact .inl ⟨by omega, by omega⟩ | exact .inr ⟨by omega, by omega⟩ | assumption | fail) | ((with_reducible refine iteF' ?_ ?_); first | rfl | exact decide_eq_false (by omega) | (simp <;> fail) | fail) | ((with_reducible refine iteT' ?_ ?_); first | rfl | exact decide_eq_true (by omega) | (simp <;> fail) | fail))
      intro a2 h_a2; have np_a2 := M.pD h_a2; have nb_a2 := M.bD h_a2; generalize hE : upd _ a2 _ = H4; obtain ⟨S_a2, g_a2⟩ := new_facts h_a2 hE; clear hE; replace M := M.same S_a2; replace g_a1 := S_a2 _ _ g_a1
      repeat (first | (with_reducible refine st_i0 rfl rfl rfl ?_) | ((with_reducible refine st_i rfl rfl ?_ rfl ?_); first | omega | exact ⟨by decide, by decide, by decide⟩ | exact .inl ⟨by decide, by decide⟩ | exact .inl ⟨by omega, by omega⟩ | exact .inr ⟨by omega, by omega⟩ | fail) | ((fail_if_success refine Exists.intro (α := Nat → Nat → L2.St → Hp → Prop) ?_ ?_); (fail_if_success refine Exists.intro (α := L2.St → Hp → Prop) ?_ ?_); (fail_if_success refine Exists.intro (α := Nat → L2.St → Hp → Prop) ?_ ?_); apply Exists.intro) | ((refine And.intro ?_ ?_); first | with_reducible rfl | with_reducible assumption | rfl | ((with_reducible apply SqL.of); assumption) | ((with_reducible apply SqT.of); assumption) | ((with_reducible apply OwnC.cl); assumption) | (with_reducible exact isI_int _) | (with_reducible exact upd_same) | ((with_reducible apply Mid.o); assumption) | ((with_reducible apply Mid.t); assumption) | (with_reducible exact ⟨_, SqT.of (by assumption)⟩) | (with_reducible exact ⟨_, SqL.of (by assumption)⟩) | omega | exact Nat.le_of_ble_eq_true rfl | exact nat9 (by omega) | (show _ ≤ sizeLine; decide) | exact ⟨by decide, by decide, by decide⟩ | exact .inl ⟨by decide, by decide⟩ | exact .inl ⟨by omega, by omega⟩ | exact .inr ⟨by omega, by omega⟩ | assumption | fail) | ((with_reducible refine iteF' ?_ ?_); first | rfl | exact decide_eq_false (by omega) | (simp <;> fail) | fail) | ((with_reducible refine iteT' ?_ ?_); first | rfl | exact decide_eq_true (by omega) | (simp <;> fail) | fail))
      intro l h_l; have np_l := M.pD h_l; have nb_l := M.bD h_l; generalize hE : upd _ l _ = H5; obtain ⟨S_l, g_l⟩ := new_facts h_l hE; clear hE; replace M := M.same S_l; replace g_a1 := S_l _ _ g_a1; replace g_a2 := S_l _ _ g_a2
      repeat (first | (with_reducible refine st_i0 rfl rfl rfl ?_) | ((with_reducible refine st_i rfl rfl ?_ rfl ?_); first | omega | exact ⟨by decide, by decide, by decide⟩ | exact .inl ⟨by decide, by decide⟩ | exact .inl ⟨by omega, by omega⟩ | exact .inr ⟨by omega, by omega⟩ | fail) | ((fail_if_success refine Exists.intro (α := Nat → Nat → L2.St → Hp → Prop) ?_ ?_); (fail_if_success refine Exists.intro (α := L2.St → Hp → Prop) ?_ ?_); (fail_if_success refine Exists.intro (α := Nat → L2.St → Hp → Prop) ?_ ?_); apply Exists.intro) | ((refine And.intro ?_ ?_); first | with_reducible rfl | with_reducible assumption | rfl | ((with_reducible apply SqL.of); assumption) | ((with_reducible apply SqT.of); assumption) | ((with_reducible apply OwnC.cl); assumption) | (with_reducible exact isI_int _) | (with_reducible exact upd_same) | ((with_reducible apply Mid.o); assumption) | ((with_reducible apply Mid.t); assumption) | (with_reducible exact ⟨_, SqT.of (by assumption)⟩) | (with_reducible exact ⟨_, SqL.of (by assumption)⟩) | omega | exact Nat.le_of_ble_eq_true rfl | exact nat9 (by omega) | (show _ ≤ sizeLine; decide) | exact ⟨by decide, by decide, by decide⟩ | exact .inl ⟨by decide, by decide⟩ | exact .inl ⟨by omega, by omega⟩ | exact .inr ⟨by omega, by omega⟩ | assumption | fail) | ((with_reducible refine iteF' ?_ ?_); first | rfl | exact decide_eq_false (by omega) | (simp <;> fail) | fail) | ((with_reducible refine iteT' ?_ ?_); first | rfl | exact decide_eq_true (by omega) | (simp <;> fail) | fail))
      intro j_vn vn H6 e_vn O_vn B_vn; replace g_a1 := B_vn _ _ g_a1 np_a1; replace g_a2 := B_vn _ _ g_a2 np_a2; replace M := M.draw O_vn B_vn; clear O_vn B_vn
      have badL : ∀ H', H' a1 = some (.tup [V.int 0, .int 1]) → H' a2 = some (.lst [V.ref x1]) → NotO K L H' vn := by
        intro H' e1 e2
        match j_vn, e_vn with
        | 0, z => cases z; exact O_Layout.non
        | 1, z => cases z; exact O_Layout.int _
        | 2, z => cases z; exact O_Layout.str _
        | 3, z => cases z; exact O_Layout.tup e1
        | 4, z => cases z; exact O_Layout.bl _
        | 5, z => cases z; exact O_Layout.lst e2
        | j + 6, z => cases z
      have badC : ∀ H', H' a1 = some (.tup [V.int 0, .int 1]) → H' a2 = some (.lst [V.ref x1]) → NotO K C H' vn := by
        intro H' e1 e2
        match j_vn, e_vn with
        | 0, z => cases z; exact O_Code.non
        | 1, z => cases z; exact O_Code.int _
        | 2, z => cases z; exact O_Code.str _
        | 3, z => cases z; exact O_Code.tup e1
        | 4, z => cases z; exact O_Code.bl _
        | 5, z => cases z; exact O_Code.lst e2
        | j + 6, z => cases z
      clear e_vn nx ndx nex S3 L1 g_l0 S_a1 S_l0 S_a2 S_l g_l
      repeat (first | (with_reducible refine st_i0 rfl rfl rfl ?_) | ((with_reducible refine st_i rfl rfl ?_ rfl ?_); first | omega | exact ⟨by decide, by decide, by decide⟩ | exact .inl ⟨by decide, by decide⟩ | exact .inl ⟨by omega, by omega⟩ | exact .inr ⟨by omega, by omega⟩ | fail) | ((fail_if_success refine Exists.intro (α := Nat → Nat → L2.St → Hp → Prop) ?_ ?_); (fail_if_success refine Exists.intro (α := L2.St → Hp → Prop) ?_ ?_); (fail_if_success refine Exists.intro (α := Nat → L2.St → Hp → Prop) ?_ ?_); apply Exists.intro) | ((refine And.intro ?_ ?_); first | with_reducible rfl | with_reducible assumption | rfl | ((with_reducible apply SqL.of); assumption) | ((with_reducible apply SqT.of); assumption) | ((with_reducible apply OwnC.cl); assumption) | (with_reducible exact isI_int _) | (with_reducible exact upd_same) | ((with_reducible apply Mid.o); assumption) | ((with_reducible apply Mid.t); assumption) | (with_reducible exact ⟨_, SqT.of (by assumption)⟩) | (with_reducible exact ⟨_, SqL.of (by assumption)⟩) | omega | exact Nat.le_of_ble_eq_true rfl | exact nat9 (by omega) | (show _ ≤ sizeLine; decide) | exact ⟨by decide, by decide, by decide⟩ | exact .inl ⟨by decide, by decide⟩ | exact .inl ⟨by omega, by omega⟩ | exact .inr ⟨by omega, by omega⟩ | assumption | fail) | ((with_reducible refine iteF' ?_ ?_); first | rfl | exact decide_eq_false (by omega) | (simp <;> fail) | fail) | ((with_reducible refine iteT' ?_ ?_); first | rfl | exact decide_eq_true (by omega) | (simp <;> fail) | fail))
      intro a3 h_a3; have np_a3 := M.pD h_a3; have nb_a3 := M.bD h_a3; generalize hE : upd _ a3 _ = H7; obtain ⟨S_a3, g_a3⟩ := new_facts h_a3 hE; clear hE; replace M := M.same S_a3; replace g_a1 := S_a3 _ _ g_a1; replace g_a2 := S_a3 _ _ g_a2
      repeat (first | (with_reducible refine st_i0 rfl rfl rfl ?_) | ((with_reducible refine st_i rfl rfl ?_ rfl ?_); first | omega | exact ⟨by decide, by decide, by decide⟩ | exact .inl ⟨by decide, by decide⟩ | exact .inl ⟨by omega, by omega⟩ | exact .inr ⟨by omega, by omega⟩ | fail) | ((fail_if_success refine Exists.intro (α := Nat → Nat → L2.St → Hp → Prop) ?_ ?_); (fail_if_success refine Exists.intro (α := L2.St → Hp → Prop) ?_ ?_); (fail_if_success refine Exists.intro (α := Nat → L2.St → Hp → Prop) ?_ ?_); apply Exists.intro) | ((refine And.intro ?_ ?_); first | with_reducible rfl | with_reducible assumption | rfl | ((with_reducible apply SqL.of); assumption) | ((with_reducible apply SqT.of); assumption) | ((with_reducible apply OwnC.cl); assumption) | (with_reducible exact isI_int _) | (with_reducible exact upd_same) | ((with_reducible apply Mid.o); assumption) | ((with_reducible apply Mid.t); assumption) | (with_reducible exact ⟨_, SqT.of (by assumption)⟩) | (with_reducible exact ⟨_, SqL.of (by assumption)⟩) | omega | exact Nat.le_of_ble_eq_true rfl | exact nat9 (by omega) | (show _ ≤ sizeLine; decide) | exact ⟨by decide, by decide, by decide⟩ | exact .inl ⟨by decide, by decide⟩ | exact .inl ⟨by omega, by omega⟩ | exact .inr ⟨by omega, by omega⟩ | assumption | fail) | ((with_reducible refine iteF' ?_ ?_); first | rfl | exact decide_eq_false (by omega) | (simp <;> fail) | fail) | ((with_reducible refine iteT' ?_ ?_); first | rfl | exact decide_eq_true (by omega) | (simp <;> fail) | fail))
      intro l2 h_l2; have np_l2 := M.pD h_l2; have nb_l2 := M.bD h_l2; generalize hE : upd _ l2 _ = H8; obtain ⟨S_l2, g_l2⟩ := new_facts h_l2 hE; clear hE; replace M := M.same S_l2; replace g_a1 := S_l2 _ _ g_a1; replace g_a2 := S_l2 _ _ g_a2; replace g_a3 := S_l2 _ _ g_a3
      repeat (first | (with_reducible refine st_i0 rfl rfl rfl ?_) | ((with_reducible refine st_i rfl rfl ?_ rfl ?_); first | omega | exact ⟨by decide, by decide, by decide⟩ | exact .inl ⟨by decide, by decide⟩ | exact .inl ⟨by omega, by omega⟩ | exact .inr ⟨by omega, by omega⟩ | fail) | ((fail_if_success refine Exists.intro (α := Nat → Nat → L2.St → Hp → Prop) ?_ ?_); (fail_if_success refine Exists.intro (α := L2.St → Hp → Prop) ?_ ?_); (fail_if_success refine Exists.intro (α := Nat → L2.St → Hp → Prop) ?_ ?_); apply Exists.intro) | ((refine And.intro ?_ ?_); first | with_reducible rfl | with_reducible assumption | rfl | ((with_reducible apply SqL.of); assumption) | ((with_reducible apply SqT.of); assumption) | ((with_reducible apply OwnC.cl); assumption) | (with_reducible exact isI_int _) | (with_reducible exact upd_same) | ((with_reducible apply Mid.o); assumption) | ((with_reducible apply Mid.t); assumption) | (with_reducible exact ⟨_, SqT.of (by assumption)⟩) | (with_reducible exact ⟨_, SqL.of (by assumption)⟩) | omega | exact Nat.le_of_ble_eq_true rfl | exact nat9 (by omega) | (show _ ≤ sizeLine; decide) | exact ⟨by decide, by decide, by decide⟩ | exact .inl ⟨by decide, by decide⟩ | exact .inl ⟨by omega, by omega⟩ | exact .inr ⟨by omega, by omega⟩ | assumption | fail) | ((with_reducible refine iteF' ?_ ?_); first | rfl | exact decide_eq_false (by omega) | (simp <;> fail) | fail) | ((with_reducible refine iteT' ?_ ?_); first | rfl | exact decide_eq_true (by omega) | (simp <;> fail) | fail))
      intro j_vo vo H9 e_vo O_vo B_vo; replace g_a1 := B_vo _ _ g_a1 np_a1; replace g_a2 := B_vo _ _ g_a2 np_a2; replace g_a3 := B_vo _ _ g_a3 np_a3; replace M := M.draw O_vo B_vo; clear O_vo B_vo
      have badO : ∀ H', H' a3 = some (.lst [V.int 2]) → Bad K H' vo (some 1) (some 64) := by
        intro H' e1
        match j_vo, e_vo with
        | 0, z => cases z; exact ⟨false, isI_non, rfl⟩
        | 1, z => cases z; exact ⟨true, isI_int _, by decide⟩
        | 2, z => cases z; exact ⟨true, isI_int _, by decide⟩
        | 3, z => cases z; exact ⟨true, isI_int _, by decide⟩
        | 4, z => cases z; exact ⟨false, isI_bl _, rfl⟩
        | 5, z => cases z; exact ⟨false, isI_str _, rfl⟩
        | 6, z => cases z; exact ⟨false, isI_lst e1, rfl⟩
        | 7, z => cases z; exact ⟨true, isI_int _, by decide +kernel⟩
        | j + 8, z => cases z
      clear e_vo S_a3 S_l2 g_l2
      repeat (first | (with_reducible refine st_i0 rfl rfl rfl ?_) | ((with_reducible refine st_i rfl rfl ?_ rfl ?_); first | omega | exact ⟨by decide, by decide, by decide⟩ | exact .inl ⟨by decide, by decide⟩ | exact .inl ⟨by omega, by omega⟩ | exact .inr ⟨by omega, by omega⟩ | fail) | ((fail_if_success refine Exists.intro (α := Nat → Nat → L2.St → Hp → Prop) ?_ ?_); (fail_if_success refine Exists.intro (α := L2.St → Hp → Prop) ?_ ?_); (fail_if_success refine Exists.intro (α := Nat → L2.St → Hp → Prop) ?_ ?_); apply Exists.intro) | ((refine And.intro ?_ ?_); first | with_reducible rfl | with_reducible assumption | rfl | ((with_reducible apply SqL.of); assumption) | ((with_reducible apply SqT.of); assumption) | ((with_reducible apply OwnC.cl); assumption) | (with_reducible exact isI_int _) | (with_reducible exact upd_same) | ((with_reducible apply Mid.o); assumption) | ((with_reducible apply Mid.t); assumption) | (with_reducible exact ⟨_, SqT.of (by assumption)⟩) | (with_reducible exact ⟨_, SqL.of (by assumption)⟩) | omega | exact Nat.le_of_ble_eq_true rfl | exact nat9 (by omega) | (show _ ≤ sizeLine; decide) | exact ⟨by decide, by decide, by decide⟩ | exact .inl ⟨by decide, by decide⟩ | exact .inl ⟨by omega, by omega⟩ | exact .inr ⟨by omega, by omega⟩ | assumption | fail) | ((with_reducible refine iteF' ?_ ?_); first | rfl | exact decide_eq_false (by omega) | (simp <;> fail) | fail) | ((with_reducible refine iteT' ?_ ?_); first | rfl | exact decide_eq_true (by omega) | (simp <;> fail) | fail))
      intro r H10 r0 r1 O_r B_r; replace g_a1 := B_r _ _ g_a1 np_a1; replace g_a2 := B_r _ _ g_a2 np_a2; replace g_a3 := B_r _ _ g_a3 np_a3; replace M := M.draw O_r B_r; obtain ⟨r, rfl⟩ := Int.eq_ofNat_of_zero_le r0; clear O_r B_r
      repeat (first | (with_reducible refine st_i0 rfl rfl rfl ?_) | ((with_reducible refine st_i rfl rfl ?_ rfl ?_); first | omega | exact ⟨by decide, by decide, by decide⟩ | exact .inl ⟨by decide, by decide⟩ | exact .inl ⟨by omega, by omega⟩ | exact .inr ⟨by omega, by omega⟩ | fail) | ((fail_if_success refine Exists.intro (α := Nat → Nat → L2.St → Hp → Prop) ?_ ?_); (fail_if_success refine Exists.intro (α := L2.St → Hp → Prop) ?_ ?_); (fail_if_success refine Exists.intro (α := Nat → L2.St → Hp → Prop) ?_ ?_); apply Exists.intro) | ((refine And.intro ?_ ?_); first | with_reducible rfl | with_reducible assumption | rfl | ((with_reducible apply SqL.of); assumption) | ((with_reducible apply SqT.of); assumption) | ((with_reducible apply OwnC.cl); assumption) | (with_reducible exact isI_int _) | (with_reducible exact upd_same) | ((with_reducible apply Mid.o); assumption) | ((with_reducible apply Mid.t); assumption) | (with_reducible exact ⟨_, SqT.of (by assumption)⟩) | (with_reducible exact ⟨_, SqL.of (by assumption)⟩) | omega | exact Nat.le_of_ble_eq_true rfl | exact nat9 (by omega) | (show _ ≤ sizeLine; decide) | exact ⟨by decide, by decide, by decide⟩ | exact .inl ⟨by decide, by decide⟩ | exact .inl ⟨by omega, by omega⟩ | exact .inr ⟨by omega, by omega⟩ | assumption | fail) | ((with_reducible refine iteF' ?_ ?_); first | rfl | exact decide_eq_false (by omega) | (simp <;> fail) | fail) | ((with_reducible refine iteT' ?_ ?_); first | rfl | exact decide_eq_true (by omega) | (simp <;> fail) | fail))
      intro l3 h_l3; have np_l3 := M.pD h_l3; have nb_l3 := M.bD h_l3; generalize hE : upd _ l3 _ = H11; obtain ⟨S_l3, g_l3⟩ := new_facts h_l3 hE; clear hE; replace M := M.same S_l3; replace g_a1 := S_l3 _ _ g_a1; replace g_a2 := S_l3 _ _ g_a2; replace g_a3 := S_l3 _ _ g_a3
      repeat (first | (with_reducible refine st_i0 rfl rfl rfl ?_) | ((with_reducible refine st_i rfl rfl ?_ rfl ?_); first | omega | exact ⟨by decide, by decide, by decide⟩ | exact .inl ⟨by decide, by decide⟩ | exact .inl ⟨by omega, by omega⟩ | exact .inr ⟨by omega, by omega⟩ | fail) | ((fail_if_success refine Exists.intro (α := Nat → Nat → L2.St → Hp → Prop) ?_ ?_); (fail_if_success refine Exists.intro (α := L2.St → Hp → Prop) ?_ ?_); (fail_if_success refine Exists.intro (α := Nat → L2.St → Hp → Prop) ?_ ?_); apply Exists.intro) | ((refine And.intro ?_ ?_); first | with_reducible rfl | with_reducible assumption | rfl | ((with_reducible apply SqL.of); assumption) | ((with_reducible apply SqT.of); assumption) | ((with_reducible apply OwnC.cl); assumption) | (with_reducible exact isI_int _) | (with_reducible exact upd_same) | ((with_reducible apply Mid.o); assumption) | ((with_reducible apply Mid.t); assumption) | (with_reducible exact ⟨_, SqT.of (by assumption)⟩) | (with_reducible exact ⟨_, SqL.of (by assumption)⟩) | omega | exact Nat.le_of_ble_eq_true rfl | exact nat9 (by omega) | (show _ ≤ sizeLine; decide) | exact ⟨by decide, by decide, by decide⟩ | exact .inl ⟨by decide, by decide⟩ | exact .inl ⟨by omega, by omega⟩ | exact .inr ⟨by omega, by omega⟩ | assumption | fail) | ((with_reducible refine iteF' ?_ ?_); first | rfl | exact decide_eq_false (by omega) | (simp <;> fail) | fail) | ((with_reducible refine iteT' ?_ ?_); first | rfl | exact decide_eq_true (by omega) | (simp <;> fail) | fail))
      intro l4 h_l4; have np_l4 := M.pD h_l4; have nb_l4 := M.bD h_l4; generalize hE : upd _ l4 _ = H12; obtain ⟨S_l4, g_l4⟩ := new_facts h_l4 hE; clear hE; replace M := M.same S_l4; replace g_a1 := S_l4 _ _ g_a1; replace g_a2 := S_l4 _ _ g_a2; replace g_a3 := S_l4 _ _ g_a3
      rw [show (List.replicate (Int.toNat 128) [V.int (r : Int)]).flatten = (List.replicate (2 ^ 7) (some r)).map mv by rw [List.flatten_replicate_singleton, List.map_replicate]; rfl] at g_l4
      repeat (first | (with_reducible refine st_i0 rfl rfl rfl ?_) | ((with_reducible refine st_i rfl rfl ?_ rfl ?_); first | omega | exact ⟨by decide, by decide, by decide⟩ | exact .inl ⟨by decide, by decide⟩ | exact .inl ⟨by omega, by omega⟩ | exact .inr ⟨by omega, by omega⟩ | fail) | ((fail_if_success refine Exists.intro (α := Nat → Nat → L2.St → Hp → Prop) ?_ ?_); (fail_if_success refine Exists.intro (α := L2.St → Hp → Prop) ?_ ?_); (fail_if_success refine Exists.intro (α := Nat → L2.St → Hp → Prop) ?_ ?_); apply Exists.intro) | ((refine And.intro ?_ ?_); first | with_reducible rfl | with_reducible assumption | rfl | ((with_reducible apply SqL.of); assumption) | ((with_reducible apply SqT.of); assumption) | ((with_reducible apply OwnC.cl); assumption) | (with_reducible exact isI_int _) | (with_reducible exact upd_same) | ((with_reducible apply Mid.o); assumption) | ((with_reducible apply Mid.t); assumption) | (with_reducible exact ⟨_, SqT.of (by assumption)⟩) | (with_reducible exact ⟨_, SqL.of (by assumption)⟩) | omega | exact Nat.le_of_ble_eq_true rfl | exact nat9 (by omega) | (show _ ≤ sizeLine; decide) | exact ⟨by decide, by decide, by decide⟩ | exact .inl ⟨by decide, by decide⟩ | exact .inl ⟨by omega, by omega⟩ | exact .inr ⟨by omega, by omega⟩ | assumption | fail) | ((with_reducible refine iteF' ?_ ?_); first | rfl | exact decide_eq_false (by omega) | (simp <;> fail) | fail) | ((with_reducible refine iteT' ?_ ?_); first | rfl | exact decide_eq_true (by omega) | (simp <;> fail) | fail))
      intro x dx nx ndx nex
      have ok7 := okr 7 r (by decide) (by decide) (by omega)
      refine make_lay ok7 (.inl g_l4) nx ndx fun H13 S13 hw => ?_
      replace M := M.same S13; replace g_a1 := S13 _ _ g_a1; replace g_a2 := S13 _ _ g_a2; replace g_a3 := S13 _ _ g_a3
      clear g_l4 S13 nx ndx nex g_l3
      repeat (first | (with_reducible refine st_i0 rfl rfl rfl ?_) | ((with_reducible refine st_i rfl rfl ?_ rfl ?_); first | omega | exact ⟨by decide, by decide, by decide⟩ | exact .inl ⟨by decide, by decide⟩ | exact .inl ⟨by omega, by omega⟩ | exact .inr ⟨by omega, by omega⟩ | fail) | ((fail_if_success refine Exists.intro (α := Nat → Nat → L2.St → Hp → Prop) ?_ ?_); (fail_if_success refine Exists.intro (α := L2.St → Hp → Prop) ?_ ?_); (fail_if_success refine Exists.intro (α := Nat → L2.St → Hp → Prop) ?_ ?_); apply Exists.intro) | ((refine And.intro ?_ ?_); first | with_reducible rfl | with_reducible assumption | rfl | ((with_reducible apply SqL.of); assumption) | ((with_reducible apply SqT.of); assumption) | ((with_reducible apply OwnC.cl); assumption) | (with_reducible exact isI_int _) | (with_reducible exact upd_same) | ((with_reducible apply Mid.o); assumption) | ((with_reducible apply Mid.t); assumption) | (with_reducible exact ⟨_, SqT.of (by assumption)⟩) | (with_reducible exact ⟨_, SqL.of (by assumption)⟩) | omega | exact Nat.le_of_ble_eq_true rfl | exact nat9 (by omega) | (show _ ≤ sizeLine; decide) | exact ⟨by decide, by decide, by decide⟩ | exact .inl ⟨by decide, by decide⟩ | exact .inl ⟨by omega, by omega⟩ | exact .inr ⟨by omega, by omega⟩ | assumption | fail) | ((with_reducible refine iteF' ?_ ?_); first | rfl | exact decide_eq_false (by omega) | (simp <;> fail) | fail) | ((with_reducible refine iteT' ?_ ?_); first | rfl | exact decide_eq_true (by omega) | (simp <;> fail) | fail))
      intro Ha ea Ta
      replace M := M.ext ea Ta
      replace hw := lay_ext hw ea
      replace g_a1 := ea _ _ g_a1 (fun _ z => nomatch z)
      replace g_a2 := ea _ _ g_a2 (fun _ z => nomatch z)
      replace g_a3 := ea _ _ g_a3 (fun _ z => nomatch z)
      repeat (first | (with_reducible refine st_i0 rfl rfl rfl ?_) | ((with_reducible refine st_i rfl rfl ?_ rfl ?_); first | omega | exact ⟨by decide, by decide, by decide⟩ | exact .inl ⟨by decide, by decide⟩ | exact .inl ⟨by omega, by omega⟩ | exact .inr ⟨by omega, by omega⟩ | fail) | ((fail_if_success refine Exists.intro (α := Nat → Nat → L2.St → Hp → Prop) ?_ ?_); (fail_if_success refine Exists.intro (α := L2.St → Hp → Prop) ?_ ?_); (fail_if_success refine Exists.intro (α := Nat → L2.St → Hp → Prop) ?_ ?_); apply Exists.intro) | ((refine And.intro ?_ ?_); first | with_reducible rfl | with_reducible assumption | rfl | ((with_reducible apply SqL.of); assumption) | ((with_reducible apply SqT.of); assumption) | ((with_reducible apply OwnC.cl); assumption) | (with_reducible exact isI_int _) | (with_reducible exact upd_same) | ((with_reducible apply Mid.o); assumption) | ((with_reducible apply Mid.t); assumption) | (with_reducible exact ⟨_, SqT.of (by assumption)⟩) | (with_reducible exact ⟨_, SqL.of (by assumption)⟩) | omega | exact Nat.le_of_ble_eq_true rfl | exact nat9 (by omega) | (show _ ≤ sizeLine; decide) | exact ⟨by decide, by decide, by decide⟩ | exact .inl ⟨by decide, by decide⟩ | exact .inl ⟨by omega, by omega⟩ | exact .inr ⟨by omega, by omega⟩ | assumption | fail) | ((with_reducible refine iteF' ?_ ?_); first | rfl | exact decide_eq_false (by omega) | (simp <;> fail) | fail) | ((with_reducible refine iteT' ?_ ?_); first | rfl | exact decide_eq_true (by omega) | (simp <;> fail) | fail))
      refine .inl ⟨badL _ g_a1 g_a2, fun dd hdd => ⟨dd, "layout", rfl, upd_same, .inr (.inl ⟨rfl, fun t Hb Sb g_t => ?_⟩)⟩⟩
      have Sd := (same_new (o := .xd [(("part" : Str), .str "layout")]) hdd).trans Sb
      replace M := M.same Sd; replace hw := hw.same Sd; replace g_a1 := Sd _ _ g_a1; replace g_a2 := Sd _ _ g_a2; replace g_a3 := Sd _ _ g_a3
      repeat (first | (with_reducible refine st_i0 rfl rfl rfl ?_) | ((with_reducible refine st_i rfl rfl ?_ rfl ?_); first | omega | exact ⟨by decide, by decide, by decide⟩ | exact .inl ⟨by decide, by decide⟩ | exact .inl ⟨by omega, by omega⟩ | exact .inr ⟨by omega, by omega⟩ | fail) | ((fail_if_success refine Exists.intro (α := Nat → Nat → L2.St → Hp → Prop) ?_ ?_); (fail_if_success refine Exists.intro (α := L2.St → Hp → Prop) ?_ ?_); (fail_if_success refine Exists.intro (α := Nat → L2.St → Hp → Prop) ?_ ?_); apply Exists.intro) | ((refine And.intro ?_ ?_); first | with_reducible rfl | with_reducible assumption | rfl | ((with_reducible apply SqL.of); assumption) | ((with_reducible apply SqT.of); assumption) | ((with_reducible apply OwnC.cl); assumption) | (with_reducible exact isI_int _) | (with_reducible exact upd_same) | ((with_reducible apply Mid.o); assumption) | ((with_reducible apply Mid.t); assumption) | (with_reducible exact ⟨_, SqT.of (by assumption)⟩) | (with_reducible exact ⟨_, SqL.of (by assumption)⟩) | omega | exact Nat.le_of_ble_eq_true rfl | exact nat9 (by omega) | (show _ ≤ sizeLine; decide) | exact ⟨by decide, by decide, by decide⟩ | exact .inl ⟨by decide, by decide⟩ | exact .inl ⟨by omega, by omega⟩ | exact .inr ⟨by omega, by omega⟩ | assumption | fail) | ((with_reducible refine iteF' ?_ ?_); first | rfl | exact decide_eq_false (by omega) | (simp <;> fail) | fail) | ((with_reducible refine iteT' ?_ ?_); first | rfl | exact decide_eq_true (by omega) | (simp <;> fail) | fail))
      intro h hh
      have s1 := Lq.begin (k := some ("layout", "layout")) Kq.refl M hh ⟨t, rfl, g_t⟩
      obtain ⟨_, _, _, hpp, _⟩ := id M.o
      have up : ∀ {q : Addr} {o : HO} {H' : Hp}, Hb q = some o → q ≠ p → (∀ ps, o ≠ .tbl ps) → Kq p h Hb H' → H' q = some o := fun {q o H'} e n u kq => kq _ _ e n (ne_of_none e hh) u
      replace badL : ∀ H', Kq p h Hb H' → NotO K L H' vn := fun H' kq => badL _ (up g_a1 np_a1 (fun _ z => nomatch z) kq) (up g_a2 np_a2 (fun _ z => nomatch z) kq)
      replace badC : ∀ H', Kq p h Hb H' → NotO K C H' vn := fun H' kq => badC _ (up g_a1 np_a1 (fun _ z => nomatch z) kq) (up g_a2 np_a2 (fun _ z => nomatch z) kq)
      replace badO : ∀ H', Kq p h Hb H' → Bad K H' vo (some 1) (some 64) := fun H' kq => badO _ (up g_a3 np_a3 (fun _ z => nomatch z) kq)
      have isW : ∀ H', Kq p h Hb H' → IsLay H' L x 7 (List.replicate (2 ^ 7) (some r)) := fun H' kq => IsLay.kq hw hh hpp kq
      clear up g_a1 g_a2 g_a3 hw M hpp Sd hdd Sb g_t ea Ta
      have M := s1.mid
      have g_h := s1.at'
      repeat (first | (refine ⟨.inl ⟨rfl, _, SqL.of (by assumption)⟩, ?_⟩) | (with_reducible refine st_i0 rfl rfl rfl ?_) | ((with_reducible refine st_i rfl rfl ?_ rfl ?_); first | omega | exact ⟨by decide, by decide, by decide⟩ | exact .inl ⟨by decide, by decide⟩ | exact .inl ⟨by omega, by omega⟩ | exact .inr ⟨by omega, by omega⟩ | fail) | ((fail_if_success refine Exists.intro (α := Nat → Nat → L2.St → Hp → Prop) ?_ ?_); (fail_if_success refine Exists.intro (α := L2.St → Hp → Prop) ?_ ?_); (fail_if_success refine Exists.intro (α := Nat → L2.St → Hp → Prop) ?_ ?_); apply Exists.intro) | ((refine And.intro ?_ ?_); first | with_reducible rfl | with_reducible assumption | rfl | ((with_reducible apply SqL.of); assumption) | ((with_reducible apply SqT.of); assumption) | ((with_reducible apply OwnC.cl); assumption) | (with_reducible exact isI_int _) | (with_reducible exact upd_same) | ((with_reducible apply Mid.o); assumption) | ((with_reducible apply Mid.t); assumption) | (with_reducible exact ⟨_, SqT.of (by assumption)⟩) | (with_reducible exact ⟨_, SqL.of (by assumption)⟩) | omega | exact Nat.le_of_ble_eq_true rfl | exact nat9 (by omega) | (show _ ≤ sizeLine; decide) | exact ⟨by decide, by decide, by decide⟩ | exact .inl ⟨by decide, by decide⟩ | exact .inl ⟨by omega, by omega⟩ | exact .inr ⟨by omega, by omega⟩ | assumption | fail) | ((with_reducible refine iteF' ?_ ?_); first | rfl | exact decide_eq_false (by omega) | (simp <;> fail) | fail) | ((with_reducible refine iteT' ?_ ?_); first | rfl | exact decide_eq_true (by omega) | (simp <;> fail) | fail))
      intro Ha2 ea Ta
      replace M := M.ext ea Ta
      have kq := s1.kp.trans (.ext ea)
      repeat (first | (with_reducible refine st_i0 rfl rfl rfl ?_) | ((with_reducible refine st_i rfl rfl ?_ rfl ?_); first | omega | exact ⟨by decide, by decide, by decide⟩ | exact .inl ⟨by decide, by decide⟩ | exact .inl ⟨by omega, by omega⟩ | exact .inr ⟨by omega, by omega⟩ | fail) | ((fail_if_success refine Exists.intro (α := Nat → Nat → L2.St → Hp → Prop) ?_ ?_); (fail_if_success refine Exists.intro (α := L2.St → Hp → Prop) ?_ ?_); (fail_if_success refine Exists.intro (α := Nat → L2.St → Hp → Prop) ?_ ?_); apply Exists.intro) | ((refine And.intro ?_ ?_); first | with_reducible rfl | with_reducible assumption | rfl | ((with_reducible apply SqL.of); assumption) | ((with_reducible apply SqT.of); assumption) | ((with_reducible apply OwnC.cl); assumption) | (with_reducible exact isI_int _) | (with_reducible exact upd_same) | ((with_reducible apply Mid.o); assumption) | ((with_reducible apply Mid.t); assumption) | (with_reducible exact ⟨_, SqT.of (by assumption)⟩) | (with_reducible exact ⟨_, SqL.of (by assumption)⟩) | omega | exact Nat.le_of_ble_eq_true rfl | exact nat9 (by omega) | (show _ ≤ sizeLine; decide) | exact ⟨by decide, by decide, by decide⟩ | exact .inl ⟨by decide, by decide⟩ | exact .inl ⟨by omega, by omega⟩ | exact .inr ⟨by omega, by omega⟩ | assumption | fail) | ((with_reducible refine iteF' ?_ ?_); first | rfl | exact decide_eq_false (by omega) | (simp <;> fail) | fail) | ((with_reducible refine iteT' ?_ ?_); first | rfl | exact decide_eq_true (by omega) | (simp <;> fail) | fail))
      refine .inr ⟨x, 7, _, rfl, isW _ kq, ok7, .inl ⟨badO _ kq, fun dd hdd => ⟨dd, "states", rfl, upd_same, .inr (.inr (.inl ⟨rfl, fun t Hb Sb g_t => ?_⟩))⟩⟩⟩
      have Sd := (same_new (o := .xd [(("part" : Str), .str "states")]) hdd).trans Sb
      obtain ⟨at1, s2⟩ := s1.sstep ea Ta Sd (k := some ("number", "states")) ⟨t, rfl, g_t⟩
      clear s1 M g_h kq ea Ta
      repeat (first | (with_reducible refine st_i0 rfl rfl rfl ?_) | ((with_reducible refine st_i rfl rfl ?_ rfl ?_); first | omega | exact ⟨by decide, by decide, by decide⟩ | exact .inl ⟨by decide, by decide⟩ | exact .inl ⟨by omega, by omega⟩ | exact .inr ⟨by omega, by omega⟩ | fail) | ((fail_if_success refine Exists.intro (α := Nat → Nat → L2.St → Hp → Prop) ?_ ?_); (fail_if_success refine Exists.intro (α := L2.St → Hp → Prop) ?_ ?_); (fail_if_success refine Exists.intro (α := Nat → L2.St → Hp → Prop) ?_ ?_); apply Exists.intro) | ((refine And.intro ?_ ?_); first | with_reducible rfl | with_reducible assumption | rfl | ((with_reducible apply SqL.of); assumption) | ((with_reducible apply SqT.of); assumption) | ((with_reducible apply OwnC.cl); assumption) | (with_reducible exact isI_int _) | (with_reducible exact upd_same) | ((with_reducible apply Mid.o); assumption) | ((with_reducible apply Mid.t); assumption) | (with_reducible exact ⟨_, SqT.of (by assumption)⟩) | (with_reducible exact ⟨_, SqL.of (by assumption)⟩) | omega | exact Nat.le_of_ble_eq_true rfl | exact nat9 (by omega) | (show _ ≤ sizeLine; decide) | exact ⟨by decide, by decide, by decide⟩ | exact .inl ⟨by decide, by decide⟩ | exact .inl ⟨by omega, by omega⟩ | exact .inr ⟨by omega, by omega⟩ | assumption | fail) | ((with_reducible refine iteF' ?_ ?_); first | rfl | exact decide_eq_false (by omega) | (simp <;> fail) | fail) | ((with_reducible refine iteT' ?_ ?_); first | rfl | exact decide_eq_true (by omega) | (simp <;> fail) | fail))
      clear at1
      have M := s2.mid
      have g_h := s2.at'
      repeat (first | (refine ⟨.inl ⟨rfl, _, SqL.of (by assumption)⟩, ?_⟩) | (with_reducible refine st_i0 rfl rfl rfl ?_) | ((with_reducible refine st_i rfl rfl ?_ rfl ?_); first | omega | exact ⟨by decide, by decide, by decide⟩ | exact .inl ⟨by decide, by decide⟩ | exact .inl ⟨by omega, by omega⟩ | exact .inr ⟨by omega, by omega⟩ | fail) | ((fail_if_success refine Exists.intro (α := Nat → Nat → L2.St → Hp → Prop) ?_ ?_); (fail_if_success refine Exists.intro (α := L2.St → Hp → Prop) ?_ ?_); (fail_if_success refine Exists.intro (α := Nat → L2.St → Hp → Prop) ?_ ?_); apply Exists.intro) | ((refine And.intro ?_ ?_); first | with_reducible rfl | with_reducible assumption | rfl | ((with_reducible apply SqL.of); assumption) | ((with_reducible apply SqT.of); assumption) | ((with_reducible apply OwnC.cl); assumption) | (with_reducible exact isI_int _) | (with_reducible exact upd_same) | ((with_reducible apply Mid.o); assumption) | ((with_reducible apply Mid.t); assumption) | (with_reducible exact ⟨_, SqT.of (by assumption)⟩) | (with_reducible exact ⟨_, SqL.of (by assumption)⟩) | omega | exact Nat.le_of_ble_eq_true rfl | exact nat9 (by omega) | (show _ ≤ sizeLine; decide) | exact ⟨by decide, by decide, by decide⟩ | exact .inl ⟨by decide, by decide⟩ | exact .inl ⟨by omega, by omega⟩ | exact .inr ⟨by omega, by omega⟩ | assumption | fail) | ((with_reducible refine iteF' ?_ ?_); first | rfl | exact decide_eq_false (by omega) | (simp <;> fail) | fail) | ((with_reducible refine iteT' ?_ ?_); first | rfl | exact decide_eq_true (by omega) | (simp <;> fail) | fail))
      intro Ha3 ea Ta
      replace M := M.ext ea Ta
      have kq := s2.kp.trans (.ext ea)
      repeat (first | (with_reducible refine st_i0 rfl rfl rfl ?_) | ((with_reducible refine st_i rfl rfl ?_ rfl ?_); first | omega | exact ⟨by decide, by decide, by decide⟩ | exact .inl ⟨by decide, by decide⟩ | exact .inl ⟨by omega, by omega⟩ | exact .inr ⟨by omega, by omega⟩ | fail) | ((fail_if_success refine Exists.intro (α := Nat → Nat → L2.St → Hp → Prop) ?_ ?_); (fail_if_success refine Exists.intro (α := L2.St → Hp → Prop) ?_ ?_); (fail_if_success refine Exists.intro (α := Nat → L2.St → Hp → Prop) ?_ ?_); apply Exists.intro) | ((refine And.intro ?_ ?_); first | with_reducible rfl | with_reducible assumption | rfl | ((with_reducible apply SqL.of); assumption) | ((with_reducible apply SqT.of); assumption) | ((with_reducible apply OwnC.cl); assumption) | (with_reducible exact isI_int _) | (with_reducible exact upd_same) | ((with_reducible apply Mid.o); assumption) | ((with_reducible apply Mid.t); assumption) | (with_reducible exact ⟨_, SqT.of (by assumption)⟩) | (with_reducible exact ⟨_, SqL.of (by assumption)⟩) | omega | exact Nat.le_of_ble_eq_true rfl | exact nat9 (by omega) | (show _ ≤ sizeLine; decide) | exact ⟨by decide, by decide, by decide⟩ | exact .inl ⟨by decide, by decide⟩ | exact .inl ⟨by omega, by omega⟩ | exact .inr ⟨by omega, by omega⟩ | assumption | fail) | ((with_reducible refine iteF' ?_ ?_); first | rfl | exact decide_eq_false (by omega) | (simp <;> fail) | fail) | ((with_reducible refine iteT' ?_ ?_); first | rfl | exact decide_eq_true (by omega) | (simp <;> fail) | fail))
      intro z H14 z0 z1 O_z B_z; replace M := M.draw O_z B_z; obtain ⟨z, rfl⟩ := Int.eq_ofNat_of_zero_le z0
      repeat (first | (with_reducible refine st_i0 rfl rfl rfl ?_) | ((with_reducible refine st_i rfl rfl ?_ rfl ?_); first | omega | exact ⟨by decide, by decide, by decide⟩ | exact .inl ⟨by decide, by decide⟩ | exact .inl ⟨by omega, by omega⟩ | exact .inr ⟨by omega, by omega⟩ | fail) | ((fail_if_success refine Exists.intro (α := Nat → Nat → L2.St → Hp → Prop) ?_ ?_); (fail_if_success refine Exists.intro (α := L2.St → Hp → Prop) ?_ ?_); (fail_if_success refine Exists.intro (α := Nat → L2.St → Hp → Prop) ?_ ?_); apply Exists.intro) | ((refine And.intro ?_ ?_); first | with_reducible rfl | with_reducible assumption | rfl | ((with_reducible apply SqL.of); assumption) | ((with_reducible apply SqT.of); assumption) | ((with_reducible apply OwnC.cl); assumption) | (with_reducible exact isI_int _) | (with_reducible exact upd_same) | ((with_reducible apply Mid.o); assumption) | ((with_reducible apply Mid.t); assumption) | (with_reducible exact ⟨_, SqT.of (by assumption)⟩) | (with_reducible exact ⟨_, SqL.of (by assumption)⟩) | omega | exact Nat.le_of_ble_eq_true rfl | exact nat9 (by omega) | (show _ ≤ sizeLine; decide) | exact ⟨by decide, by decide, by decide⟩ | exact .inl ⟨by decide, by decide⟩ | exact .inl ⟨by omega, by omega⟩ | exact .inr ⟨by omega, by omega⟩ | assumption | fail) | ((with_reducible refine iteF' ?_ ?_); first | rfl | exact decide_eq_false (by omega) | (simp <;> fail) | fail) | ((with_reducible refine iteT' ?_ ?_); first | rfl | exact decide_eq_true (by omega) | (simp <;> fail) | fail))
      refine .inr ⟨x, 7, _, rfl, isW _ (kq.trans (.but B_z)), ok7, .inr ⟨1 + z, congrArg V.int (by omega), by omega, by omega, .inl ⟨by decide, fun dd hdd => ⟨dd, "bits", rfl, upd_same, .inr (.inr (.inr ⟨rfl, fun t Hb Sb g_t => ?_⟩))⟩⟩⟩⟩
      have Sd := (same_new (o := .xd [(("part" : Str), .str "bits")]) hdd).trans Sb
      obtain ⟨at1, s3⟩ := s2.step ea ((Kq.but B_z).trans (.same Sd)) (Sd _ _ (B_z _ _ (ea _ _ g_h (fun _ z => nomatch z)) s2.n1)) (M.same Sd) (k := some ("misfit", "bits")) ⟨t, rfl, g_t⟩
      clear s2 M g_h kq ea Ta
      repeat (first | (with_reducible refine st_i0 rfl rfl rfl ?_) | ((with_reducible refine st_i rfl rfl ?_ rfl ?_); first | omega | exact ⟨by decide, by decide, by decide⟩ | exact .inl ⟨by decide, by decide⟩ | exact .inl ⟨by omega, by omega⟩ | exact .inr ⟨by omega, by omega⟩ | fail) | ((fail_if_success refine Exists.intro (α := Nat → Nat → L2.St → Hp → Prop) ?_ ?_); (fail_if_success refine Exists.intro (α := L2.St → Hp → Prop) ?_ ?_); (fail_if_success refine Exists.intro (α := Nat → L2.St → Hp → Prop) ?_ ?_); apply Exists.intro) | ((refine And.intro ?_ ?_); first | with_reducible rfl | with_reducible assumption | rfl | ((with_reducible apply SqL.of); assumption) | ((with_reducible apply SqT.of); assumption) | ((with_reducible apply OwnC.cl); assumption) | (with_reducible exact isI_int _) | (with_reducible exact upd_same) | ((with_reducible apply Mid.o); assumption) | ((with_reducible apply Mid.t); assumption) | (with_reducible exact ⟨_, SqT.of (by assumption)⟩) | (with_reducible exact ⟨_, SqL.of (by assumption)⟩) | omega | exact Nat.le_of_ble_eq_true rfl | exact nat9 (by omega) | (show _ ≤ sizeLine; decide) | exact ⟨by decide, by decide, by decide⟩ | exact .inl ⟨by decide, by decide⟩ | exact .inl ⟨by omega, by omega⟩ | exact .inr ⟨by omega, by omega⟩ | assumption | fail) | ((with_reducible refine iteF' ?_ ?_); first | rfl | exact decide_eq_false (by omega) | (simp <;> fail) | fail) | ((with_reducible refine iteT' ?_ ?_); first | rfl | exact decide_eq_true (by omega) | (simp <;> fail) | fail))
      clear at1
      have M := s3.mid
      have g_h := s3.at'
      repeat (first | (refine ⟨.inl ⟨rfl, _, SqL.of (by assumption)⟩, ?_⟩) | (with_reducible refine st_i0 rfl rfl rfl ?_) | ((with_reducible refine st_i rfl rfl ?_ rfl ?_); first | omega | exact ⟨by decide, by decide, by decide⟩ | exact .inl ⟨by decide, by decide⟩ | exact .inl ⟨by omega, by omega⟩ | exact .inr ⟨by omega, by omega⟩ | fail) | ((fail_if_success refine Exists.intro (α := Nat → Nat → L2.St → Hp → Prop) ?_ ?_); (fail_if_success refine Exists.intro (α := L2.St → Hp → Prop) ?_ ?_); (fail_if_success refine Exists.intro (α := Nat → L2.St → Hp → Prop) ?_ ?_); apply Exists.intro) | ((refine And.intro ?_ ?_); first | with_reducible rfl | with_reducible assumption | rfl | ((with_reducible apply SqL.of); assumption) | ((with_reducible apply SqT.of); assumption) | ((with_reducible apply OwnC.cl); assumption) | (with_reducible exact isI_int _) | (with_reducible exact upd_same) | ((with_reducible apply Mid.o); assumption) | ((with_reducible apply Mid.t); assumption) | (with_reducible exact ⟨_, SqT.of (by assumption)⟩) | (with_reducible exact ⟨_, SqL.of (by assumption)⟩) | omega | exact Nat.le_of_ble_eq_true rfl | exact nat9 (by omega) | (show _ ≤ sizeLine; decide) | exact ⟨by decide, by decide, by decide⟩ | exact .inl ⟨by decide, by decide⟩ | exact .inl ⟨by omega, by omega⟩ | exact .inr ⟨by omega, by omega⟩ | assumption | fail) | ((with_reducible refine iteF' ?_ ?_); first | rfl | exact decide_eq_false (by omega) | (simp <;> fail) | fail) | ((with_reducible refine iteT' ?_ ?_); first | rfl | exact decide_eq_true (by omega) | (simp <;> fail) | fail))
      intro Ha4 ea Ta
      replace M := M.ext ea Ta
      have kq := s3.kp.trans (.ext ea)
      repeat (first | (with_reducible refine st_i0 rfl rfl rfl ?_) | ((with_reducible refine st_i rfl rfl ?_ rfl ?_); first | omega | exact ⟨by decide, by decide, by decide⟩ | exact .inl ⟨by decide, by decide⟩ | exact .inl ⟨by omega, by omega⟩ | exact .inr ⟨by omega, by omega⟩ | fail) | ((fail_if_success refine Exists.intro (α := Nat → Nat → L2.St → Hp → Prop) ?_ ?_); (fail_if_success refine Exists.intro (α := L2.St → Hp → Prop) ?_ ?_); (fail_if_success refine Exists.intro (α := Nat → L2.St → Hp → Prop) ?_ ?_); apply Exists.intro) | ((refine And.intro ?_ ?_); first | with_reducible rfl | with_reducible assumption | rfl | ((with_reducible apply SqL.of); assumption) | ((with_reducible apply SqT.of); assumption) | ((with_reducible apply OwnC.cl); assumption) | (with_reducible exact isI_int _) | (with_reducible exact upd_same) | ((with_reducible apply Mid.o); assumption) | ((with_reducible apply Mid.t); assumption) | (with_reducible exact ⟨_, SqT.of (by assumption)⟩) | (with_reducible exact ⟨_, SqL.of (by assumption)⟩) | omega | exact Nat.le_of_ble_eq_true rfl | exact nat9 (by omega) | (show _ ≤ sizeLine; decide) | exact ⟨by decide, by decide, by decide⟩ | exact .inl ⟨by decide, by decide⟩ | exact .inl ⟨by omega, by omega⟩ | exact .inr ⟨by omega, by omega⟩ | assumption | fail) | ((with_reducible refine iteF' ?_ ?_); first | rfl | exact decide_eq_false (by omega) | (simp <;> fail) | fail) | ((with_reducible refine iteT' ?_ ?_); first | rfl | exact decide_eq_true (by omega) | (simp <;> fail) | fail))
      intro m1 h_m1
      generalize hE : upd _ m1 _ = H15
      obtain ⟨S_m1, g_m1⟩ := new_facts h_m1 hE
      clear hE
      repeat (first | (with_reducible refine st_i0 rfl rfl rfl ?_) | ((with_reducible refine st_i rfl rfl ?_ rfl ?_); first | omega | exact ⟨by decide, by decide, by decide⟩ | exact .inl ⟨by decide, by decide⟩ | exact .inl ⟨by omega, by omega⟩ | exact .inr ⟨by omega, by omega⟩ | fail) | ((fail_if_success refine Exists.intro (α := Nat → Nat → L2.St → Hp → Prop) ?_ ?_); (fail_if_success refine Exists.intro (α := L2.St → Hp → Prop) ?_ ?_); (fail_if_success refine Exists.intro (α := Nat → L2.St → Hp → Prop) ?_ ?_); apply Exists.intro) | ((refine And.intro ?_ ?_); first | with_reducible rfl | with_reducible assumption | rfl | ((with_reducible apply SqL.of); assumption) | ((with_reducible apply SqT.of); assumption) | ((with_reducible apply OwnC.cl); assumption) | (with_reducible exact isI_int _) | (with_reducible exact upd_same) | ((with_reducible apply Mid.o); assumption) | ((with_reducible apply Mid.t); assumption) | (with_reducible exact ⟨_, SqT.of (by assumption)⟩) | (with_reducible exact ⟨_, SqL.of (by assumption)⟩) | omega | exact Nat.le_of_ble_eq_true rfl | exact nat9 (by omega) | (show _ ≤ sizeLine; decide) | exact ⟨by decide, by decide, by decide⟩ | exact .inl ⟨by decide, by decide⟩ | exact .inl ⟨by omega, by omega⟩ | exact .inr ⟨by omega, by omega⟩ | assumption | fail) | ((with_reducible refine iteF' ?_ ?_); first | rfl | exact decide_eq_false (by omega) | (simp <;> fail) | fail) | ((with_reducible refine iteT' ?_ ?_); first | rfl | exact decide_eq_true (by omega) | (simp <;> fail) | fail))
      intro m2 h_m2
      generalize hE : upd _ m2 _ = H16
      obtain ⟨S_m2, g_m2⟩ := new_facts h_m2 hE
      clear hE
      rw [show (List.replicate (Int.toNat 256) [V.int 5]).flatten = (List.replicate (2 ^ 8) (some 5)).map mv by rw [List.flatten_replicate_singleton, List.map_replicate]; rfl] at g_m2
      repeat (first | (with_reducible refine st_i0 rfl rfl rfl ?_) | ((with_reducible refine st_i rfl rfl ?_ rfl ?_); first | omega | exact ⟨by decide, by decide, by decide⟩ | exact .inl ⟨by decide, by decide⟩ | exact .inl ⟨by omega, by omega⟩ | exact .inr ⟨by omega, by omega⟩ | fail) | ((fail_if_success refine Exists.intro (α := Nat → Nat → L2.St → Hp → Prop) ?_ ?_); (fail_if_success refine Exists.intro (α := L2.St → Hp → Prop) ?_ ?_); (fail_if_success refine Exists.intro (α := Nat → L2.St → Hp → Prop) ?_ ?_); apply Exists.intro) | ((refine And.intro ?_ ?_); first | with_reducible rfl | with_reducible assumption | rfl | ((with_reducible apply SqL.of); assumption) | ((with_reducible apply SqT.of); assumption) | ((with_reducible apply OwnC.cl); assumption) | (with_reducible exact isI_int _) | (with_reducible exact upd_same) | ((with_reducible apply Mid.o); assumption) | ((with_reducible apply Mid.t); assumption) | (with_reducible exact ⟨_, SqT.of (by assumption)⟩) | (with_reducible exact ⟨_, SqL.of (by assumption)⟩) | omega | exact Nat.le_of_ble_eq_true rfl | exact nat9 (by omega) | (show _ ≤ sizeLine; decide) | exact ⟨by decide, by decide, by decide⟩ | exact .inl ⟨by decide, by decide⟩ | exact .inl ⟨by omega, by omega⟩ | exact .inr ⟨by omega, by omega⟩ | assumption | fail) | ((with_reducible refine iteF' ?_ ?_); first | rfl | exact decide_eq_false (by omega) | (simp <;> fail) | fail) | ((with_reducible refine iteT' ?_ ?_); first | rfl | exact decide_eq_true (by omega) | (simp <;> fail) | fail))
      intro x2 dx2 nx2 ndx2 nex2
      have ok8 := okr 8 5 (by decide) (by decide) (by decide)
      refine make_lay ok8 (.inl g_m2) nx2 ndx2 fun H17 S17 hv => ?_
      repeat (first | (with_reducible refine st_i0 rfl rfl rfl ?_) | ((with_reducible refine st_i rfl rfl ?_ rfl ?_); first | omega | exact ⟨by decide, by decide, by decide⟩ | exact .inl ⟨by decide, by decide⟩ | exact .inl ⟨by omega, by omega⟩ | exact .inr ⟨by omega, by omega⟩ | fail) | ((fail_if_success refine Exists.intro (α := Nat → Nat → L2.St → Hp → Prop) ?_ ?_); (fail_if_success refine Exists.intro (α := L2.St → Hp → Prop) ?_ ?_); (fail_if_success refine Exists.intro (α := Nat → L2.St → Hp → Prop) ?_ ?_); apply Exists.intro) | ((refine And.intro ?_ ?_); first | with_reducible rfl | with_reducible assumption | rfl | ((with_reducible apply SqL.of); assumption) | ((with_reducible apply SqT.of); assumption) | ((with_reducible apply OwnC.cl); assumption) | (with_reducible exact isI_int _) | (with_reducible exact upd_same) | ((with_reducible apply Mid.o); assumption) | ((with_reducible apply Mid.t); assumption) | (with_reducible exact ⟨_, SqT.of (by assumption)⟩) | (with_reducible exact ⟨_, SqL.of (by assumption)⟩) | omega | exact Nat.le_of_ble_eq_true rfl | exact nat9 (by omega) | (show _ ≤ sizeLine; decide) | exact ⟨by decide, by decide, by decide⟩ | exact .inl ⟨by decide, by decide⟩ | exact .inl ⟨by omega, by omega⟩ | exact .inr ⟨by omega, by omega⟩ | assumption | fail) | ((with_reducible refine iteF' ?_ ?_); first | rfl | exact decide_eq_false (by omega) | (simp <;> fail) | fail) | ((with_reducible refine iteT' ?_ ?_); first | rfl | exact decide_eq_true (by omega) | (simp <;> fail) | fail))
      refine .inr ⟨x2, 8, _, rfl, hv, ok8, .inr ⟨3, rfl, by decide, by decide, .inl ⟨by decide, fun dd hdd => ⟨dd, "bits", rfl, upd_same, .inr (.inr (.inr ⟨rfl, fun t Hb Sb g_t => ?_⟩))⟩⟩⟩⟩
      have Sd := S_m1.trans (S_m2.trans (S17.trans ((same_new (o := .xd [(("part" : Str), .str "bits")]) hdd).trans Sb)))
      obtain ⟨at1, s4⟩ := s3.sstep ea Ta Sd (k := some ("misfit", "bits")) ⟨t, rfl, g_t⟩
      clear s3 M g_h kq ea Ta
      repeat (first | (with_reducible refine st_i0 rfl rfl rfl ?_) | ((with_reducible refine st_i rfl rfl ?_ rfl ?_); first | omega | exact ⟨by decide, by decide, by decide⟩ | exact .inl ⟨by decide, by decide⟩ | exact .inl ⟨by omega, by omega⟩ | exact .inr ⟨by omega, by omega⟩ | fail) | ((fail_if_success refine Exists.intro (α := Nat → Nat → L2.St → Hp → Prop) ?_ ?_); (fail_if_success refine Exists.intro (α := L2.St → Hp → Prop) ?_ ?_); (fail_if_success refine Exists.intro (α := Nat → L2.St → Hp → Prop) ?_ ?_); apply Exists.intro) | ((refine And.intro ?_ ?_); first | with_reducible rfl | with_reducible assumption | rfl | ((with_reducible apply SqL.of); assumption) | ((with_reducible apply SqT.of); assumption) | ((with_reducible apply OwnC.cl); assumption) | (with_reducible exact isI_int _) | (with_reducible exact upd_same) | ((with_reducible apply Mid.o); assumption) | ((with_reducible apply Mid.t); assumption) | (with_reducible exact ⟨_, SqT.of (by assumption)⟩) | (with_reducible exact ⟨_, SqL.of (by assumption)⟩) | omega | exact Nat.le_of_ble_eq_true rfl | exact nat9 (by omega) | (show _ ≤ sizeLine; decide) | exact ⟨by decide, by decide, by decide⟩ | exact .inl ⟨by decide, by decide⟩ | exact .inl ⟨by omega, by omega⟩ | exact .inr ⟨by omega, by omega⟩ | assumption | fail) | ((with_reducible refine iteF' ?_ ?_); first | rfl | exact decide_eq_false (by omega) | (simp <;> fail) | fail) | ((with_reducible refine iteT' ?_ ?_); first | rfl | exact decide_eq_true (by omega) | (simp <;> fail) | fail))
      clear at1
      clear hv g_m1 g_m2 nx2 ndx2 nex2 ok8
      have M := s4.mid
      have g_h := s4.at'
      repeat (first | (refine ⟨.inl ⟨rfl, _, SqL.of (by assumption)⟩, ?_⟩) | (with_reducible refine st_i0 rfl rfl rfl ?_) | ((with_reducible refine st_i rfl rfl ?_ rfl ?_); first | omega | exact ⟨by decide, by decide, by decide⟩ | exact .inl ⟨by decide, by decide⟩ | exact .inl ⟨by omega, by omega⟩ | exact .inr ⟨by omega, by omega⟩ | fail) | ((fail_if_success refine Exists.intro (α := Nat → Nat → L2.St → Hp → Prop) ?_ ?_); (fail_if_success refine Exists.intro (α := L2.St → Hp → Prop) ?_ ?_); (fail_if_success refine Exists.intro (α := Nat → L2.St → Hp → Prop) ?_ ?_); apply Exists.intro) | ((refine And.intro ?_ ?_); first | with_reducible rfl | with_reducible assumption | rfl | ((with_reducible apply SqL.of); assumption) | ((with_reducible apply SqT.of); assumption) | ((with_reducible apply OwnC.cl); assumption) | (with_reducible exact isI_int _) | (with_reducible exact upd_same) | ((with_reducible apply Mid.o); assumption) | ((with_reducible apply Mid.t); assumption) | (with_reducible exact ⟨_, SqT.of (by assumption)⟩) | (with_reducible exact ⟨_, SqL.of (by assumption)⟩) | omega | exact Nat.le_of_ble_eq_true rfl | exact nat9 (by omega) | (show _ ≤ sizeLine; decide) | exact ⟨by decide, by decide, by decide⟩ | exact .inl ⟨by decide, by decide⟩ | exact .inl ⟨by omega, by omega⟩ | exact .inr ⟨by omega, by omega⟩ | assumption | fail) | ((with_reducible refine iteF' ?_ ?_); first | rfl | exact decide_eq_false (by omega) | (simp <;> fail) | fail) | ((with_reducible refine iteT' ?_ ?_); first | rfl | exact decide_eq_true (by omega) | (simp <;> fail) | fail))
      intro Ha5 ea Ta
      replace M := M.ext ea Ta
      have kq := s4.kp.trans (.ext ea)
      repeat (first | (with_reducible refine st_i0 rfl rfl rfl ?_) | ((with_reducible refine st_i rfl rfl ?_ rfl ?_); first | omega | exact ⟨by decide, by decide, by decide⟩ | exact .inl ⟨by decide, by decide⟩ | exact .inl ⟨by omega, by omega⟩ | exact .inr ⟨by omega, by omega⟩ | fail) | ((fail_if_success refine Exists.intro (α := Nat → Nat → L2.St → Hp → Prop) ?_ ?_); (fail_if_success refine Exists.intro (α := L2.St → Hp → Prop) ?_ ?_); (fail_if_success refine Exists.intro (α := Nat → L2.St → Hp → Prop) ?_ ?_); apply Exists.intro) | ((refine And.intro ?_ ?_); first | with_reducible rfl | with_reducible assumption | rfl | ((with_reducible apply SqL.of); assumption) | ((with_reducible apply SqT.of); assumption) | ((with_reducible apply OwnC.cl); assumption) | (with_reducible exact isI_int _) | (with_reducible exact upd_same) | ((with_reducible apply Mid.o); assumption) | ((with_reducible apply Mid.t); assumption) | (with_reducible exact ⟨_, SqT.of (by assumption)⟩) | (with_reducible exact ⟨_, SqL.of (by assumption)⟩) | omega | exact Nat.le_of_ble_eq_true rfl | exact nat9 (by omega) | (show _ ≤ sizeLine; decide) | exact ⟨by decide, by decide, by decide⟩ | exact .inl ⟨by decide, by decide⟩ | exact .inl ⟨by omega, by omega⟩ | exact .inr ⟨by omega, by omega⟩ | assumption | fail) | ((with_reducible refine iteF' ?_ ?_); first | rfl | exact decide_eq_false (by omega) | (simp <;> fail) | fail) | ((with_reducible refine iteT' ?_ ?_); first | rfl | exact decide_eq_true (by omega) | (simp <;> fail) | fail))
      intro m1 h_m1
      generalize hE : upd _ m1 _ = H15
      obtain ⟨S_m1, g_m1⟩ := new_facts h_m1 hE
      clear hE
      repeat (first | (with_reducible refine st_i0 rfl rfl rfl ?_) | ((with_reducible refine st_i rfl rfl ?_ rfl ?_); first | omega | exact ⟨by decide, by decide, by decide⟩ | exact .inl ⟨by decide, by decide⟩ | exact .inl ⟨by omega, by omega⟩ | exact .inr ⟨by omega, by omega⟩ | fail) | ((fail_if_success refine Exists.intro (α := Nat → Nat → L2.St → Hp → Prop) ?_ ?_); (fail_if_success refine Exists.intro (α := L2.St → Hp → Prop) ?_ ?_); (fail_if_success refine Exists.intro (α := Nat → L2.St → Hp → Prop) ?_ ?_); apply Exists.intro) | ((refine And.intro ?_ ?_); first | with_reducible rfl | with_reducible assumption | rfl | ((with_reducible apply SqL.of); assumption) | ((with_reducible apply SqT.of); assumption) | ((with_reducible apply OwnC.cl); assumption) | (with_reducible exact isI_int _) | (with_reducible exact upd_same) | ((with_reducible apply Mid.o); assumption) | ((with_reducible apply Mid.t); assumption) | (with_reducible exact ⟨_, SqT.of (by assumption)⟩) | (with_reducible exact ⟨_, SqL.of (by assumption)⟩) | omega | exact Nat.le_of_ble_eq_true rfl | exact nat9 (by omega) | (show _ ≤ sizeLine; decide) | exact ⟨by decide, by decide, by decide⟩ | exact .inl ⟨by decide, by decide⟩ | exact .inl ⟨by omega, by omega⟩ | exact .inr ⟨by omega, by omega⟩ | assumption | fail) | ((with_reducible refine iteF' ?_ ?_); first | rfl | exact decide_eq_false (by omega) | (simp <;> fail) | fail) | ((with_reducible refine iteT' ?_ ?_); first | rfl | exact decide_eq_true (by omega) | (simp <;> fail) | fail))
      intro m2 h_m2
      generalize hE : upd _ m2 _ = H16
      obtain ⟨S_m2, g_m2⟩ := new_facts h_m2 hE
      clear hE
      rw [List.flatten_replicate_singleton] at g_m2
      repeat (first | (with_reducible refine st_i0 rfl rfl rfl ?_) | ((with_reducible refine st_i rfl rfl ?_ rfl ?_); first | omega | exact ⟨by decide, by decide, by decide⟩ | exact .inl ⟨by decide, by decide⟩ | exact .inl ⟨by omega, by omega⟩ | exact .inr ⟨by omega, by omega⟩ | fail) | ((fail_if_success refine Exists.intro (α := Nat → Nat → L2.St → Hp → Prop) ?_ ?_); (fail_if_success refine Exists.intro (α := L2.St → Hp → Prop) ?_ ?_); (fail_if_success refine Exists.intro (α := Nat → L2.St → Hp → Prop) ?_ ?_); apply Exists.intro) | ((refine And.intro ?_ ?_); first | with_reducible rfl | with_reducible assumption | rfl | ((with_reducible apply SqL.of); assumption) | ((with_reducible apply SqT.of); assumption) | ((with_reducible apply OwnC.cl); assumption) | (with_reducible exact isI_int _) | (with_reducible exact upd_same) | ((with_reducible apply Mid.o); assumption) | ((with_reducible apply Mid.t); assumption) | (with_reducible exact ⟨_, SqT.of (by assumption)⟩) | (with_reducible exact ⟨_, SqL.of (by assumption)⟩) | omega | exact Nat.le_of_ble_eq_true rfl | exact nat9 (by omega) | (show _ ≤ sizeLine; decide) | exact ⟨by decide, by decide, by decide⟩ | exact .inl ⟨by decide, by decide⟩ | exact .inl ⟨by omega, by omega⟩ | exact .inr ⟨by omega, by omega⟩ | assumption | fail) | ((with_reducible refine iteF' ?_ ?_); first | rfl | exact decide_eq_false (by omega) | (simp <;> fail) | fail) | ((with_reducible refine iteT' ?_ ?_); first | rfl | exact decide_eq_true (by omega) | (simp <;> fail) | fail))
      intro m3 h_m3
      generalize hE : upd _ m3 _ = H17
      obtain ⟨S_m3, g_m3⟩ := new_facts h_m3 hE
      clear hE
      replace g_m2 := S_m3 _ _ g_m2
      repeat (first | (with_reducible refine st_i0 rfl rfl rfl ?_) | ((with_reducible refine st_i rfl rfl ?_ rfl ?_); first | omega | exact ⟨by decide, by decide, by decide⟩ | exact .inl ⟨by decide, by decide⟩ | exact .inl ⟨by omega, by omega⟩ | exact .inr ⟨by omega, by omega⟩ | fail) | ((fail_if_success refine Exists.intro (α := Nat → Nat → L2.St → Hp → Prop) ?_ ?_); (fail_if_success refine Exists.intro (α := L2.St → Hp → Prop) ?_ ?_); (fail_if_success refine Exists.intro (α := Nat → L2.St → Hp → Prop) ?_ ?_); apply Exists.intro) | ((refine And.intro ?_ ?_); first | with_reducible rfl | with_reducible assumption | rfl | ((with_reducible apply SqL.of); assumption) | ((with_reducible apply SqT.of); assumption) | ((with_reducible apply OwnC.cl); assumption) | (with_reducible exact isI_int _) | (with_reducible exact upd_same) | ((with_reducible apply Mid.o); assumption) | ((with_reducible apply Mid.t); assumption) | (with_reducible exact ⟨_, SqT.of (by assumption)⟩) | (with_reducible exact ⟨_, SqL.of (by assumption)⟩) | omega | exact Nat.le_of_ble_eq_true rfl | exact nat9 (by omega) | (show _ ≤ sizeLine; decide) | exact ⟨by decide, by decide, by decide⟩ | exact .inl ⟨by decide, by decide⟩ | exact .inl ⟨by omega, by omega⟩ | exact .inr ⟨by omega, by omega⟩ | assumption | fail) | ((with_reducible refine iteF' ?_ ?_); first | rfl | exact decide_eq_false (by omega) | (simp <;> fail) | fail) | ((with_reducible refine iteT' ?_ ?_); first | rfl | exact decide_eq_true (by omega) | (simp <;> fail) | fail))
      intro m4 h_m4
      generalize hE : upd _ m4 _ = H18
      obtain ⟨S_m4, g_m4⟩ := new_facts h_m4 hE
      clear hE
      rw [show List.replicate (Int.toNat 63) V.non ++ [V.int 31] = ms6.map mv by decide +kernel] at g_m4
      repeat (first | (with_reducible refine st_i0 rfl rfl rfl ?_) | ((with_reducible refine st_i rfl rfl ?_ rfl ?_); first | omega | exact ⟨by decide, by decide, by decide⟩ | exact .inl ⟨by decide, by decide⟩ | exact .inl ⟨by omega, by omega⟩ | exact .inr ⟨by omega, by omega⟩ | fail) | ((fail_if_success refine Exists.intro (α := Nat → Nat → L2.St → Hp → Prop) ?_ ?_); (fail_if_success refine Exists.intro (α := L2.St → Hp → Prop) ?_ ?_); (fail_if_success refine Exists.intro (α := Nat → L2.St → Hp → Prop) ?_ ?_); apply Exists.intro) | ((refine And.intro ?_ ?_); first | with_reducible rfl | with_reducible assumption | rfl | ((with_reducible apply SqL.of); assumption) | ((with_reducible apply SqT.of); assumption) | ((with_reducible apply OwnC.cl); assumption) | (with_reducible exact isI_int _) | (with_reducible exact upd_same) | ((with_reducible apply Mid.o); assumption) | ((with_reducible apply Mid.t); assumption) | (with_reducible exact ⟨_, SqT.of (by assumption)⟩) | (with_reducible exact ⟨_, SqL.of (by assumption)⟩) | omega | exact Nat.le_of_ble_eq_true rfl | exact nat9 (by omega) | (show _ ≤ sizeLine; decide) | exact ⟨by decide, by decide, by decide⟩ | exact .inl ⟨by decide, by decide⟩ | exact .inl ⟨by omega, by omega⟩ | exact .inr ⟨by omega, by omega⟩ | assumption | fail) | ((with_reducible refine iteF' ?_ ?_); first | rfl | exact decide_eq_false (by omega) | (simp <;> fail) | fail) | ((with_reducible refine iteT' ?_ ?_); first | rfl | exact decide_eq_true (by omega) | (simp <;> fail) | fail))
      intro x2 dx2 nx2 ndx2 nex2
      refine make_lay ok6 (.inl g_m4) nx2 ndx2 fun H19 S19 hv => ?_
      repeat (first | (with_reducible refine st_i0 rfl rfl rfl ?_) | ((with_reducible refine st_i rfl rfl ?_ rfl ?_); first | omega | exact ⟨by decide, by decide, by decide⟩ | exact .inl ⟨by decide, by decide⟩ | exact .inl ⟨by omega, by omega⟩ | exact .inr ⟨by omega, by omega⟩ | fail) | ((fail_if_success refine Exists.intro (α := Nat → Nat → L2.St → Hp → Prop) ?_ ?_); (fail_if_success refine Exists.intro (α := L2.St → Hp → Prop) ?_ ?_); (fail_if_success refine Exists.intro (α := Nat → L2.St → Hp → Prop) ?_ ?_); apply Exists.intro) | ((refine And.intro ?_ ?_); first | with_reducible rfl | with_reducible assumption | rfl | ((with_reducible apply SqL.of); assumption) | ((with_reducible apply SqT.of); assumption) | ((with_reducible apply OwnC.cl); assumption) | (with_reducible exact isI_int _) | (with_reducible exact upd_same) | ((with_reducible apply Mid.o); assumption) | ((with_reducible apply Mid.t); assumption) | (with_reducible exact ⟨_, SqT.of (by assumption)⟩) | (with_reducible exact ⟨_, SqL.of (by assumption)⟩) | omega | exact Nat.le_of_ble_eq_true rfl | exact nat9 (by omega) | (show _ ≤ sizeLine; decide) | exact ⟨by decide, by decide, by decide⟩ | exact .inl ⟨by decide, by decide⟩ | exact .inl ⟨by omega, by omega⟩ | exact .inr ⟨by omega, by omega⟩ | assumption | fail) | ((with_reducible refine iteF' ?_ ?_); first | rfl | exact decide_eq_false (by omega) | (simp <;> fail) | fail) | ((with_reducible refine iteT' ?_ ?_); first | rfl | exact decide_eq_true (by omega) | (simp <;> fail) | fail))
      refine .inr ⟨x2, 6, _, rfl, hv, ok6, .inr ⟨31, rfl, by decide, by decide, .inr ⟨by decide, .inl ⟨.inr g6, fun Hz Sz => fun dd hdd => ⟨dd, "states", rfl, upd_same, .inr (.inr (.inr ⟨rfl, fun t Hb Sb g_t => ?_⟩))⟩⟩⟩⟩⟩
      have Sd := S_m1.trans (S_m2.trans (S_m3.trans (S_m4.trans (S19.trans (Sz.trans ((same_new (o := .xd [(("part" : Str), .str "states")]) hdd).trans Sb))))))
      obtain ⟨at1, s5⟩ := s4.sstep ea Ta Sd (k := some ("misfit", "states")) ⟨t, rfl, g_t⟩
      clear s4 M g_h kq ea Ta
      repeat (first | (with_reducible refine st_i0 rfl rfl rfl ?_) | ((with_reducible refine st_i rfl rfl ?_ rfl ?_); first | omega | exact ⟨by decide, by decide, by decide⟩ | exact .inl ⟨by decide, by decide⟩ | exact .inl ⟨by omega, by omega⟩ | exact .inr ⟨by omega, by omega⟩ | fail) | ((fail_if_success refine Exists.intro (α := Nat → Nat → L2.St → Hp → Prop) ?_ ?_); (fail_if_success refine Exists.intro (α := L2.St → Hp → Prop) ?_ ?_); (fail_if_success refine Exists.intro (α := Nat → L2.St → Hp → Prop) ?_ ?_); apply Exists.intro) | ((refine And.intro ?_ ?_); first | with_reducible rfl | with_reducible assumption | rfl | ((with_reducible apply SqL.of); assumption) | ((with_reducible apply SqT.of); assumption) | ((with_reducible apply OwnC.cl); assumption) | (with_reducible exact isI_int _) | (with_reducible exact upd_same) | ((with_reducible apply Mid.o); assumption) | ((with_reducible apply Mid.t); assumption) | (with_reducible exact ⟨_, SqT.of (by assumption)⟩) | (with_reducible exact ⟨_, SqL.of (by assumption)⟩) | omega | exact Nat.le_of_ble_eq_true rfl | exact nat9 (by omega) | (show _ ≤ sizeLine; decide) | exact ⟨by decide, by decide, by decide⟩ | exact .inl ⟨by decide, by decide⟩ | exact .inl ⟨by omega, by omega⟩ | exact .inr ⟨by omega, by omega⟩ | assumption | fail) | ((with_reducible refine iteF' ?_ ?_); first | rfl | exact decide_eq_false (by omega) | (simp <;> fail) | fail) | ((with_reducible refine iteT' ?_ ?_); first | rfl | exact decide_eq_true (by omega) | (simp <;> fail) | fail))
      clear at1
      clear hv g_m1 g_m2 g_m3 g_m4 nx2 ndx2 nex2
      have M := s5.mid
      have g_h := s5.at'
      repeat (first | (refine ⟨.inl ⟨rfl, _, SqL.of (by assumption)⟩, ?_⟩) | (with_reducible refine st_i0 rfl rfl rfl ?_) | ((with_reducible refine st_i rfl rfl ?_ rfl ?_); first | omega | exact ⟨by decide, by decide, by decide⟩ | exact .inl ⟨by decide, by decide⟩ | exact .inl ⟨by omega, by omega⟩ | exact .inr ⟨by omega, by omega⟩ | fail) | ((fail_if_success refine Exists.intro (α := Nat → Nat → L2.St → Hp → Prop) ?_ ?_); (fail_if_success refine Exists.intro (α := L2.St → Hp → Prop) ?_ ?_); (fail_if_success refine Exists.intro (α := Nat → L2.St → Hp → Prop) ?_ ?_); apply Exists.intro) | ((refine And.intro ?_ ?_); first | with_reducible rfl | with_reducible assumption | rfl | ((with_reducible apply SqL.of); assumption) | ((with_reducible apply SqT.of); assumption) | ((with_reducible apply OwnC.cl); assumption) | (with_reducible exact isI_int _) | (with_reducible exact upd_same) | ((with_reducible apply Mid.o); assumption) | ((with_reducible apply Mid.t); assumption) | (with_reducible exact ⟨_, SqT.of (by assumption)⟩) | (with_reducible exact ⟨_, SqL.of (by assumption)⟩) | omega | exact Nat.le_of_ble_eq_true rfl | exact nat9 (by omega) | (show _ ≤ sizeLine; decide) | exact ⟨by decide, by decide, by decide⟩ | exact .inl ⟨by decide, by decide⟩ | exact .inl ⟨by omega, by omega⟩ | exact .inr ⟨by omega, by omega⟩ | assumption | fail) | ((with_reducible refine iteF' ?_ ?_); first | rfl | exact decide_eq_false (by omega) | (simp <;> fail) | fail) | ((with_reducible refine iteT' ?_ ?_); first | rfl | exact decide_eq_true (by omega) | (simp <;> fail) | fail))
      intro Ha6 ea Ta
      replace M := M.ext ea Ta
      have kq := s5.kp.trans (.ext ea)
      repeat (first | (with_reducible refine st_i0 rfl rfl rfl ?_) | ((with_reducible refine st_i rfl rfl ?_ rfl ?_); first | omega | exact ⟨by decide, by decide, by decide⟩ | exact .inl ⟨by decide, by decide⟩ | exact .inl ⟨by omega, by omega⟩ | exact .inr ⟨by omega, by omega⟩ | fail) | ((fail_if_success refine Exists.intro (α := Nat → Nat → L2.St → Hp → Prop) ?_ ?_); (fail_if_success refine Exists.intro (α := L2.St → Hp → Prop) ?_ ?_); (fail_if_success refine Exists.intro (α := Nat → L2.St → Hp → Prop) ?_ ?_); apply Exists.intro) | ((refine And.intro ?_ ?_); first | with_reducible rfl | with_reducible assumption | rfl | ((with_reducible apply SqL.of); assumption) | ((with_reducible apply SqT.of); assumption) | ((with_reducible apply OwnC.cl); assumption) | (with_reducible exact isI_int _) | (with_reducible exact upd_same) | ((with_reducible apply Mid.o); assumption) | ((with_reducible apply Mid.t); assumption) | (with_reducible exact ⟨_, SqT.of (by assumption)⟩) | (with_reducible exact ⟨_, SqL.of (by assumption)⟩) | omega | exact Nat.le_of_ble_eq_true rfl | exact nat9 (by omega) | (show _ ≤ sizeLine; decide) | exact ⟨by decide, by decide, by decide⟩ | exact .inl ⟨by decide, by decide⟩ | exact .inl ⟨by omega, by omega⟩ | exact .inr ⟨by omega, by omega⟩ | assumption | fail) | ((with_reducible refine iteF' ?_ ?_); first | rfl | exact decide_eq_false (by omega) | (simp <;> fail) | fail) | ((with_reducible refine iteT' ?_ ?_); first | rfl | exact decide_eq_true (by omega) | (simp <;> fail) | fail))
      intro m1 h_m1
      generalize hE : upd _ m1 _ = H15
      obtain ⟨S_m1, g_m1⟩ := new_facts h_m1 hE
      clear hE
      repeat (first | (with_reducible refine st_i0 rfl rfl rfl ?_) | ((with_reducible refine st_i rfl rfl ?_ rfl ?_); first | omega | exact ⟨by decide, by decide, by decide⟩ | exact .inl ⟨by decide, by decide⟩ | exact .inl ⟨by omega, by omega⟩ | exact .inr ⟨by omega, by omega⟩ | fail) | ((fail_if_success refine Exists.intro (α := Nat → Nat → L2.St → Hp → Prop) ?_ ?_); (fail_if_success refine Exists.intro (α := L2.St → Hp → Prop) ?_ ?_); (fail_if_success refine Exists.intro (α := Nat → L2.St → Hp → Prop) ?_ ?_); apply Exists.intro) | ((refine And.intro ?_ ?_); first | with_reducible rfl | with_reducible assumption | rfl | ((with_reducible apply SqL.of); assumption) | ((with_reducible apply SqT.of); assumption) | ((with_reducible apply OwnC.cl); assumption) | (with_reducible exact isI_int _) | (with_reducible exact upd_same) | ((with_reducible apply Mid.o); assumption) | ((with_reducible apply Mid.t); assumption) | (with_reducible exact ⟨_, SqT.of (by assumption)⟩) | (with_reducible exact ⟨_, SqL.of (by assumption)⟩) | omega | exact Nat.le_of_ble_eq_true rfl | exact nat9 (by omega) | (show _ ≤ sizeLine; decide) | exact ⟨by decide, by decide, by decide⟩ | exact .inl ⟨by decide, by decide⟩ | exact .inl ⟨by omega, by omega⟩ | exact .inr ⟨by omega, by omega⟩ | assumption | fail) | ((with_reducible refine iteF' ?_ ?_); first | rfl | exact decide_eq_false (by omega) | (simp <;> fail) | fail) | ((with_reducible refine iteT' ?_ ?_); first | rfl | exact decide_eq_true (by omega) | (simp <;> fail) | fail))
      intro m2 h_m2
      generalize hE : upd _ m2 _ = H16
      obtain ⟨S_m2, g_m2⟩ := new_facts h_m2 hE
      clear hE
      rw [List.flatten_replicate_singleton] at g_m2
      repeat (first | (with_reducible refine st_i0 rfl rfl rfl ?_) | ((with_reducible refine st_i rfl rfl ?_ rfl ?_); first | omega | exact ⟨by decide, by decide, by decide⟩ | exact .inl ⟨by decide, by decide⟩ | exact .inl ⟨by omega, by omega⟩ | exact .inr ⟨by omega, by omega⟩ | fail) | ((fail_if_success refine Exists.intro (α := Nat → Nat → L2.St → Hp → Prop) ?_ ?_); (fail_if_success refine Exists.intro (α := L2.St → Hp → Prop) ?_ ?_); (fail_if_success refine Exists.intro (α := Nat → L2.St → Hp → Prop) ?_ ?_); apply Exists.intro) | ((refine And.intro ?_ ?_); first | with_reducible rfl | with_reducible assumption | rfl | ((with_reducible apply SqL.of); assumption) | ((with_reducible apply SqT.of); assumption) | ((with_reducible apply OwnC.cl); assumption) | (with_reducible exact isI_int _) | (with_reducible exact upd_same) | ((with_reducible apply Mid.o); assumption) | ((with_reducible apply Mid.t); assumption) | (with_reducible exact ⟨_, SqT.of (by assumption)⟩) | (with_reducible exact ⟨_, SqL.of (by assumption)⟩) | omega | exact Nat.le_of_ble_eq_true rfl | exact nat9 (by omega) | (show _ ≤ sizeLine; decide) | exact ⟨by decide, by decide, by decide⟩ | exact .inl ⟨by decide, by decide⟩ | exact .inl ⟨by omega, by omega⟩ | exact .inr ⟨by omega, by omega⟩ | assumption | fail) | ((with_reducible refine iteF' ?_ ?_); first | rfl | exact decide_eq_false (by omega) | (simp <;> fail) | fail) | ((with_reducible refine iteT' ?_ ?_); first | rfl | exact decide_eq_true (by omega) | (simp <;> fail) | fail))
      intro m3 h_m3
      generalize hE : upd _ m3 _ = H17
      obtain ⟨S_m3, g_m3⟩ := new_facts h_m3 hE
      clear hE
      replace g_m2 := S_m3 _ _ g_m2
      repeat (first | (with_reducible refine st_i0 rfl rfl rfl ?_) | ((with_reducible refine st_i rfl rfl ?_ rfl ?_); first | omega | exact ⟨by decide, by decide, by decide⟩ | exact .inl ⟨by decide, by decide⟩ | exact .inl ⟨by omega, by omega⟩ | exact .inr ⟨by omega, by omega⟩ | fail) | ((fail_if_success refine Exists.intro (α := Nat → Nat → L2.St → Hp → Prop) ?_ ?_); (fail_if_success refine Exists.intro (α := L2.St → Hp → Prop) ?_ ?_); (fail_if_success refine Exists.intro (α := Nat → L2.St → Hp → Prop) ?_ ?_); apply Exists.intro) | ((refine And.intro ?_ ?_); first | with_reducible rfl | with_reducible assumption | rfl | ((with_reducible apply SqL.of); assumption) | ((with_reducible apply SqT.of); assumption) | ((with_reducible apply OwnC.cl); assumption) | (with_reducible exact isI_int _) | (with_reducible exact upd_same) | ((with_reducible apply Mid.o); assumption) | ((with_reducible apply Mid.t); assumption) | (with_reducible exact ⟨_, SqT.of (by assumption)⟩) | (with_reducible exact ⟨_, SqL.of (by assumption)⟩) | omega | exact Nat.le_of_ble_eq_true rfl | exact nat9 (by omega) | (show _ ≤ sizeLine; decide) | exact ⟨by decide, by decide, by decide⟩ | exact .inl ⟨by decide, by decide⟩ | exact .inl ⟨by omega, by omega⟩ | exact .inr ⟨by omega, by omega⟩ | assumption | fail) | ((with_reducible refine iteF' ?_ ?_); first | rfl | exact decide_eq_false (by omega) | (simp <;> fail) | fail) | ((with_reducible refine iteT' ?_ ?_); first | rfl | exact decide_eq_true (by omega) | (simp <;> fail) | fail))
      intro m4 h_m4
      generalize hE : upd _ m4 _ = H18
      obtain ⟨S_m4, g_m4⟩ := new_facts h_m4 hE
      clear hE
      rw [show List.replicate (Int.toNat 63) V.non ++ [V.int 31] = ms6.map mv by decide +kernel] at g_m4
      repeat (first | (with_reducible refine st_i0 rfl rfl rfl ?_) | ((with_reducible refine st_i rfl rfl ?_ rfl ?_); first | omega | exact ⟨by decide, by decide, by decide⟩ | exact .inl ⟨by decide, by decide⟩ | exact .inl ⟨by omega, by omega⟩ | exact .inr ⟨by omega, by omega⟩ | fail) | ((fail_if_success refine Exists.intro (α := Nat → Nat → L2.St → Hp → Prop) ?_ ?_); (fail_if_success refine Exists.intro (α := L2.St → Hp → Prop) ?_ ?_); (fail_if_success refine Exists.intro (α := Nat → L2.St → Hp → Prop) ?_ ?_); apply Exists.intro) | ((refine And.intro ?_ ?_); first | with_reducible rfl | with_reducible assumption | rfl | ((with_reducible apply SqL.of); assumption) | ((with_reducible apply SqT.of); assumption) | ((with_reducible apply OwnC.cl); assumption) | (with_reducible exact isI_int _) | (with_reducible exact upd_same) | ((with_reducible apply Mid.o); assumption) | ((with_reducible apply Mid.t); assumption) | (with_reducible exact ⟨_, SqT.of (by assumption)⟩) | (with_reducible exact ⟨_, SqL.of (by assumption)⟩) | omega | exact Nat.le_of_ble_eq_true rfl | exact nat9 (by omega) | (show _ ≤ sizeLine; decide) | exact ⟨by decide, by decide, by decide⟩ | exact .inl ⟨by decide, by decide⟩ | exact .inl ⟨by omega, by omega⟩ | exact .inr ⟨by omega, by omega⟩ | assumption | fail) | ((with_reducible refine iteF' ?_ ?_); first | rfl | exact decide_eq_false (by omega) | (simp <;> fail) | fail) | ((with_reducible refine iteT' ?_ ?_); first | rfl | exact decide_eq_true (by omega) | (simp <;> fail) | fail))
      intro x2 dx2 nx2 ndx2 nex2
      refine make_lay ok6 (.inl g_m4) nx2 ndx2 fun H19 S19 hv => ?_
      repeat (first | (with_reducible refine st_i0 rfl rfl rfl ?_) | ((with_reducible refine st_i rfl rfl ?_ rfl ?_); first | omega | exact ⟨by decide, by decide, by decide⟩ | exact .inl ⟨by decide, by decide⟩ | exact .inl ⟨by omega, by omega⟩ | exact .inr ⟨by omega, by omega⟩ | fail) | ((fail_if_success refine Exists.intro (α := Nat → Nat → L2.St → Hp → Prop) ?_ ?_); (fail_if_success refine Exists.intro (α := L2.St → Hp → Prop) ?_ ?_); (fail_if_success refine Exists.intro (α := Nat → L2.St → Hp → Prop) ?_ ?_); apply Exists.intro) | ((refine And.intro ?_ ?_); first | with_reducible rfl | with_reducible assumption | rfl | ((with_reducible apply SqL.of); assumption) | ((with_reducible apply SqT.of); assumption) | ((with_reducible apply OwnC.cl); assumption) | (with_reducible exact isI_int _) | (with_reducible exact upd_same) | ((with_reducible apply Mid.o); assumption) | ((with_reducible apply Mid.t); assumption) | (with_reducible exact ⟨_, SqT.of (by assumption)⟩) | (with_reducible exact ⟨_, SqL.of (by assumption)⟩) | omega | exact Nat.le_of_ble_eq_true rfl | exact nat9 (by omega) | (show _ ≤ sizeLine; decide) | exact ⟨by decide, by decide, by decide⟩ | exact .inl ⟨by decide, by decide⟩ | exact .inl ⟨by omega, by omega⟩ | exact .inr ⟨by omega, by omega⟩ | assumption | fail) | ((with_reducible refine iteF' ?_ ?_); first | rfl | exact decide_eq_false (by omega) | (simp <;> fail) | fail) | ((with_reducible refine iteT' ?_ ?_); first | rfl | exact decide_eq_true (by omega) | (simp <;> fail) | fail))
      refine .inr ⟨x2, 6, _, rfl, hv, ok6, .inr ⟨32, rfl, by decide, by decide, .inr ⟨by decide, .inr ⟨by decide, g6', fun tz Hz nz Sz lz => fun Hb Sb => ?_⟩⟩⟩⟩
      have Sd := S_m1.trans (S_m2.trans (S_m3.trans (S_m4.trans (S19.trans (Sz.trans Sb)))))
      obtain ⟨at1, s6⟩ := s5.sstep ea Ta Sd (k := none) rfl
      clear s5 M g_h kq ea Ta
      repeat (first | (with_reducible refine st_i0 rfl rfl rfl ?_) | ((with_reducible refine st_i rfl rfl ?_ rfl ?_); first | omega | exact ⟨by decide, by decide, by decide⟩ | exact .inl ⟨by decide, by decide⟩ | exact .inl ⟨by omega, by omega⟩ | exact .inr ⟨by omega, by omega⟩ | fail) | ((fail_if_success refine Exists.intro (α := Nat → Nat → L2.St → Hp → Prop) ?_ ?_); (fail_if_success refine Exists.intro (α := L2.St → Hp → Prop) ?_ ?_); (fail_if_success refine Exists.intro (α := Nat → L2.St → Hp → Prop) ?_ ?_); apply Exists.intro) | ((refine And.intro ?_ ?_); first | with_reducible rfl | with_reducible assumption | rfl | ((with_reducible apply SqL.of); assumption) | ((with_reducible apply SqT.of); assumption) | ((with_reducible apply OwnC.cl); assumption) | (with_reducible exact isI_int _) | (with_reducible exact upd_same) | ((with_reducible apply Mid.o); assumption) | ((with_reducible apply Mid.t); assumption) | (with_reducible exact ⟨_, SqT.of (by assumption)⟩) | (with_reducible exact ⟨_, SqL.of (by assumption)⟩) | omega | exact Nat.le_of_ble_eq_true rfl | exact nat9 (by omega) | (show _ ≤ sizeLine; decide) | exact ⟨by decide, by decide, by decide⟩ | exact .inl ⟨by decide, by decide⟩ | exact .inl ⟨by omega, by omega⟩ | exact .inr ⟨by omega, by omega⟩ | assumption | fail) | ((with_reducible refine iteF' ?_ ?_); first | rfl | exact decide_eq_false (by omega) | (simp <;> fail) | fail) | ((with_reducible refine iteT' ?_ ?_); first | rfl | exact decide_eq_true (by omega) | (simp <;> fail) | fail))
      clear at1
      clear hv g_m1 g_m2 g_m3 g_m4 nx2 ndx2 nex2
      have M := s6.mid
      have g_h := s6.at'
      repeat (first | (refine ⟨.inl ⟨rfl, _, SqL.of (by assumption)⟩, ?_⟩) | (with_reducible refine st_i0 rfl rfl rfl ?_) | ((with_reducible refine st_i rfl rfl ?_ rfl ?_); first | omega | exact ⟨by decide, by decide, by decide⟩ | exact .inl ⟨by decide, by decide⟩ | exact .inl ⟨by omega, by omega⟩ | exact .inr ⟨by omega, by omega⟩ | fail) | ((fail_if_success refine Exists.intro (α := Nat → Nat → L2.St → Hp → Prop) ?_ ?_); (fail_if_success refine Exists.intro (α := L2.St → Hp → Prop) ?_ ?_); (fail_if_success refine Exists.intro (α := Nat → L2.St → Hp → Prop) ?_ ?_); apply Exists.intro) | ((refine And.intro ?_ ?_); first | with_reducible rfl | with_reducible assumption | rfl | ((with_reducible apply SqL.of); assumption) | ((with_reducible apply SqT.of); assumption) | ((with_reducible apply OwnC.cl); assumption) | (with_reducible exact isI_int _) | (with_reducible exact upd_same) | ((with_reducible apply Mid.o); assumption) | ((with_reducible apply Mid.t); assumption) | (with_reducible exact ⟨_, SqT.of (by assumption)⟩) | (with_reducible exact ⟨_, SqL.of (by assumption)⟩) | omega | exact Nat.le_of_ble_eq_true rfl | exact nat9 (by omega) | (show _ ≤ sizeLine; decide) | exact ⟨by decide, by decide, by decide⟩ | exact .inl ⟨by decide, by decide⟩ | exact .inl ⟨by omega, by omega⟩ | exact .inr ⟨by omega, by omega⟩ | assumption | fail) | ((with_reducible refine iteF' ?_ ?_); first | rfl | exact decide_eq_false (by omega) | (simp <;> fail) | fail) | ((with_reducible refine iteT' ?_ ?_); first | rfl | exact decide_eq_true (by omega) | (simp <;> fail) | fail))
      intro Ha7 ea Ta
      replace M := M.ext ea Ta
      have kq := s6.kp.trans (.ext ea)
      repeat (first | (with_reducible refine st_i0 rfl rfl rfl ?_) | ((with_reducible refine st_i rfl rfl ?_ rfl ?_); first | omega | exact ⟨by decide, by decide, by decide⟩ | exact .inl ⟨by decide, by decide⟩ | exact .inl ⟨by omega, by omega⟩ | exact .inr ⟨by omega, by omega⟩ | fail) | ((fail_if_success refine Exists.intro (α := Nat → Nat → L2.St → Hp → Prop) ?_ ?_); (fail_if_success refine Exists.intro (α := L2.St → Hp → Prop) ?_ ?_); (fail_if_success refine Exists.intro (α := Nat → L2.St → Hp → Prop) ?_ ?_); apply Exists.intro) | ((refine And.intro ?_ ?_); first | with_reducible rfl | with_reducible assumption | rfl | ((with_reducible apply SqL.of); assumption) | ((with_reducible apply SqT.of); assumption) | ((with_reducible apply OwnC.cl); assumption) | (with_reducible exact isI_int _) | (with_reducible exact upd_same) | ((with_reducible apply Mid.o); assumption) | ((with_reducible apply Mid.t); assumption) | (with_reducible exact ⟨_, SqT.of (by assumption)⟩) | (with_reducible exact ⟨_, SqL.of (by assumption)⟩) | omega | exact Nat.le_of_ble_eq_true rfl | exact nat9 (by omega) | (show _ ≤ sizeLine; decide) | exact ⟨by decide, by decide, by decide⟩ | exact .inl ⟨by decide, by decide⟩ | exact .inl ⟨by omega, by omega⟩ | exact .inr ⟨by omega, by omega⟩ | assumption | fail) | ((with_reducible refine iteF' ?_ ?_); first | rfl | exact decide_eq_false (by omega) | (simp <;> fail) | fail) | ((with_reducible refine iteT' ?_ ?_); first | rfl | exact decide_eq_true (by omega) | (simp <;> fail) | fail))
      refine .inl ⟨badC _ kq, fun dd hdd => ⟨dd, "code", rfl, upd_same, .inl ⟨rfl, fun t Hb Sb g_t => ?_⟩⟩⟩
      have Sd := (same_new (o := .xd [(("part" : Str), .str "code")]) hdd).trans Sb
      obtain ⟨at1, s7⟩ := s6.sstep ea Ta Sd (k := some ("code", "code")) ⟨t, rfl, g_t⟩
      clear s6 M g_h kq ea Ta
      repeat (first | (with_reducible refine st_i0 rfl rfl rfl ?_) | ((with_reducible refine st_i rfl rfl ?_ rfl ?_); first | omega | exact ⟨by decide, by decide, by decide⟩ | exact .inl ⟨by decide, by decide⟩ | exact .inl ⟨by omega, by omega⟩ | exact .inr ⟨by omega, by omega⟩ | fail) | ((fail_if_success refine Exists.intro (α := Nat → Nat → L2.St → Hp → Prop) ?_ ?_); (fail_if_success refine Exists.intro (α := L2.St → Hp → Prop) ?_ ?_); (fail_if_success refine Exists.intro (α := Nat → L2.St → Hp → Prop) ?_ ?_); apply Exists.intro) | ((refine And.intro ?_ ?_); first | with_reducible rfl | with_reducible assumption | rfl | ((with_reducible apply SqL.of); assumption) | ((with_reducible apply SqT.of); assumption) | ((with_reducible apply OwnC.cl); assumption) | (with_reducible exact isI_int _) | (with_reducible exact upd_same) | ((with_reducible apply Mid.o); assumption) | ((with_reducible apply Mid.t); assumption) | (with_reducible exact ⟨_, SqT.of (by assumption)⟩) | (with_reducible exact ⟨_, SqL.of (by assumption)⟩) | omega | exact Nat.le_of_ble_eq_true rfl | exact nat9 (by omega) | (show _ ≤ sizeLine; decide) | exact ⟨by decide, by decide, by decide⟩ | exact .inl ⟨by decide, by decide⟩ | exact .inl ⟨by omega, by omega⟩ | exact .inr ⟨by omega, by omega⟩ | assumption | fail) | ((with_reducible refine iteF' ?_ ?_); first | rfl | exact decide_eq_false (by omega) | (simp <;> fail) | fail) | ((with_reducible refine iteT' ?_ ?_); first | rfl | exact decide_eq_true (by omega) | (simp <;> fail) | fail))
      clear at1
      have at9 := s7.at'
      have re9 := s7.res
      have M := s7.mid
      clear s7
      generalize upd Hb h _ = HH at *
      intro q0 hq0
      generalize hE : upd _ q0 _ = Hq0
      obtain ⟨Sq0, gq0⟩ := new_facts hq0 hE
      clear hE
      replace M := M.same Sq0; replace at9 := Sq0 _ _ at9
      replace re9 := re9.keep (.same Sq0)
      have D := Res.snoc (H := Hq0) (vs := []) (ks := []) (k := some ("layout", "layout")) ⟨q0, rfl, gq0⟩ trivial
      repeat (first | (with_reducible refine st_i0 rfl rfl rfl ?_) | ((with_reducible refine st_i rfl rfl ?_ rfl ?_); first | omega | exact ⟨by decide, by decide, by decide⟩ | exact .inl ⟨by decide, by decide⟩ | exact .inl ⟨by omega, by omega⟩ | exact .inr ⟨by omega, by omega⟩ | fail) | ((fail_if_success refine Exists.intro (α := Nat → Nat → L2.St → Hp → Prop) ?_ ?_); (fail_if_success refine Exists.intro (α := L2.St → Hp → Prop) ?_ ?_); (fail_if_success refine Exists.intro (α := Nat → L2.St → Hp → Prop) ?_ ?_); apply Exists.intro) | ((refine And.intro ?_ ?_); first | with_reducible rfl | with_reducible assumption | rfl | ((with_reducible apply SqL.of); assumption) | ((with_reducible apply SqT.of); assumption) | ((with_reducible apply OwnC.cl); assumption) | (with_reducible exact isI_int _) | (with_reducible exact upd_same) | ((with_reducible apply Mid.o); assumption) | ((with_reducible apply Mid.t); assumption) | (with_reducible exact ⟨_, SqT.of (by assumption)⟩) | (with_reducible exact ⟨_, SqL.of (by assumption)⟩) | omega | exact Nat.le_of_ble_eq_true rfl | exact nat9 (by omega) | (show _ ≤ sizeLine; decide) | exact ⟨by decide, by decide, by decide⟩ | exact .inl ⟨by decide, by decide⟩ | exact .inl ⟨by omega, by omega⟩ | exact .inr ⟨by omega, by omega⟩ | assumption | fail) | ((with_reducible refine iteF' ?_ ?_); first | rfl | exact decide_eq_false (by omega) | (simp <;> fail) | fail) | ((with_reducible refine iteT' ?_ ?_); first | rfl | exact decide_eq_true (by omega) | (simp <;> fail) | fail))
      intro q1 hq1
      generalize hE : upd _ q1 _ = Hq1
      obtain ⟨Sq1, gq1⟩ := new_facts hq1 hE
      clear hE
      replace M := M.same Sq1; replace at9 := Sq1 _ _ at9
      replace re9 := re9.keep (.same Sq1)
      have D := Res.snoc (k := some ("number", "states")) ⟨q1, rfl, gq1⟩ (D.keep (.same Sq1))
      repeat (first | (with_reducible refine st_i0 rfl rfl rfl ?_) | ((with_reducible refine st_i rfl rfl ?_ rfl ?_); first | omega | exact ⟨by decide, by decide, by decide⟩ | exact .inl ⟨by decide, by decide⟩ | exact .inl ⟨by omega, by omega⟩ | exact .inr ⟨by omega, by omega⟩ | fail) | ((fail_if_success refine Exists.intro (α := Nat → Nat → L2.St → Hp → Prop) ?_ ?_); (fail_if_success refine Exists.intro (α := L2.St → Hp → Prop) ?_ ?_); (fail_if_success refine Exists.intro (α := Nat → L2.St → Hp → Prop) ?_ ?_); apply Exists.intro) | ((refine And.intro ?_ ?_); first | with_reducible rfl | with_reducible assumption | rfl | ((with_reducible apply SqL.of); assumption) | ((with_reducible apply SqT.of); assumption) | ((with_reducible apply OwnC.cl); assumption) | (with_reducible exact isI_int _) | (with_reducible exact upd_same) | ((with_reducible apply Mid.o); assumption) | ((with_reducible apply Mid.t); assumption) | (with_reducible exact ⟨_, SqT.of (by assumption)⟩) | (with_reducible exact ⟨_, SqL.of (by assumption)⟩) | omega | exact Nat.le_of_ble_eq_true rfl | exact nat9 (by omega) | (show _ ≤ sizeLine; decide) | exact ⟨by decide, by decide, by decide⟩ | exact .inl ⟨by decide, by decide⟩ | exact .inl ⟨by omega, by omega⟩ | exact .inr ⟨by omega, by omega⟩ | assumption | fail) | ((with_reducible refine iteF' ?_ ?_); first | rfl | exact decide_eq_false (by omega) | (simp <;> fail) | fail) | ((with_reducible refine iteT' ?_ ?_); first | rfl | exact decide_eq_true (by omega) | (simp <;> fail) | fail))
      intro q2 hq2
      generalize hE : upd _ q2 _ = Hq2
      obtain ⟨Sq2, gq2⟩ := new_facts hq2 hE
      clear hE
      replace M := M.same Sq2; replace at9 := Sq2 _ _ at9
      replace re9 := re9.keep (.same Sq2)
      have D := Res.snoc (k := some ("misfit", "bits")) ⟨q2, rfl, gq2⟩ (D.keep (.same Sq2))
      repeat (first | (with_reducible refine st_i0 rfl rfl rfl ?_) | ((with_reducible refine st_i rfl rfl ?_ rfl ?_); first | omega | exact ⟨by decide, by decide, by decide⟩ | exact .inl ⟨by decide, by decide⟩ | exact .inl ⟨by omega, by omega⟩ | exact .inr ⟨by omega, by omega⟩ | fail) | ((fail_if_success refine Exists.intro (α := Nat → Nat → L2.St → Hp → Prop) ?_ ?_); (fail_if_success refine Exists.intro (α := L2.St → Hp → Prop) ?_ ?_); (fail_if_success refine Exists.intro (α := Nat → L2.St → Hp → Prop) ?_ ?_); apply Exists.intro) | ((refine And.intro ?_ ?_); first | with_reducible rfl | with_reducible assumption | rfl | ((with_reducible apply SqL.of); assumption) | ((with_reducible apply SqT.of); assumption) | ((with_reducible apply OwnC.cl); assumption) | (with_reducible exact isI_int _) | (with_reducible exact upd_same) | ((with_reducible apply Mid.o); assumption) | ((with_reducible apply Mid.t); assumption) | (with_reducible exact ⟨_, SqT.of (by assumption)⟩) | (with_reducible exact ⟨_, SqL.of (by assumption)⟩) | omega | exact Nat.le_of_ble_eq_true rfl | exact nat9 (by omega) | (show _ ≤ sizeLine; decide) | exact ⟨by decide, by decide, by decide⟩ | exact .inl ⟨by decide, by decide⟩ | exact .inl ⟨by omega, by omega⟩ | exact .inr ⟨by omega, by omega⟩ | assumption | fail) | ((with_reducible refine iteF' ?_ ?_); first | rfl | exact decide_eq_false (by omega) | (simp <;> fail) | fail) | ((with_reducible refine iteT' ?_ ?_); first | rfl | exact decide_eq_true (by omega) | (simp <;> fail) | fail))
      intro q3 hq3
      generalize hE : upd _ q3 _ = Hq3
      obtain ⟨Sq3, gq3⟩ := new_facts hq3 hE
      clear hE
      replace M := M.same Sq3; replace at9 := Sq3 _ _ at9
      replace re9 := re9.keep (.same Sq3)
      have D := Res.snoc (k := some ("misfit", "bits")) ⟨q3, rfl, gq3⟩ (D.keep (.same Sq3))
      repeat (first | (with_reducible refine st_i0 rfl rfl rfl ?_) | ((with_reducible refine st_i rfl rfl ?_ rfl ?_); first | omega | exact ⟨by decide, by decide, by decide⟩ | exact .inl ⟨by decide, by decide⟩ | exact .inl ⟨by omega, by omega⟩ | exact .inr ⟨by omega, by omega⟩ | fail) | ((fail_if_success refine Exists.intro (α := Nat → Nat → L2.St → Hp → Prop) ?_ ?_); (fail_if_success refine Exists.intro (α := L2.St → Hp → Prop) ?_ ?_); (fail_if_success refine Exists.intro (α := Nat → L2.St → Hp → Prop) ?_ ?_); apply Exists.intro) | ((refine And.intro ?_ ?_); first | with_reducible rfl | with_reducible assumption | rfl | ((with_reducible apply SqL.of); assumption) | ((with_reducible apply SqT.of); assumption) | ((with_reducible apply OwnC.cl); assumption) | (with_reducible exact isI_int _) | (with_reducible exact upd_same) | ((with_reducible apply Mid.o); assumption) | ((with_reducible apply Mid.t); assumption) | (with_reducible exact ⟨_, SqT.of (by assumption)⟩) | (with_reducible exact ⟨_, SqL.of (by assumption)⟩) | omega | exact Nat.le_of_ble_eq_true rfl | exact nat9 (by omega) | (show _ ≤ sizeLine; decide) | exact ⟨by decide, by decide, by decide⟩ | exact .inl ⟨by decide, by decide⟩ | exact .inl ⟨by omega, by omega⟩ | exact .inr ⟨by omega, by omega⟩ | assumption | fail) | ((with_reducible refine iteF' ?_ ?_); first | rfl | exact decide_eq_false (by omega) | (simp <;> fail) | fail) | ((with_reducible refine iteT' ?_ ?_); first | rfl | exact decide_eq_true (by omega) | (simp <;> fail) | fail))
      intro q4 hq4
      generalize hE : upd _ q4 _ = Hq4
      obtain ⟨Sq4, gq4⟩ := new_facts hq4 hE
      clear hE
      replace M := M.same Sq4; replace at9 := Sq4 _ _ at9
      replace re9 := re9.keep (.same Sq4)
      have D := Res.snoc (k := some ("misfit", "states")) ⟨q4, rfl, gq4⟩ (D.keep (.same Sq4))
      repeat (first | (with_reducible refine st_i0 rfl rfl rfl ?_) | ((with_reducible refine st_i rfl rfl ?_ rfl ?_); first | omega | exact ⟨by decide, by decide, by decide⟩ | exact .inl ⟨by decide, by decide⟩ | exact .inl ⟨by omega, by omega⟩ | exact .inr ⟨by omega, by omega⟩ | fail) | ((fail_if_success refine Exists.intro (α := Nat → Nat → L2.St → Hp → Prop) ?_ ?_); (fail_if_success refine Exists.intro (α := L2.St → Hp → Prop) ?_ ?_); (fail_if_success refine Exists.intro (α := Nat → L2.St → Hp → Prop) ?_ ?_); apply Exists.intro) | ((refine And.intro ?_ ?_); first | with_reducible rfl | with_reducible assumption | rfl | ((with_reducible apply SqL.of); assumption) | ((with_reducible apply SqT.of); assumption) | ((with_reducible apply OwnC.cl); assumption) | (with_reducible exact isI_int _) | (with_reducible exact upd_same) | ((with_reducible apply Mid.o); assumption) | ((with_reducible apply Mid.t); assumption) | (with_reducible exact ⟨_, SqT.of (by assumption)⟩) | (with_reducible exact ⟨_, SqL.of (by assumption)⟩) | omega | exact Nat.le_of_ble_eq_true rfl | exact nat9 (by omega) | (show _ ≤ sizeLine; decide) | exact ⟨by decide, by decide, by decide⟩ | exact .inl ⟨by decide, by decide⟩ | exact .inl ⟨by omega, by omega⟩ | exact .inr ⟨by omega, by omega⟩ | assumption | fail) | ((with_reducible refine iteF' ?_ ?_); first | rfl | exact decide_eq_false (by omega) | (simp <;> fail) | fail) | ((with_reducible refine iteT' ?_ ?_); first | rfl | exact decide_eq_true (by omega) | (simp <;> fail) | fail))
      have D := Res.snoc (k := none) (v := V.non) rfl D
      intro q6 hq6
      generalize hE : upd _ q6 _ = Hq6
      obtain ⟨Sq6, gq6⟩ := new_facts hq6 hE
      clear hE
      replace M := M.same Sq6; replace at9 := Sq6 _ _ at9
      replace re9 := re9.keep (.same Sq6)
      have D := Res.snoc (k := some ("code", "code")) ⟨q6, rfl, gq6⟩ (D.keep (.same Sq6))
      repeat (first | (with_reducible refine st_i0 rfl rfl rfl ?_) | ((with_reducible refine st_i rfl rfl ?_ rfl ?_); first | omega | exact ⟨by decide, by decide, by decide⟩ | exact .inl ⟨by decide, by decide⟩ | exact .inl ⟨by omega, by omega⟩ | exact .inr ⟨by omega, by omega⟩ | fail) | ((fail_if_success refine Exists.intro (α := Nat → Nat → L2.St → Hp → Prop) ?_ ?_); (fail_if_success refine Exists.intro (α := L2.St → Hp → Prop) ?_ ?_); (fail_if_success refine Exists.intro (α := Nat → L2.St → Hp → Prop) ?_ ?_); apply Exists.intro) | ((refine And.intro ?_ ?_); first | with_reducible rfl | with_reducible assumption | rfl | ((with_reducible apply SqL.of); assumption) | ((with_reducible apply SqT.of); assumption) | ((with_reducible apply OwnC.cl); assumption) | (with_reducible exact isI_int _) | (with_reducible exact upd_same) | ((with_reducible apply Mid.o); assumption) | ((with_reducible apply Mid.t); assumption) | (with_reducible exact ⟨_, SqT.of (by assumption)⟩) | (with_reducible exact ⟨_, SqL.of (by assumption)⟩) | omega | exact Nat.le_of_ble_eq_true rfl | exact nat9 (by omega) | (show _ ≤ sizeLine; decide) | exact ⟨by decide, by decide, by decide⟩ | exact .inl ⟨by decide, by decide⟩ | exact .inl ⟨by omega, by omega⟩ | exact .inr ⟨by omega, by omega⟩ | assumption | fail) | ((with_reducible refine iteF' ?_ ?_); first | rfl | exact decide_eq_false (by omega) | (simp <;> fail) | fail) | ((with_reducible refine iteT' ?_ ?_); first | rfl | exact decide_eq_true (by omega) | (simp <;> fail) | fail))
      intro qa hqa
      generalize hE : upd _ qa _ = Hqa
      obtain ⟨Sqa, gqa⟩ := new_facts hqa hE
      clear hE
      replace M := M.same Sqa; replace at9 := Sqa _ _ at9
      replace re9 := re9.keep (.same Sqa)
      replace D := D.keep (.same Sqa)
      repeat (first | (refine ⟨.list (dueK.map entD), .list (dueK.map entD), Dp.lst (SqL.of at9) re9.dp, Dp.lst (SqL.of gqa) D.dp, (by decide +kernel), (by decide +kernel), ?_⟩) | (with_reducible refine st_i0 rfl rfl rfl ?_) | ((with_reducible refine st_i rfl rfl ?_ rfl ?_); first | omega | exact ⟨by decide, by decide, by decide⟩ | exact .inl ⟨by decide, by decide⟩ | exact .inl ⟨by omega, by omega⟩ | exact .inr ⟨by omega, by omega⟩ | fail) | ((fail_if_success refine Exists.intro (α := Nat → Nat → L2.St → Hp → Prop) ?_ ?_); (fail_if_success refine Exists.intro (α := L2.St → Hp → Prop) ?_ ?_); (fail_if_success refine Exists.intro (α := Nat → L2.St → Hp → Prop) ?_ ?_); apply Exists.intro) | ((refine And.intro ?_ ?_); first | with_reducible rfl | with_reducible assumption | rfl | ((with_reducible apply SqL.of); assumption) | ((with_reducible apply SqT.of); assumption) | ((with_reducible apply OwnC.cl); assumption) | (with_reducible exact isI_int _) | (with_reducible exact upd_same) | ((with_reducible apply Mid.o); assumption) | ((with_reducible apply Mid.t); assumption) | (with_reducible exact ⟨_, SqT.of (by assumption)⟩) | (with_reducible exact ⟨_, SqL.of (by assumption)⟩) | omega | exact Nat.le_of_ble_eq_true rfl | exact nat9 (by omega) | (show _ ≤ sizeLine; decide) | exact ⟨by decide, by decide, by decide⟩ | exact .inl ⟨by decide, by decide⟩ | exact .inl ⟨by omega, by omega⟩ | exact .inr ⟨by omega, by omega⟩ | assumption | fail) | ((with_reducible refine iteF' ?_ ?_); first | rfl | exact decide_eq_false (by omega) | (simp <;> fail) | fail) | ((with_reducible refine iteT' ?_ ?_); first | rfl | exact decide_eq_true (by omega) | (simp <;> fail) | fail))
      rw [SeqAt.eqv_refl _ (by decide +kernel)]
      exact k _ (M.mono (by omega))
    obtain ⟨t, h1, h2⟩ := t0
    exact ⟨t, h1.nox, h2⟩
end
end K33
namespace K33
open PySem PySem.Spec PyProof.Rows L2 OB SkE LamX MD
def spLaw (K : PySem.W.Frag) (Pa Pb Pc : Addr) : Sp := fun vs H Q _ => ∃ (a : Addr) (ns : List Int), vs = [.ref a] ∧ SqL K H a (ns.map V.int) ∧ ns.length ≤ 63 ∧ (H Pa = some (.tbl #[]) ∧ H Pb = some (.tbl #[]) ∧ H Pc = some (.tbl #[])) ∧ ∀ H', Q (.bl true) H'
section
variable {P : Program} {w : World} {K : PySem.W.Frag} {mg : Str → Option Value} {base : Heap}
theorem sc_law : FnScope ["script", "barn", "turn"] ["script"] (defScope s_law) := ⟨rfl, rfl, rfl, by decide +kernel, rfl, by decide +kernel, by decide +kernel⟩
abbrev N_law : List Str := ["script", "barn", "turn"]
theorem ok_law {f f1 f2 f3 f4 Pa Pb Pc : Addr} {fd1 fd2 fd3 fd4 : FuncData} {oc kV doc pm ct cd : Value} {od an : Option Addr} {osl : Array (Option Value)} (T : Blt mg)
    (lk : K.lookup f = some ⟨oc, od, .func (PySem.W.fnOf "law" "law" (defArgs s_law) (defBody s_law) (defScope s_law) .none kV doc pm an cd ct), osl⟩) (hcd : PySem.W.codeIn K cd "law" = true)
    (D__law_barn : Df K mg "_law_barn" s__law_barn ["script"] f1 fd1) (G__law_barn : FnOk P w K mg base CX0 1 f1 fd1 ["script"] (spLot K)) (D__law_listed_right : Df K mg "_law_listed_right" s__law_listed_right ["barn"] f2 fd2) (G__law_listed_right : FnG P w K mg base CX0 14 f2 fd2 ["barn"] (spStep (TB3 Pa Pb Pc) 20))
    (D__law_doubled_right : Df K mg "_law_doubled_right" s__law_doubled_right ["barn"] f3 fd3) (G__law_doubled_right : FnG P w K mg base CX0 14 f3 fd3 ["barn"] (spStep (TB3 Pa Pb Pc) 200)) (D__law_refused_right : Df K mg "_law_refused_right" s__law_refused_right ["barn"] f4 fd4) (G__law_refused_right : FnOk P w K mg base CX0 14 f4 fd4 ["barn"] (spStep (TB3 Pa Pb Pc) 20)) :
    FnG P w K mg base CX0 16 f (PySem.W.fnOf "law" "law" (defArgs s_law) (defBody s_law) (defScope s_law) .none kV doc pm an cd ct) ["script"] (spLaw K Pa Pb Pc) := by
  refine fnG_of lk hcd sc_law (fun vs H Q E h => ?_) fun A outer s H vs Q E hgd hr h => ?_
  · obtain ⟨a, ns, rfl, _⟩ := h
    rfl
  · obtain ⟨a, ns, rfl, hS, hl, ⟨hPa, hPb, hPc⟩, k⟩ := h
    have t0 : ∃ t, PSs (cxOf CX0 P w K mg base ["script", "barn", "turn"] "law" (defScope s_law) f cd A outer s H E).nox (defBody s_law) t ∧ t { nx := fun _ H' => Q .non H', rt := Q } (L2.start ["script", "barn", "turn"] [.ref a]) H := by
      refine ⟨_, (pss_cons (ps_set (i := 1) sc_law.nd rfl (Or.inl rfl) (pe_call G__law_barn (hr.mono (by decide)) (by rfl) D__law_barn.g D__law_barn.F.kp D__law_barn.b .nil pass0 (pa_cons (pv 0) pa_nil)))
  (pss_cons (ps_for PassesOwn.never rfl (pi_range1 (by rfl) T.n_range (pa_cons pe_int pa_nil)) (pg_name (i := 2) sc_law.nd rfl (Or.inl rfl)) (pss_one (ps_if (PW.pt (pw_or (pt_not (pt_val (pe_callG G__law_listed_right hgd (hr.mono (by decide)) (by rfl) D__law_listed_right.g D__law_listed_right.F.kp D__law_listed_right.b .nil pass0 (pa_cons (pv 1) pa_nil)))) (pw_or1 (pt_not (pt_val (pe_callG G__law_doubled_right hgd (hr.mono (by decide)) (by rfl) D__law_doubled_right.g D__law_doubled_right.F.kp D__law_doubled_right.b .nil pass0 (pa_cons (pv 1) pa_nil))))))) (pss_one (ps_ret pe_bl)) pss_nil)))
  (pss_one (ps_ret (pe_call G__law_refused_right (hr.mono (by decide)) (by rfl) D__law_refused_right.g D__law_refused_right.F.kp D__law_refused_right.b .nil pass0 (pa_cons (pv 1) pa_nil)))))), ?_⟩
      refine ⟨_, rfl, a, ns, rfl, hS, hl, fun p b H1 hp hb O S1 => ?_⟩
      have M1 : Mid (TB3 Pa Pb Pc) p b 0 H1 := ⟨O, fun x hx => by
        rcases List.mem_cons.mp hx with rfl | hx
        · exact .nil (S1 _ _ hPa)
        rcases List.mem_cons.mp hx with rfl | hx
        · exact .nil (S1 _ _ hPb)
        rw [List.mem_singleton.mp hx]
        exact .nil (S1 _ _ hPc)⟩
      refine ⟨3, rfl, by decide, by decide, ?_⟩
      refine for_range (n := 3) (fun i σ H' => Mid (TB3 Pa Pb Pc) p b (300 * i) H' ∧ ∃ u : Option V, σ = [some (.ref a), some (.ref p), u]) ⟨M1, none, rfl⟩ ?_ ?_
      · rintro i σ H2 hi ⟨M, u, rfl⟩
        repeat (first | (with_reducible refine st_i0 rfl rfl rfl ?_) | ((with_reducible refine st_i rfl rfl ?_ rfl ?_); first | omega | exact ⟨by decide, by decide, by decide⟩ | exact .inl ⟨by decide, by decide⟩ | exact .inl ⟨by omega, by omega⟩ | exact .inr ⟨by omega, by omega⟩ | fail) | ((fail_if_success refine Exists.intro (α := Nat → Nat → L2.St → Hp → Prop) ?_ ?_); (fail_if_success refine Exists.intro (α := L2.St → Hp → Prop) ?_ ?_); (fail_if_success refine Exists.intro (α := Nat → L2.St → Hp → Prop) ?_ ?_); apply Exists.intro) | ((refine And.intro ?_ ?_); first | with_reducible rfl | with_reducible assumption | rfl | ((with_reducible apply SqL.of); assumption) | ((with_reducible apply SqT.of); assumption) | ((with_reducible apply OwnC.cl); assumption) | (with_reducible exact isI_int _) | (with_reducible exact upd_same) | ((with_reducible apply Mid.o); assumption) | ((with_reducible apply Mid.t); assumption) | (with_reducible exact ⟨_, SqT.of (by assumption)⟩) | (with_reducible exact ⟨_, SqL.of (by assumption)⟩) | omega | exact Nat.le_of_ble_eq_true rfl | exact nat9 (by omega) | (show _ ≤ sizeLine; decide) | exact ⟨by decide, by decide, by decide⟩ | exact .inl ⟨by decide, by decide⟩ | exact .inl ⟨by omega, by omega⟩ | exact .inr ⟨by omega, by omega⟩ | assumption | fail) | ((with_reducible refine iteF' ?_ ?_); first | rfl | exact decide_eq_false (by omega) | (simp <;> fail) | fail) | ((with_reducible refine iteT' ?_ ?_); first | rfl | exact decide_eq_true (by omega) | (simp <;> fail) | fail))
        intro H3 M
        repeat (first | (with_reducible refine st_i0 rfl rfl rfl ?_) | ((with_reducible refine st_i rfl rfl ?_ rfl ?_); first | omega | exact ⟨by decide, by decide, by decide⟩ | exact .inl ⟨by decide, by decide⟩ | exact .inl ⟨by omega, by omega⟩ | exact .inr ⟨by omega, by omega⟩ | fail) | ((fail_if_success refine Exists.intro (α := Nat → Nat → L2.St → Hp → Prop) ?_ ?_); (fail_if_success refine Exists.intro (α := L2.St → Hp → Prop) ?_ ?_); (fail_if_success refine Exists.intro (α := Nat → L2.St → Hp → Prop) ?_ ?_); apply Exists.intro) | ((refine And.intro ?_ ?_); first | with_reducible rfl | with_reducible assumption | rfl | ((with_reducible apply SqL.of); assumption) | ((with_reducible apply SqT.of); assumption) | ((with_reducible apply OwnC.cl); assumption) | (with_reducible exact isI_int _) | (with_reducible exact upd_same) | ((with_reducible apply Mid.o); assumption) | ((with_reducible apply Mid.t); assumption) | (with_reducible exact ⟨_, SqT.of (by assumption)⟩) | (with_reducible exact ⟨_, SqL.of (by assumption)⟩) | omega | exact Nat.le_of_ble_eq_true rfl | exact nat9 (by omega) | (show _ ≤ sizeLine; decide) | exact ⟨by decide, by decide, by decide⟩ | exact .inl ⟨by decide, by decide⟩ | exact .inl ⟨by omega, by omega⟩ | exact .inr ⟨by omega, by omega⟩ | assumption | fail) | ((with_reducible refine iteF' ?_ ?_); first | rfl | exact decide_eq_false (by omega) | (simp <;> fail) | fail) | ((with_reducible refine iteT' ?_ ?_); first | rfl | exact decide_eq_true (by omega) | (simp <;> fail) | fail))
        intro H4 M
        repeat (first | (with_reducible refine st_i0 rfl rfl rfl ?_) | ((with_reducible refine st_i rfl rfl ?_ rfl ?_); first | omega | exact ⟨by decide, by decide, by decide⟩ | exact .inl ⟨by decide, by decide⟩ | exact .inl ⟨by omega, by omega⟩ | exact .inr ⟨by omega, by omega⟩ | fail) | ((fail_if_success refine Exists.intro (α := Nat → Nat → L2.St → Hp → Prop) ?_ ?_); (fail_if_success refine Exists.intro (α := L2.St → Hp → Prop) ?_ ?_); (fail_if_success refine Exists.intro (α := Nat → L2.St → Hp → Prop) ?_ ?_); apply Exists.intro) | ((refine And.intro ?_ ?_); first | with_reducible rfl | with_reducible assumption | rfl | ((with_reducible apply SqL.of); assumption) | ((with_reducible apply SqT.of); assumption) | ((with_reducible apply OwnC.cl); assumption) | (with_reducible exact isI_int _) | (with_reducible exact upd_same) | ((with_reducible apply Mid.o); assumption) | ((with_reducible apply Mid.t); assumption) | (with_reducible exact ⟨_, SqT.of (by assumption)⟩) | (with_reducible exact ⟨_, SqL.of (by assumption)⟩) | omega | exact Nat.le_of_ble_eq_true rfl | exact nat9 (by omega) | (show _ ≤ sizeLine; decide) | exact ⟨by decide, by decide, by decide⟩ | exact .inl ⟨by decide, by decide⟩ | exact .inl ⟨by omega, by omega⟩ | exact .inr ⟨by omega, by omega⟩ | assumption | fail) | ((with_reducible refine iteF' ?_ ?_); first | rfl | exact decide_eq_false (by omega) | (simp <;> fail) | fail) | ((with_reducible refine iteT' ?_ ?_); first | rfl | exact decide_eq_true (by omega) | (simp <;> fail) | fail))
        exact ⟨M.mono (by omega), _, rfl⟩
      · rintro σ H2 ⟨M, u, rfl⟩
        repeat (first | (with_reducible refine st_i0 rfl rfl rfl ?_) | ((with_reducible refine st_i rfl rfl ?_ rfl ?_); first | omega | exact ⟨by decide, by decide, by decide⟩ | exact .inl ⟨by decide, by decide⟩ | exact .inl ⟨by omega, by omega⟩ | exact .inr ⟨by omega, by omega⟩ | fail) | ((fail_if_success refine Exists.intro (α := Nat → Nat → L2.St → Hp → Prop) ?_ ?_); (fail_if_success refine Exists.intro (α := L2.St → Hp → Prop) ?_ ?_); (fail_if_success refine Exists.intro (α := Nat → L2.St → Hp → Prop) ?_ ?_); apply Exists.intro) | ((refine And.intro ?_ ?_); first | with_reducible rfl | with_reducible assumption | rfl | ((with_reducible apply SqL.of); assumption) | ((with_reducible apply SqT.of); assumption) | ((with_reducible apply OwnC.cl); assumption) | (with_reducible exact isI_int _) | (with_reducible exact upd_same) | ((with_reducible apply Mid.o); assumption) | ((with_reducible apply Mid.t); assumption) | (with_reducible exact ⟨_, SqT.of (by assumption)⟩) | (with_reducible exact ⟨_, SqL.of (by assumption)⟩) | omega | exact Nat.le_of_ble_eq_true rfl | exact nat9 (by omega) | (show _ ≤ sizeLine; decide) | exact ⟨by decide, by decide, by decide⟩ | exact .inl ⟨by decide, by decide⟩ | exact .inl ⟨by omega, by omega⟩ | exact .inr ⟨by omega, by omega⟩ | assumption | fail) | ((with_reducible refine iteF' ?_ ?_); first | rfl | exact decide_eq_false (by omega) | (simp <;> fail) | fail) | ((with_reducible refine iteT' ?_ ?_); first | rfl | exact decide_eq_true (by omega) | (simp <;> fail) | fail))
        intro H3 M
        exact k _
    obtain ⟨t, h1, h2⟩ := t0
    exact ⟨t, h1.nox, h2⟩
end
end K33
namespace K33
open PySem PySem.Spec PyProof.Rows L2 OB SkE LamX ClX MD
theorem all_mk {l : PySem.W.OpenLaw} {w : World} {K : PySem.W.Frag} {h : Heap} {mg : Str → Option Value} {fa f_is_integer f_is_within f_is_list f_need_number f_items_of f_integer_of f_item_at f_integer_at f_need_end f_need_code f__need_word_of f_meant_by f__base_word f__lower_bits f__counting_bits f_ones_in f__is_meaning f__meaning_at f_need_layout f_listed f_doubled f__meant_above f__law_barn f__law_stack f__law_pick f__law_value f__law_heard f__law_listed_right f__law_doubled_right f__law_refused_right f_law CF C_BadNumber fi_BadNumber N_BadNumber C_BadWord fi_BadWord N_BadWord C_BadLayout fi_BadLayout N_BadLayout C_BadCode fi_BadCode N_BadCode C_Misfit fi_Misfit N_Misfit C_BadText fi_BadText N_BadText C_Code f_Code_init f_Code_eq f_Code_str f_Code_read p_Code_read C_Layout f_Layout_init f_Layout_eq f_Layout_str f_Layout_read p_Layout_read c1 Pt1 c2 Pt2 c3 Pt3 : Addr} {cd_is_integer oc_is_integer kV_is_integer dc_is_integer pm_is_integer ct_is_integer cd_is_within oc_is_within kV_is_within dc_is_within pm_is_within ct_is_within cd_is_list oc_is_list kV_is_list dc_is_list pm_is_list ct_is_list cd_need_number oc_need_number kV_need_number dc_need_number pm_need_number ct_need_number cd_items_of oc_items_of kV_items_of dc_items_of pm_items_of ct_items_of cd_integer_of oc_integer_of kV_integer_of dc_integer_of pm_integer_of ct_integer_of cd_item_at oc_item_at kV_item_at dc_item_at pm_item_at ct_item_at cd_integer_at oc_integer_at kV_integer_at dc_integer_at pm_integer_at ct_integer_at cd_need_end oc_need_end kV_need_end dc_need_end pm_need_end ct_need_end cd_need_code oc_need_code kV_need_code dc_need_code pm_need_code ct_need_code cd__need_word_of oc__need_word_of kV__need_word_of dc__need_word_of pm__need_word_of ct__need_word_of cd_meant_by oc_meant_by kV_meant_by dc_meant_by pm_meant_by ct_meant_by cd__base_word oc__base_word kV__base_word dc__base_word pm__base_word ct__base_word cd__lower_bits oc__lower_bits kV__lower_bits dc__lower_bits pm__lower_bits ct__lower_bits cd__counting_bits oc__counting_bits kV__counting_bits dc__counting_bits pm__counting_bits ct__counting_bits cd_ones_in oc_ones_in kV_ones_in dc_ones_in pm_ones_in ct_ones_in cd__is_meaning oc__is_meaning kV__is_meaning dc__is_meaning pm__is_meaning ct__is_meaning cd__meaning_at oc__meaning_at kV__meaning_at dc__meaning_at pm__meaning_at ct__meaning_at cd_need_layout oc_need_layout kV_need_layout dc_need_layout pm_need_layout ct_need_layout cd_listed oc_listed kV_listed dc_listed pm_listed ct_listed cd_doubled oc_doubled kV_doubled dc_doubled pm_doubled ct_doubled cd__meant_above oc__meant_above kV__meant_above dc__meant_above pm__meant_above ct__meant_above cd__law_barn oc__law_barn kV__law_barn dc__law_barn pm__law_barn ct__law_barn cd__law_stack oc__law_stack kV__law_stack dc__law_stack pm__law_stack ct__law_stack cd__law_pick oc__law_pick kV__law_pick dc__law_pick pm__law_pick ct__law_pick cd__law_value oc__law_value kV__law_value dc__law_value pm__law_value ct__law_value cd__law_heard oc__law_heard kV__law_heard dc__law_heard pm__law_heard ct__law_heard oc__law_listed_right kV__law_listed_right dc__law_listed_right pm__law_listed_right ct__law_listed_right oc__law_doubled_right kV__law_doubled_right dc__law_doubled_right pm__law_doubled_right ct__law_doubled_right oc__law_refused_right kV__law_refused_right dc__law_refused_right pm__law_refused_right ct__law_refused_right cd_law oc_law kV_law dc_law pm_law ct_law oi_BadNumber kVi_BadNumber dci_BadNumber pmi_BadNumber cti_BadNumber cdi_BadNumber oi_BadWord kVi_BadWord dci_BadWord pmi_BadWord cti_BadWord cdi_BadWord oi_BadLayout kVi_BadLayout dci_BadLayout pmi_BadLayout cti_BadLayout cdi_BadLayout oi_BadCode kVi_BadCode dci_BadCode pmi_BadCode cti_BadCode cdi_BadCode oi_Misfit kVi_Misfit dci_Misfit pmi_Misfit cti_Misfit cdi_Misfit oi_BadText kVi_BadText dci_BadText pmi_BadText cti_BadText cdi_BadText oc_Code_init kV_Code_init dc_Code_init pm_Code_init cd_Code_init ct_Code_init oc_Code_eq kV_Code_eq dc_Code_eq pm_Code_eq cd_Code_eq ct_Code_eq oc_Code_str kV_Code_str dc_Code_str pm_Code_str cd_Code_str ct_Code_str oc_Code_read kV_Code_read dc_Code_read pm_Code_read cd_Code_read ct_Code_read oc_Layout_init kV_Layout_init dc_Layout_init pm_Layout_init cd_Layout_init ct_Layout_init oc_Layout_eq kV_Layout_eq dc_Layout_eq pm_Layout_eq cd_Layout_eq ct_Layout_eq oc_Layout_str kV_Layout_str dc_Layout_str pm_Layout_str cd_Layout_str ct_Layout_str oc_Layout_read kV_Layout_read dc_Layout_read pm_Layout_read cd_Layout_read ct_Layout_read : Value} {od_is_integer an_is_integer od_is_within an_is_within od_is_list an_is_list od_need_number an_need_number od_items_of an_items_of od_integer_of an_integer_of od_item_at an_item_at od_integer_at an_integer_at od_need_end an_need_end od_need_code an_need_code od__need_word_of an__need_word_of od_meant_by an_meant_by od__base_word an__base_word od__lower_bits an__lower_bits od__counting_bits an__counting_bits od_ones_in an_ones_in od__is_meaning an__is_meaning od__meaning_at an__meaning_at od_need_layout an_need_layout od_listed an_listed od_doubled an_doubled od__meant_above an__meant_above od__law_barn an__law_barn od__law_stack an__law_stack od__law_pick an__law_pick od__law_value an__law_value od__law_heard an__law_heard od__law_listed_right an__law_listed_right od__law_doubled_right an__law_doubled_right od__law_refused_right an__law_refused_right od_law an_law odi_BadNumber ani_BadNumber dd_BadNumber odi_BadWord ani_BadWord dd_BadWord odi_BadLayout ani_BadLayout dd_BadLayout odi_BadCode ani_BadCode dd_BadCode odi_Misfit ani_Misfit dd_Misfit odi_BadText ani_BadText dd_BadText od_Code_init an_Code_init od_Code_eq an_Code_eq od_Code_str an_Code_str od_Code_read an_Code_read od_Layout_init an_Layout_init od_Layout_eq an_Layout_eq od_Layout_str an_Layout_str od_Layout_read an_Layout_read odC1 odC2 odC3 : Option Addr} {sl_is_integer sl_is_within sl_is_list sl_need_number sl_items_of sl_integer_of sl_item_at sl_integer_at sl_need_end sl_need_code sl__need_word_of sl_meant_by sl__base_word sl__lower_bits sl__counting_bits sl_ones_in sl__is_meaning sl__meaning_at sl_need_layout sl_listed sl_doubled sl__meant_above sl__law_barn sl__law_stack sl__law_pick sl__law_value sl__law_heard sl__law_listed_right sl__law_doubled_right sl__law_refused_right sl_law sli_BadNumber sli_BadWord sli_BadLayout sli_BadCode sli_Misfit sli_BadText sl_Code_init sl_Code_eq sl_Code_str sl_Code_read sl_Layout_init sl_Layout_eq sl_Layout_str sl_Layout_read slC1 slC2 slC3 : Array (Option Value)} {vsC1 vsC2 vsC3 : Array Value} {t_MOST_DIGITS t_LEAST_BASE t_MOST_BASE t_MOST_DOUBLES t_MOST_BITS t_MOST_STATE t_NOTHING t_MOST_STATES : Tok}{rs_Code_read rs_Layout_read : List Value} {nm_BadNumber q_BadNumber : Str} {bs_BadNumber sub_BadNumber : List Value} {sn_BadNumber : List Str} {ab_BadNumber : Bool} {col_BadNumber : Option Bool} {m0_BadNumber m1_BadNumber m2_BadNumber m3_BadNumber m5_BadNumber : Option Value} {nm_BadWord q_BadWord : Str} {bs_BadWord sub_BadWord : List Value} {sn_BadWord : List Str} {ab_BadWord : Bool} {col_BadWord : Option Bool} {m0_BadWord m1_BadWord m2_BadWord m3_BadWord m5_BadWord : Option Value} {nm_BadLayout q_BadLayout : Str} {bs_BadLayout sub_BadLayout : List Value} {sn_BadLayout : List Str} {ab_BadLayout : Bool} {col_BadLayout : Option Bool} {m0_BadLayout m1_BadLayout m2_BadLayout m3_BadLayout m5_BadLayout : Option Value} {nm_BadCode q_BadCode : Str} {bs_BadCode sub_BadCode : List Value} {sn_BadCode : List Str} {ab_BadCode : Bool} {col_BadCode : Option Bool} {m0_BadCode m1_BadCode m2_BadCode m3_BadCode m5_BadCode : Option Value} {nm_Misfit q_Misfit : Str} {bs_Misfit sub_Misfit : List Value} {sn_Misfit : List Str} {ab_Misfit : Bool} {col_Misfit : Option Bool} {m0_Misfit m1_Misfit m2_Misfit m3_Misfit m5_Misfit : Option Value} {nm_BadText q_BadText : Str} {bs_BadText sub_BadText : List Value} {sn_BadText : List Str} {ab_BadText : Bool} {col_BadText : Option Bool} {m0_BadText m1_BadText m2_BadText m3_BadText m5_BadText : Option Value}
    {dV av2 av3 : Addr} {slV2 slV3 : Array (Option Value)} {nV nV2 nV3 : Nat} {tv2 tv3 tx0 tx1 ty0 ty1 ty2 ty3 : Tok}
    (X : K.In h) (G : h.Ns mainGlobals mg) (hfa : mg "law" = some (.ref fa))
    (a_is_integer : PySem.W.nsIn K mainGlobals "is_integer" = some (some (.ref f_is_integer)))
    (l_is_integer : K.lookup f_is_integer = some ⟨oc_is_integer, od_is_integer, .func (PySem.W.fnOf "is_integer" "is_integer" (defArgs s_is_integer) (defBody s_is_integer) (defScope s_is_integer) .none kV_is_integer dc_is_integer pm_is_integer an_is_integer cd_is_integer ct_is_integer), sl_is_integer⟩)
    (c_is_integer : PySem.W.codeIn K cd_is_integer "is_integer" = true)
    (k_is_integer : PySem.W.keepIn K (.ref f_is_integer) = true)
    (a_is_within : PySem.W.nsIn K mainGlobals "is_within" = some (some (.ref f_is_within)))
    (l_is_within : K.lookup f_is_within = some ⟨oc_is_within, od_is_within, .func (PySem.W.fnOf "is_within" "is_within" (defArgs s_is_within) (defBody s_is_within) (defScope s_is_within) .none kV_is_within dc_is_within pm_is_within an_is_within cd_is_within ct_is_within), sl_is_within⟩)
    (c_is_within : PySem.W.codeIn K cd_is_within "is_within" = true)
    (k_is_within : PySem.W.keepIn K (.ref f_is_within) = true)
    (a_is_list : PySem.W.nsIn K mainGlobals "is_list" = some (some (.ref f_is_list)))
    (l_is_list : K.lookup f_is_list = some ⟨oc_is_list, od_is_list, .func (PySem.W.fnOf "is_list" "is_list" (defArgs s_is_list) (defBody s_is_list) (defScope s_is_list) .none kV_is_list dc_is_list pm_is_list an_is_list cd_is_list ct_is_list), sl_is_list⟩)
    (c_is_list : PySem.W.codeIn K cd_is_list "is_list" = true)
    (k_is_list : PySem.W.keepIn K (.ref f_is_list) = true)
    (a_need_number : PySem.W.nsIn K mainGlobals "need_number" = some (some (.ref f_need_number)))
    (l_need_number : K.lookup f_need_number = some ⟨oc_need_number, od_need_number, .func (PySem.W.fnOf "need_number" "need_number" (defArgs s_need_number) (defBody s_need_number) (defScope s_need_number) .none kV_need_number dc_need_number pm_need_number an_need_number cd_need_number ct_need_number), sl_need_number⟩)
    (c_need_number : PySem.W.codeIn K cd_need_number "need_number" = true)
    (k_need_number : PySem.W.keepIn K (.ref f_need_number) = true)
    (a_items_of : PySem.W.nsIn K mainGlobals "items_of" = some (some (.ref f_items_of)))
    (l_items_of : K.lookup f_items_of = some ⟨oc_items_of, od_items_of, .func (PySem.W.fnOf "items_of" "items_of" (defArgs s_items_of) (defBody s_items_of) (defScope s_items_of) .none kV_items_of dc_items_of pm_items_of an_items_of cd_items_of ct_items_of), sl_items_of⟩)
    (c_items_of : PySem.W.codeIn K cd_items_of "items_of" = true)
    (k_items_of : PySem.W.keepIn K (.ref f_items_of) = true)
    (a_integer_of : PySem.W.nsIn K mainGlobals "integer_of" = some (some (.ref f_integer_of)))
    (l_integer_of : K.lookup f_integer_of = some ⟨oc_integer_of, od_integer_of, .func (PySem.W.fnOf "integer_of" "integer_of" (defArgs s_integer_of) (defBody s_integer_of) (defScope s_integer_of) .none kV_integer_of dc_integer_of pm_integer_of an_integer_of cd_integer_of ct_integer_of), sl_integer_of⟩)
    (c_integer_of : PySem.W.codeIn K cd_integer_of "integer_of" = true)
    (k_integer_of : PySem.W.keepIn K (.ref f_integer_of) = true)
    (a_item_at : PySem.W.nsIn K mainGlobals "item_at" = some (some (.ref f_item_at)))
    (l_item_at : K.lookup f_item_at = some ⟨oc_item_at, od_item_at, .func (PySem.W.fnOf "item_at" "item_at" (defArgs s_item_at) (defBody s_item_at) (defScope s_item_at) .none kV_item_at dc_item_at pm_item_at an_item_at cd_item_at ct_item_at), sl_item_at⟩)
    (c_item_at : PySem.W.codeIn K cd_item_at "item_at" = true)
    (k_item_at : PySem.W.keepIn K (.ref f_item_at) = true)
    (a_integer_at : PySem.W.nsIn K mainGlobals "integer_at" = some (some (.ref f_integer_at)))
    (l_integer_at : K.lookup f_integer_at = some ⟨oc_integer_at, od_integer_at, .func (PySem.W.fnOf "integer_at" "integer_at" (defArgs s_integer_at) (defBody s_integer_at) (defScope s_integer_at) .none kV_integer_at dc_integer_at pm_integer_at an_integer_at cd_integer_at ct_integer_at), sl_integer_at⟩)
    (c_integer_at : PySem.W.codeIn K cd_integer_at "integer_at" = true)
    (k_integer_at : PySem.W.keepIn K (.ref f_integer_at) = true)
    (a_need_end : PySem.W.nsIn K mainGlobals "need_end" = some (some (.ref f_need_end)))
    (l_need_end : K.lookup f_need_end = some ⟨oc_need_end, od_need_end, .func (PySem.W.fnOf "need_end" "need_end" (defArgs s_need_end) (defBody s_need_end) (defScope s_need_end) .none kV_need_end dc_need_end pm_need_end an_need_end cd_need_end ct_need_end), sl_need_end⟩)
    (c_need_end : PySem.W.codeIn K cd_need_end "need_end" = true)
    (k_need_end : PySem.W.keepIn K (.ref f_need_end) = true)
    (a_need_code : PySem.W.nsIn K mainGlobals "need_code" = some (some (.ref f_need_code)))
    (l_need_code : K.lookup f_need_code = some ⟨oc_need_code, od_need_code, .func (PySem.W.fnOf "need_code" "need_code" (defArgs s_need_code) (defBody s_need_code) (defScope s_need_code) .none kV_need_code dc_need_code pm_need_code an_need_code cd_need_code ct_need_code), sl_need_code⟩)
    (c_need_code : PySem.W.codeIn K cd_need_code "need_code" = true)
    (k_need_code : PySem.W.keepIn K (.ref f_need_code) = true)
    (a__need_word_of : PySem.W.nsIn K mainGlobals "_need_word_of" = some (some (.ref f__need_word_of)))
    (l__need_word_of : K.lookup f__need_word_of = some ⟨oc__need_word_of, od__need_word_of, .func (PySem.W.fnOf "_need_word_of" "_need_word_of" (defArgs s__need_word_of) (defBody s__need_word_of) (defScope s__need_word_of) .none kV__need_word_of dc__need_word_of pm__need_word_of an__need_word_of cd__need_word_of ct__need_word_of), sl__need_word_of⟩)
    (c__need_word_of : PySem.W.codeIn K cd__need_word_of "_need_word_of" = true)
    (k__need_word_of : PySem.W.keepIn K (.ref f__need_word_of) = true)
    (a_meant_by : PySem.W.nsIn K mainGlobals "meant_by" = some (some (.ref f_meant_by)))
    (l_meant_by : K.lookup f_meant_by = some ⟨oc_meant_by, od_meant_by, .func (PySem.W.fnOf "meant_by" "meant_by" (defArgs s_meant_by) (defBody s_meant_by) (defScope s_meant_by) .none kV_meant_by dc_meant_by pm_meant_by an_meant_by cd_meant_by ct_meant_by), sl_meant_by⟩)
    (c_meant_by : PySem.W.codeIn K cd_meant_by "meant_by" = true)
    (k_meant_by : PySem.W.keepIn K (.ref f_meant_by) = true)
    (a__base_word : PySem.W.nsIn K mainGlobals "_base_word" = some (some (.ref f__base_word)))
    (l__base_word : K.lookup f__base_word = some ⟨oc__base_word, od__base_word, .func (PySem.W.fnOf "_base_word" "_base_word" (defArgs s__base_word) (defBody s__base_word) (defScope s__base_word) .none kV__base_word dc__base_word pm__base_word an__base_word cd__base_word ct__base_word), sl__base_word⟩)
    (c__base_word : PySem.W.codeIn K cd__base_word "_base_word" = true)
    (k__base_word : PySem.W.keepIn K (.ref f__base_word) = true)
    (a__lower_bits : PySem.W.nsIn K mainGlobals "_lower_bits" = some (some (.ref f__lower_bits)))
    (l__lower_bits : K.lookup f__lower_bits = some ⟨oc__lower_bits, od__lower_bits, .func (PySem.W.fnOf "_lower_bits" "_lower_bits" (defArgs s__lower_bits) (defBody s__lower_bits) (defScope s__lower_bits) .none kV__lower_bits dc__lower_bits pm__lower_bits an__lower_bits cd__lower_bits ct__lower_bits), sl__lower_bits⟩)
    (c__lower_bits : PySem.W.codeIn K cd__lower_bits "_lower_bits" = true)
    (k__lower_bits : PySem.W.keepIn K (.ref f__lower_bits) = true)
    (a__counting_bits : PySem.W.nsIn K mainGlobals "_counting_bits" = some (some (.ref f__counting_bits)))
    (l__counting_bits : K.lookup f__counting_bits = some ⟨oc__counting_bits, od__counting_bits, .func (PySem.W.fnOf "_counting_bits" "_counting_bits" (defArgs s__counting_bits) (defBody s__counting_bits) (defScope s__counting_bits) .none kV__counting_bits dc__counting_bits pm__counting_bits an__counting_bits cd__counting_bits ct__counting_bits), sl__counting_bits⟩)
    (c__counting_bits : PySem.W.codeIn K cd__counting_bits "_counting_bits" = true)
    (k__counting_bits : PySem.W.keepIn K (.ref f__counting_bits) = true)
    (a_ones_in : PySem.W.nsIn K mainGlobals "ones_in" = some (some (.ref f_ones_in)))
    (l_ones_in : K.lookup f_ones_in = some ⟨oc_ones_in, od_ones_in, .func (PySem.W.fnOf "ones_in" "ones_in" (defArgs s_ones_in) (defBody s_ones_in) (defScope s_ones_in) .none kV_ones_in dc_ones_in pm_ones_in an_ones_in cd_ones_in ct_ones_in), sl_ones_in⟩)
    (c_ones_in : PySem.W.codeIn K cd_ones_in "ones_in" = true)
    (k_ones_in : PySem.W.keepIn K (.ref f_ones_in) = true)
    (a__is_meaning : PySem.W.nsIn K mainGlobals "_is_meaning" = some (some (.ref f__is_meaning)))
    (l__is_meaning : K.lookup f__is_meaning = some ⟨oc__is_meaning, od__is_meaning, .func (PySem.W.fnOf "_is_meaning" "_is_meaning" (defArgs s__is_meaning) (defBody s__is_meaning) (defScope s__is_meaning) .none kV__is_meaning dc__is_meaning pm__is_meaning an__is_meaning cd__is_meaning ct__is_meaning), sl__is_meaning⟩)
    (c__is_meaning : PySem.W.codeIn K cd__is_meaning "_is_meaning" = true)
    (k__is_meaning : PySem.W.keepIn K (.ref f__is_meaning) = true)
    (a__meaning_at : PySem.W.nsIn K mainGlobals "_meaning_at" = some (some (.ref f__meaning_at)))
    (l__meaning_at : K.lookup f__meaning_at = some ⟨oc__meaning_at, od__meaning_at, .func (PySem.W.fnOf "_meaning_at" "_meaning_at" (defArgs s__meaning_at) (defBody s__meaning_at) (defScope s__meaning_at) .none kV__meaning_at dc__meaning_at pm__meaning_at an__meaning_at cd__meaning_at ct__meaning_at), sl__meaning_at⟩)
    (c__meaning_at : PySem.W.codeIn K cd__meaning_at "_meaning_at" = true)
    (k__meaning_at : PySem.W.keepIn K (.ref f__meaning_at) = true)
    (a_need_layout : PySem.W.nsIn K mainGlobals "need_layout" = some (some (.ref f_need_layout)))
    (l_need_layout : K.lookup f_need_layout = some ⟨oc_need_layout, od_need_layout, .func (PySem.W.fnOf "need_layout" "need_layout" (defArgs s_need_layout) (defBody s_need_layout) (defScope s_need_layout) .none kV_need_layout dc_need_layout pm_need_layout an_need_layout cd_need_layout ct_need_layout), sl_need_layout⟩)
    (c_need_layout : PySem.W.codeIn K cd_need_layout "need_layout" = true)
    (k_need_layout : PySem.W.keepIn K (.ref f_need_layout) = true)
    (a_listed : PySem.W.nsIn K mainGlobals "listed" = some (some (.ref f_listed)))
    (l_listed : K.lookup f_listed = some ⟨oc_listed, od_listed, .func (PySem.W.fnOf "listed" "listed" (defArgs s_listed) (defBody s_listed) (defScope s_listed) .none kV_listed dc_listed pm_listed an_listed cd_listed ct_listed), sl_listed⟩)
    (c_listed : PySem.W.codeIn K cd_listed "listed" = true)
    (k_listed : PySem.W.keepIn K (.ref f_listed) = true)
    (a_doubled : PySem.W.nsIn K mainGlobals "doubled" = some (some (.ref f_doubled)))
    (l_doubled : K.lookup f_doubled = some ⟨oc_doubled, od_doubled, .func (PySem.W.fnOf "doubled" "doubled" (defArgs s_doubled) (defBody s_doubled) (defScope s_doubled) .none kV_doubled dc_doubled pm_doubled an_doubled cd_doubled ct_doubled), sl_doubled⟩)
    (c_doubled : PySem.W.codeIn K cd_doubled "doubled" = true)
    (k_doubled : PySem.W.keepIn K (.ref f_doubled) = true)
    (a__meant_above : PySem.W.nsIn K mainGlobals "_meant_above" = some (some (.ref f__meant_above)))
    (l__meant_above : K.lookup f__meant_above = some ⟨oc__meant_above, od__meant_above, .func (PySem.W.fnOf "_meant_above" "_meant_above" (defArgs s__meant_above) (defBody s__meant_above) (defScope s__meant_above) .none kV__meant_above dc__meant_above pm__meant_above an__meant_above cd__meant_above ct__meant_above), sl__meant_above⟩)
    (c__meant_above : PySem.W.codeIn K cd__meant_above "_meant_above" = true)
    (k__meant_above : PySem.W.keepIn K (.ref f__meant_above) = true)
    (a__law_barn : PySem.W.nsIn K mainGlobals "_law_barn" = some (some (.ref f__law_barn)))
    (l__law_barn : K.lookup f__law_barn = some ⟨oc__law_barn, od__law_barn, .func (PySem.W.fnOf "_law_barn" "_law_barn" (defArgs s__law_barn) (defBody s__law_barn) (defScope s__law_barn) .none kV__law_barn dc__law_barn pm__law_barn an__law_barn cd__law_barn ct__law_barn), sl__law_barn⟩)
    (c__law_barn : PySem.W.codeIn K cd__law_barn "_law_barn" = true)
    (k__law_barn : PySem.W.keepIn K (.ref f__law_barn) = true)
    (a__law_stack : PySem.W.nsIn K mainGlobals "_law_stack" = some (some (.ref f__law_stack)))
    (l__law_stack : K.lookup f__law_stack = some ⟨oc__law_stack, od__law_stack, .func (PySem.W.fnOf "_law_stack" "_law_stack" (defArgs s__law_stack) (defBody s__law_stack) (defScope s__law_stack) .none kV__law_stack dc__law_stack pm__law_stack an__law_stack cd__law_stack ct__law_stack), sl__law_stack⟩)
    (c__law_stack : PySem.W.codeIn K cd__law_stack "_law_stack" = true)
    (k__law_stack : PySem.W.keepIn K (.ref f__law_stack) = true)
    (a__law_pick : PySem.W.nsIn K mainGlobals "_law_pick" = some (some (.ref f__law_pick)))
    (l__law_pick : K.lookup f__law_pick = some ⟨oc__law_pick, od__law_pick, .func (PySem.W.fnOf "_law_pick" "_law_pick" (defArgs s__law_pick) (defBody s__law_pick) (defScope s__law_pick) .none kV__law_pick dc__law_pick pm__law_pick an__law_pick cd__law_pick ct__law_pick), sl__law_pick⟩)
    (c__law_pick : PySem.W.codeIn K cd__law_pick "_law_pick" = true)
    (k__law_pick : PySem.W.keepIn K (.ref f__law_pick) = true)
    (a__law_value : PySem.W.nsIn K mainGlobals "_law_value" = some (some (.ref f__law_value)))
    (l__law_value : K.lookup f__law_value = some ⟨oc__law_value, od__law_value, .func (PySem.W.fnOf "_law_value" "_law_value" (defArgs s__law_value) (defBody s__law_value) (defScope s__law_value) .none kV__law_value dc__law_value pm__law_value an__law_value cd__law_value ct__law_value), sl__law_value⟩)
    (c__law_value : PySem.W.codeIn K cd__law_value "_law_value" = true)
    (k__law_value : PySem.W.keepIn K (.ref f__law_value) = true)
    (a__law_heard : PySem.W.nsIn K mainGlobals "_law_heard" = some (some (.ref f__law_heard)))
    (l__law_heard : K.lookup f__law_heard = some ⟨oc__law_heard, od__law_heard, .func (PySem.W.fnOf "_law_heard" "_law_heard" (defArgs s__law_heard) (defBody s__law_heard) (defScope s__law_heard) .none kV__law_heard dc__law_heard pm__law_heard an__law_heard cd__law_heard ct__law_heard), sl__law_heard⟩)
    (c__law_heard : PySem.W.codeIn K cd__law_heard "_law_heard" = true)
    (k__law_heard : PySem.W.keepIn K (.ref f__law_heard) = true)
    (a__law_listed_right : PySem.W.nsIn K mainGlobals "_law_listed_right" = some (some (.ref f__law_listed_right)))
    (l__law_listed_right : K.lookup f__law_listed_right = some ⟨oc__law_listed_right, od__law_listed_right, .func (PySem.W.fnOf "_law_listed_right" "_law_listed_right" (defArgs s__law_listed_right) (defBody s__law_listed_right) (defScope s__law_listed_right) .none kV__law_listed_right dc__law_listed_right pm__law_listed_right an__law_listed_right (.ref c1) ct__law_listed_right), sl__law_listed_right⟩)
    (c__law_listed_right : PySem.W.codeIn K (.ref c1) "_law_listed_right" = true)
    (k__law_listed_right : PySem.W.keepIn K (.ref f__law_listed_right) = true)
    (a__law_doubled_right : PySem.W.nsIn K mainGlobals "_law_doubled_right" = some (some (.ref f__law_doubled_right)))
    (l__law_doubled_right : K.lookup f__law_doubled_right = some ⟨oc__law_doubled_right, od__law_doubled_right, .func (PySem.W.fnOf "_law_doubled_right" "_law_doubled_right" (defArgs s__law_doubled_right) (defBody s__law_doubled_right) (defScope s__law_doubled_right) .none kV__law_doubled_right dc__law_doubled_right pm__law_doubled_right an__law_doubled_right (.ref c2) ct__law_doubled_right), sl__law_doubled_right⟩)
    (c__law_doubled_right : PySem.W.codeIn K (.ref c2) "_law_doubled_right" = true)
    (k__law_doubled_right : PySem.W.keepIn K (.ref f__law_doubled_right) = true)
    (a__law_refused_right : PySem.W.nsIn K mainGlobals "_law_refused_right" = some (some (.ref f__law_refused_right)))
    (l__law_refused_right : K.lookup f__law_refused_right = some ⟨oc__law_refused_right, od__law_refused_right, .func (PySem.W.fnOf "_law_refused_right" "_law_refused_right" (defArgs s__law_refused_right) (defBody s__law_refused_right) (defScope s__law_refused_right) .none kV__law_refused_right dc__law_refused_right pm__law_refused_right an__law_refused_right (.ref c3) ct__law_refused_right), sl__law_refused_right⟩)
    (c__law_refused_right : PySem.W.codeIn K (.ref c3) "_law_refused_right" = true)
    (k__law_refused_right : PySem.W.keepIn K (.ref f__law_refused_right) = true)
    (a_law : PySem.W.nsIn K mainGlobals "law" = some (some (.ref f_law)))
    (l_law : K.lookup f_law = some ⟨oc_law, od_law, .func (PySem.W.fnOf "law" "law" (defArgs s_law) (defBody s_law) (defScope s_law) .none kV_law dc_law pm_law an_law cd_law ct_law), sl_law⟩)
    (c_law : PySem.W.codeIn K cd_law "law" = true)
    (k_law : PySem.W.keepIn K (.ref f_law) = true)
    (aF : PySem.W.nsIn K mainGlobals "FlipError" = some (some (.ref CF)))
    (eF : PySem.W.subIn K (.ref CF) (.type "BaseException") = some true)
    (dF : PySem.W.hasDictIn K CF = true)
    (tF : PySem.W.typeIn K (.ref CF) = some (.type "type"))
    (a_BadNumber : PySem.W.nsIn K mainGlobals "BadNumber" = some (some (.ref C_BadNumber)))
    (x_BadNumber : K.lookup C_BadNumber = some (excClassObj nm_BadNumber q_BadNumber C_BadNumber N_BadNumber bs_BadNumber [.ref CF, .type "ValueError", .type "Exception", .type "BaseException", .type "object"] true sn_BadNumber sub_BadNumber ab_BadNumber col_BadNumber dd_BadNumber m0_BadNumber m1_BadNumber m2_BadNumber m3_BadNumber m5_BadNumber "ValueError.__new__"))
    (sa_BadNumber : PySem.W.findIn K (.ref C_BadNumber) "__setattr__" = some (some (.builtin "object.__setattr__")))
    (e_BadNumber : PySem.W.subIn K (.ref C_BadNumber) (.type "BaseException") = some true)
    (t_BadNumber : PySem.W.typeIn K (.ref C_BadNumber) = some (.type "type"))
    (k_BadNumber : PySem.W.keepIn K (.ref C_BadNumber) = true)
    (i_BadNumber : PySem.W.findIn K (.ref C_BadNumber) "__init__" = some (some (.ref fi_BadNumber)))
    (ti_BadNumber : PySem.W.typeIn K (.ref fi_BadNumber) = some (.type "function"))
    (li_BadNumber : K.lookup fi_BadNumber = some ⟨oi_BadNumber, odi_BadNumber, .func (PySem.W.fnOf "__init__" "BadNumber.__init__" (defArgs s_init_BadNumber) (defBody s_init_BadNumber) (defScope s_init_BadNumber) .none kVi_BadNumber dci_BadNumber pmi_BadNumber ani_BadNumber cdi_BadNumber cti_BadNumber), sli_BadNumber⟩)
    (ci_BadNumber : PySem.W.codeIn K cdi_BadNumber "BadNumber.__init__" = true)
    (ki_BadNumber : PySem.W.keepIn K (.ref fi_BadNumber) = true)
    (no_BadNumber_part : PySem.W.findIn K (.ref C_BadNumber) "part" = some none)
    (ga_BadNumber : PySem.W.findIn K (.ref C_BadNumber) "__getattribute__" = some (some (.builtin "BaseException.__getattribute__")))
    (gg_BadNumber : PySem.W.findIn K (.ref C_BadNumber) "__getattr__" = some none)
    (hd_BadNumber : PySem.W.hasDictIn K C_BadNumber = true)
    (ha_BadNumber : PySem.W.findIn K (.ref C_BadNumber) "__class__" = some (some (.builtin "object.__class__")))
    (hm_BadNumber : PySem.W.mroIn K C_BadNumber (.type "object") = some true)
    (sf_BadNumber : PySem.W.subIn K (.ref C_BadNumber) (.ref CF) = some true)
    (is_BadNumber : PySem.W.isClsIn K C_BadNumber = true)
    (z_BadNumber : PySem.W.subIn K (.type "NoneType") (.ref C_BadNumber) = some false)
    (a_BadWord : PySem.W.nsIn K mainGlobals "BadWord" = some (some (.ref C_BadWord)))
    (x_BadWord : K.lookup C_BadWord = some (excClassObj nm_BadWord q_BadWord C_BadWord N_BadWord bs_BadWord [.ref CF, .type "ValueError", .type "Exception", .type "BaseException", .type "object"] true sn_BadWord sub_BadWord ab_BadWord col_BadWord dd_BadWord m0_BadWord m1_BadWord m2_BadWord m3_BadWord m5_BadWord "ValueError.__new__"))
    (sa_BadWord : PySem.W.findIn K (.ref C_BadWord) "__setattr__" = some (some (.builtin "object.__setattr__")))
    (e_BadWord : PySem.W.subIn K (.ref C_BadWord) (.type "BaseException") = some true)
    (t_BadWord : PySem.W.typeIn K (.ref C_BadWord) = some (.type "type"))
    (k_BadWord : PySem.W.keepIn K (.ref C_BadWord) = true)
    (i_BadWord : PySem.W.findIn K (.ref C_BadWord) "__init__" = some (some (.ref fi_BadWord)))
    (ti_BadWord : PySem.W.typeIn K (.ref fi_BadWord) = some (.type "function"))
    (li_BadWord : K.lookup fi_BadWord = some ⟨oi_BadWord, odi_BadWord, .func (PySem.W.fnOf "__init__" "BadWord.__init__" (defArgs s_init_BadWord) (defBody s_init_BadWord) (defScope s_init_BadWord) .none kVi_BadWord dci_BadWord pmi_BadWord ani_BadWord cdi_BadWord cti_BadWord), sli_BadWord⟩)
    (ci_BadWord : PySem.W.codeIn K cdi_BadWord "BadWord.__init__" = true)
    (ki_BadWord : PySem.W.keepIn K (.ref fi_BadWord) = true)
    (no_BadWord_part : PySem.W.findIn K (.ref C_BadWord) "part" = some none)
    (ga_BadWord : PySem.W.findIn K (.ref C_BadWord) "__getattribute__" = some (some (.builtin "BaseException.__getattribute__")))
    (gg_BadWord : PySem.W.findIn K (.ref C_BadWord) "__getattr__" = some none)
    (hd_BadWord : PySem.W.hasDictIn K C_BadWord = true)
    (ha_BadWord : PySem.W.findIn K (.ref C_BadWord) "__class__" = some (some (.builtin "object.__class__")))
    (hm_BadWord : PySem.W.mroIn K C_BadWord (.type "object") = some true)
    (sf_BadWord : PySem.W.subIn K (.ref C_BadWord) (.ref CF) = some true)
    (is_BadWord : PySem.W.isClsIn K C_BadWord = true)
    (z_BadWord : PySem.W.subIn K (.type "NoneType") (.ref C_BadWord) = some false)
    (a_BadLayout : PySem.W.nsIn K mainGlobals "BadLayout" = some (some (.ref C_BadLayout)))
    (x_BadLayout : K.lookup C_BadLayout = some (excClassObj nm_BadLayout q_BadLayout C_BadLayout N_BadLayout bs_BadLayout [.ref CF, .type "ValueError", .type "Exception", .type "BaseException", .type "object"] true sn_BadLayout sub_BadLayout ab_BadLayout col_BadLayout dd_BadLayout m0_BadLayout m1_BadLayout m2_BadLayout m3_BadLayout m5_BadLayout "ValueError.__new__"))
    (sa_BadLayout : PySem.W.findIn K (.ref C_BadLayout) "__setattr__" = some (some (.builtin "object.__setattr__")))
    (e_BadLayout : PySem.W.subIn K (.ref C_BadLayout) (.type "BaseException") = some true)
    (t_BadLayout : PySem.W.typeIn K (.ref C_BadLayout) = some (.type "type"))
    (k_BadLayout : PySem.W.keepIn K (.ref C_BadLayout) = true)
    (i_BadLayout : PySem.W.findIn K (.ref C_BadLayout) "__init__" = some (some (.ref fi_BadLayout)))
    (ti_BadLayout : PySem.W.typeIn K (.ref fi_BadLayout) = some (.type "function"))
    (li_BadLayout : K.lookup fi_BadLayout = some ⟨oi_BadLayout, odi_BadLayout, .func (PySem.W.fnOf "__init__" "BadLayout.__init__" (defArgs s_init_BadLayout) (defBody s_init_BadLayout) (defScope s_init_BadLayout) .none kVi_BadLayout dci_BadLayout pmi_BadLayout ani_BadLayout cdi_BadLayout cti_BadLayout), sli_BadLayout⟩)
    (ci_BadLayout : PySem.W.codeIn K cdi_BadLayout "BadLayout.__init__" = true)
    (ki_BadLayout : PySem.W.keepIn K (.ref fi_BadLayout) = true)
    (no_BadLayout_part : PySem.W.findIn K (.ref C_BadLayout) "part" = some none)
    (ga_BadLayout : PySem.W.findIn K (.ref C_BadLayout) "__getattribute__" = some (some (.builtin "BaseException.__getattribute__")))
    (gg_BadLayout : PySem.W.findIn K (.ref C_BadLayout) "__getattr__" = some none)
    (hd_BadLayout : PySem.W.hasDictIn K C_BadLayout = true)
    (ha_BadLayout : PySem.W.findIn K (.ref C_BadLayout) "__class__" = some (some (.builtin "object.__class__")))
    (hm_BadLayout : PySem.W.mroIn K C_BadLayout (.type "object") = some true)
    (sf_BadLayout : PySem.W.subIn K (.ref C_BadLayout) (.ref CF) = some true)
    (is_BadLayout : PySem.W.isClsIn K C_BadLayout = true)
    (z_BadLayout : PySem.W.subIn K (.type "NoneType") (.ref C_BadLayout) = some false)
    (a_BadCode : PySem.W.nsIn K mainGlobals "BadCode" = some (some (.ref C_BadCode)))
    (x_BadCode : K.lookup C_BadCode = some (excClassObj nm_BadCode q_BadCode C_BadCode N_BadCode bs_BadCode [.ref CF, .type "ValueError", .type "Exception", .type "BaseException", .type "object"] true sn_BadCode sub_BadCode ab_BadCode col_BadCode dd_BadCode m0_BadCode m1_BadCode m2_BadCode m3_BadCode m5_BadCode "ValueError.__new__"))
    (sa_BadCode : PySem.W.findIn K (.ref C_BadCode) "__setattr__" = some (some (.builtin "object.__setattr__")))
    (e_BadCode : PySem.W.subIn K (.ref C_BadCode) (.type "BaseException") = some true)
    (t_BadCode : PySem.W.typeIn K (.ref C_BadCode) = some (.type "type"))
    (k_BadCode : PySem.W.keepIn K (.ref C_BadCode) = true)
    (i_BadCode : PySem.W.findIn K (.ref C_BadCode) "__init__" = some (some (.ref fi_BadCode)))
    (ti_BadCode : PySem.W.typeIn K (.ref fi_BadCode) = some (.type "function"))
    (li_BadCode : K.lookup fi_BadCode = some ⟨oi_BadCode, odi_BadCode, .func (PySem.W.fnOf "__init__" "BadCode.__init__" (defArgs s_init_BadCode) (defBody s_init_BadCode) (defScope s_init_BadCode) .none kVi_BadCode dci_BadCode pmi_BadCode ani_BadCode cdi_BadCode cti_BadCode), sli_BadCode⟩)
    (ci_BadCode : PySem.W.codeIn K cdi_BadCode "BadCode.__init__" = true)
    (ki_BadCode : PySem.W.keepIn K (.ref fi_BadCode) = true)
    (no_BadCode_part : PySem.W.findIn K (.ref C_BadCode) "part" = some none)
    (ga_BadCode : PySem.W.findIn K (.ref C_BadCode) "__getattribute__" = some (some (.builtin "BaseException.__getattribute__")))
    (gg_BadCode : PySem.W.findIn K (.ref C_BadCode) "__getattr__" = some none)
    (hd_BadCode : PySem.W.hasDictIn K C_BadCode = true)
    (ha_BadCode : PySem.W.findIn K (.ref C_BadCode) "__class__" = some (some (.builtin "object.__class__")))
    (hm_BadCode : PySem.W.mroIn K C_BadCode (.type "object") = some true)
    (sf_BadCode : PySem.W.subIn K (.ref C_BadCode) (.ref CF) = some true)
    (is_BadCode : PySem.W.isClsIn K C_BadCode = true)
    (z_BadCode : PySem.W.subIn K (.type "NoneType") (.ref C_BadCode) = some false)
    (a_Misfit : PySem.W.nsIn K mainGlobals "Misfit" = some (some (.ref C_Misfit)))
    (x_Misfit : K.lookup C_Misfit = some (excClassObj nm_Misfit q_Misfit C_Misfit N_Misfit bs_Misfit [.ref CF, .type "ValueError", .type "Exception", .type "BaseException", .type "object"] true sn_Misfit sub_Misfit ab_Misfit col_Misfit dd_Misfit m0_Misfit m1_Misfit m2_Misfit m3_Misfit m5_Misfit "ValueError.__new__"))
    (sa_Misfit : PySem.W.findIn K (.ref C_Misfit) "__setattr__" = some (some (.builtin "object.__setattr__")))
    (e_Misfit : PySem.W.subIn K (.ref C_Misfit) (.type "BaseException") = some true)
    (t_Misfit : PySem.W.typeIn K (.ref C_Misfit) = some (.type "type"))
    (k_Misfit : PySem.W.keepIn K (.ref C_Misfit) = true)
    (i_Misfit : PySem.W.findIn K (.ref C_Misfit) "__init__" = some (some (.ref fi_Misfit)))
    (ti_Misfit : PySem.W.typeIn K (.ref fi_Misfit) = some (.type "function"))
    (li_Misfit : K.lookup fi_Misfit = some ⟨oi_Misfit, odi_Misfit, .func (PySem.W.fnOf "__init__" "Misfit.__init__" (defArgs s_init_Misfit) (defBody s_init_Misfit) (defScope s_init_Misfit) .none kVi_Misfit dci_Misfit pmi_Misfit ani_Misfit cdi_Misfit cti_Misfit), sli_Misfit⟩)
    (ci_Misfit : PySem.W.codeIn K cdi_Misfit "Misfit.__init__" = true)
    (ki_Misfit : PySem.W.keepIn K (.ref fi_Misfit) = true)
    (no_Misfit_part : PySem.W.findIn K (.ref C_Misfit) "part" = some none)
    (ga_Misfit : PySem.W.findIn K (.ref C_Misfit) "__getattribute__" = some (some (.builtin "BaseException.__getattribute__")))
    (gg_Misfit : PySem.W.findIn K (.ref C_Misfit) "__getattr__" = some none)
    (hd_Misfit : PySem.W.hasDictIn K C_Misfit = true)
    (ha_Misfit : PySem.W.findIn K (.ref C_Misfit) "__class__" = some (some (.builtin "object.__class__")))
    (hm_Misfit : PySem.W.mroIn K C_Misfit (.type "object") = some true)
    (sf_Misfit : PySem.W.subIn K (.ref C_Misfit) (.ref CF) = some true)
    (is_Misfit : PySem.W.isClsIn K C_Misfit = true)
    (z_Misfit : PySem.W.subIn K (.type "NoneType") (.ref C_Misfit) = some false)
    (a_BadText : PySem.W.nsIn K mainGlobals "BadText" = some (some (.ref C_BadText)))
    (x_BadText : K.lookup C_BadText = some (excClassObj nm_BadText q_BadText C_BadText N_BadText bs_BadText [.ref CF, .type "ValueError", .type "Exception", .type "BaseException", .type "object"] true sn_BadText sub_BadText ab_BadText col_BadText dd_BadText m0_BadText m1_BadText m2_BadText m3_BadText m5_BadText "ValueError.__new__"))
    (sa_BadText : PySem.W.findIn K (.ref C_BadText) "__setattr__" = some (some (.builtin "object.__setattr__")))
    (e_BadText : PySem.W.subIn K (.ref C_BadText) (.type "BaseException") = some true)
    (t_BadText : PySem.W.typeIn K (.ref C_BadText) = some (.type "type"))
    (k_BadText : PySem.W.keepIn K (.ref C_BadText) = true)
    (i_BadText : PySem.W.findIn K (.ref C_BadText) "__init__" = some (some (.ref fi_BadText)))
    (ti_BadText : PySem.W.typeIn K (.ref fi_BadText) = some (.type "function"))
    (li_BadText : K.lookup fi_BadText = some ⟨oi_BadText, odi_BadText, .func (PySem.W.fnOf "__init__" "BadText.__init__" (defArgs s_init_BadText) (defBody s_init_BadText) (defScope s_init_BadText) .none kVi_BadText dci_BadText pmi_BadText ani_BadText cdi_BadText cti_BadText), sli_BadText⟩)
    (ci_BadText : PySem.W.codeIn K cdi_BadText "BadText.__init__" = true)
    (ki_BadText : PySem.W.keepIn K (.ref fi_BadText) = true)
    (no_BadText_line : PySem.W.findIn K (.ref C_BadText) "line" = some none)
    (no_BadText_item : PySem.W.findIn K (.ref C_BadText) "item" = some none)
    (ga_BadText : PySem.W.findIn K (.ref C_BadText) "__getattribute__" = some (some (.builtin "BaseException.__getattribute__")))
    (gg_BadText : PySem.W.findIn K (.ref C_BadText) "__getattr__" = some none)
    (hd_BadText : PySem.W.hasDictIn K C_BadText = true)
    (ha_BadText : PySem.W.findIn K (.ref C_BadText) "__class__" = some (some (.builtin "object.__class__")))
    (hm_BadText : PySem.W.mroIn K C_BadText (.type "object") = some true)
    (sf_BadText : PySem.W.subIn K (.ref C_BadText) (.ref CF) = some true)
    (is_BadText : PySem.W.isClsIn K C_BadText = true)
    (z_BadText : PySem.W.subIn K (.type "NoneType") (.ref C_BadText) = some false)
    (sub_BadNumber_BadNumber : PySem.W.subIn K (.ref C_BadNumber) (.ref C_BadNumber) = some true)
    (sub_BadNumber_BadWord : PySem.W.subIn K (.ref C_BadNumber) (.ref C_BadWord) = some false)
    (sub_BadNumber_BadLayout : PySem.W.subIn K (.ref C_BadNumber) (.ref C_BadLayout) = some false)
    (sub_BadNumber_BadCode : PySem.W.subIn K (.ref C_BadNumber) (.ref C_BadCode) = some false)
    (sub_BadNumber_Misfit : PySem.W.subIn K (.ref C_BadNumber) (.ref C_Misfit) = some false)
    (sub_BadNumber_BadText : PySem.W.subIn K (.ref C_BadNumber) (.ref C_BadText) = some false)
    (sub_BadWord_BadNumber : PySem.W.subIn K (.ref C_BadWord) (.ref C_BadNumber) = some false)
    (sub_BadWord_BadWord : PySem.W.subIn K (.ref C_BadWord) (.ref C_BadWord) = some true)
    (sub_BadWord_BadLayout : PySem.W.subIn K (.ref C_BadWord) (.ref C_BadLayout) = some false)
    (sub_BadWord_BadCode : PySem.W.subIn K (.ref C_BadWord) (.ref C_BadCode) = some false)
    (sub_BadWord_Misfit : PySem.W.subIn K (.ref C_BadWord) (.ref C_Misfit) = some false)
    (sub_BadWord_BadText : PySem.W.subIn K (.ref C_BadWord) (.ref C_BadText) = some false)
    (sub_BadLayout_BadNumber : PySem.W.subIn K (.ref C_BadLayout) (.ref C_BadNumber) = some false)
    (sub_BadLayout_BadWord : PySem.W.subIn K (.ref C_BadLayout) (.ref C_BadWord) = some false)
    (sub_BadLayout_BadLayout : PySem.W.subIn K (.ref C_BadLayout) (.ref C_BadLayout) = some true)
    (sub_BadLayout_BadCode : PySem.W.subIn K (.ref C_BadLayout) (.ref C_BadCode) = some false)
    (sub_BadLayout_Misfit : PySem.W.subIn K (.ref C_BadLayout) (.ref C_Misfit) = some false)
    (sub_BadLayout_BadText : PySem.W.subIn K (.ref C_BadLayout) (.ref C_BadText) = some false)
    (sub_BadCode_BadNumber : PySem.W.subIn K (.ref C_BadCode) (.ref C_BadNumber) = some false)
    (sub_BadCode_BadWord : PySem.W.subIn K (.ref C_BadCode) (.ref C_BadWord) = some false)
    (sub_BadCode_BadLayout : PySem.W.subIn K (.ref C_BadCode) (.ref C_BadLayout) = some false)
    (sub_BadCode_BadCode : PySem.W.subIn K (.ref C_BadCode) (.ref C_BadCode) = some true)
    (sub_BadCode_Misfit : PySem.W.subIn K (.ref C_BadCode) (.ref C_Misfit) = some false)
    (sub_BadCode_BadText : PySem.W.subIn K (.ref C_BadCode) (.ref C_BadText) = some false)
    (sub_Misfit_BadNumber : PySem.W.subIn K (.ref C_Misfit) (.ref C_BadNumber) = some false)
    (sub_Misfit_BadWord : PySem.W.subIn K (.ref C_Misfit) (.ref C_BadWord) = some false)
    (sub_Misfit_BadLayout : PySem.W.subIn K (.ref C_Misfit) (.ref C_BadLayout) = some false)
    (sub_Misfit_BadCode : PySem.W.subIn K (.ref C_Misfit) (.ref C_BadCode) = some false)
    (sub_Misfit_Misfit : PySem.W.subIn K (.ref C_Misfit) (.ref C_Misfit) = some true)
    (sub_Misfit_BadText : PySem.W.subIn K (.ref C_Misfit) (.ref C_BadText) = some false)
    (sub_BadText_BadNumber : PySem.W.subIn K (.ref C_BadText) (.ref C_BadNumber) = some false)
    (sub_BadText_BadWord : PySem.W.subIn K (.ref C_BadText) (.ref C_BadWord) = some false)
    (sub_BadText_BadLayout : PySem.W.subIn K (.ref C_BadText) (.ref C_BadLayout) = some false)
    (sub_BadText_BadCode : PySem.W.subIn K (.ref C_BadText) (.ref C_BadCode) = some false)
    (sub_BadText_Misfit : PySem.W.subIn K (.ref C_BadText) (.ref C_Misfit) = some false)
    (sub_BadText_BadText : PySem.W.subIn K (.ref C_BadText) (.ref C_BadText) = some true)
    (spn : PySem.W.specialIn K (.builtin "object.__class__") "__get__" = some (some (.builtin "getset_descriptor.__get__")))
    (tkn : PySem.W.takesIn K (.builtin "object.__class__") = some true)
    (a_MOST_DIGITS : PySem.W.nsIn K mainGlobals "MOST_DIGITS" = some (some (.int 140 t_MOST_DIGITS)))
    (a_LEAST_BASE : PySem.W.nsIn K mainGlobals "LEAST_BASE" = some (some (.int 2 t_LEAST_BASE)))
    (a_MOST_BASE : PySem.W.nsIn K mainGlobals "MOST_BASE" = some (some (.int 3 t_MOST_BASE)))
    (a_MOST_DOUBLES : PySem.W.nsIn K mainGlobals "MOST_DOUBLES" = some (some (.int 199 t_MOST_DOUBLES)))
    (a_MOST_BITS : PySem.W.nsIn K mainGlobals "MOST_BITS" = some (some (.int 8 t_MOST_BITS)))
    (a_MOST_STATE : PySem.W.nsIn K mainGlobals "MOST_STATE" = some (some (.int 63 t_MOST_STATE)))
    (a_NOTHING : PySem.W.nsIn K mainGlobals "NOTHING" = some (some (.str "-" t_NOTHING)))
    (a_MOST_STATES : PySem.W.nsIn K mainGlobals "MOST_STATES" = some (some (.int 64 t_MOST_STATES)))
    (n_abs : PySem.W.nsIn K mainGlobals "abs" = some none)
    (n_all : PySem.W.nsIn K mainGlobals "all" = some none)
    (n_any : PySem.W.nsIn K mainGlobals "any" = some none)
    (n_bool : PySem.W.nsIn K mainGlobals "bool" = some none)
    (n_enumerate : PySem.W.nsIn K mainGlobals "enumerate" = some none)
    (n_int : PySem.W.nsIn K mainGlobals "int" = some none)
    (n_isinstance : PySem.W.nsIn K mainGlobals "isinstance" = some none)
    (n_len : PySem.W.nsIn K mainGlobals "len" = some none)
    (n_list : PySem.W.nsIn K mainGlobals "list" = some none)
    (n_max : PySem.W.nsIn K mainGlobals "max" = some none)
    (n_min : PySem.W.nsIn K mainGlobals "min" = some none)
    (n_range : PySem.W.nsIn K mainGlobals "range" = some none)
    (n_repr : PySem.W.nsIn K mainGlobals "repr" = some none)
    (n_str : PySem.W.nsIn K mainGlobals "str" = some none)
    (n_sum : PySem.W.nsIn K mainGlobals "sum" = some none)
    (n_tuple : PySem.W.nsIn K mainGlobals "tuple" = some none)
    (aC_Code : PySem.W.nsIn K mainGlobals "Code" = some (some (.ref C_Code)))
    (pg_Code : PySem.W.plainGet K C_Code Str.empty = true)
    (hdC_Code : PySem.W.hasDictIn K C_Code = true)
    (po_Code : PySem.W.plainOver K C_Code = true)
    (saC_Code : PySem.W.findIn K (.ref C_Code) "__setattr__" = some (some (.builtin "object.__setattr__")))
    (mkC_Code : PySem.W.makesIn K C_Code = true)
    (kcC_Code : PySem.W.keepIn K (.ref C_Code) = true)
    (haC_Code : PySem.W.findIn K (.ref C_Code) "__class__" = some (some (.builtin "object.__class__")))
    (hmC_Code : PySem.W.mroIn K C_Code (.type "object") = some true)
    (isC_Code : PySem.W.isClsIn K C_Code = true)
    (tyC_Code : PySem.W.typeIn K (.ref C_Code) = some (.type "type"))
    (sfC_Code : PySem.W.subIn K (.ref C_Code) (.ref C_Code) = some true)
    (suNoneType_Code : PySem.W.subIn K (.type "NoneType") (.ref C_Code) = some false)
    (suint_Code : PySem.W.subIn K (.type "int") (.ref C_Code) = some false)
    (subool_Code : PySem.W.subIn K (.type "bool") (.ref C_Code) = some false)
    (sustr_Code : PySem.W.subIn K (.type "str") (.ref C_Code) = some false)
    (sulist_Code : PySem.W.subIn K (.type "list") (.ref C_Code) = some false)
    (sutuple_Code : PySem.W.subIn K (.type "tuple") (.ref C_Code) = some false)
    (sudict_Code : PySem.W.subIn K (.type "dict") (.ref C_Code) = some false)
    (nC_Code_base : PySem.W.findIn K (.ref C_Code) "base" = some none)
    (nC_Code_doubles : PySem.W.findIn K (.ref C_Code) "doubles" = some none)
    (nC_Code_many : PySem.W.findIn K (.ref C_Code) "many" = some none)
    (nC_Code_bits : PySem.W.findIn K (.ref C_Code) "bits" = some none)
    (fi_Code_init : PySem.W.findIn K (.ref C_Code) "__init__" = some (some (.ref f_Code_init)))
    (if_Code_init : PySem.W.isFn K (.ref f_Code_init) = true)
    (l_Code_init : K.lookup f_Code_init = some ⟨oc_Code_init, od_Code_init, .func (PySem.W.fnOf "__init__" "Code.__init__" (defArgs s_Code_init) (defBody s_Code_init) (defScope s_Code_init) .none kV_Code_init dc_Code_init pm_Code_init an_Code_init cd_Code_init ct_Code_init), sl_Code_init⟩)
    (c_Code_init : PySem.W.codeIn K cd_Code_init "Code.__init__" = true)
    (k_Code_init : PySem.W.keepIn K (.ref f_Code_init) = true)
    (fi_Code_eq : PySem.W.findIn K (.ref C_Code) "__eq__" = some (some (.ref f_Code_eq)))
    (if_Code_eq : PySem.W.isFn K (.ref f_Code_eq) = true)
    (l_Code_eq : K.lookup f_Code_eq = some ⟨oc_Code_eq, od_Code_eq, .func (PySem.W.fnOf "__eq__" "Code.__eq__" (defArgs s_Code_eq) (defBody s_Code_eq) (defScope s_Code_eq) .none kV_Code_eq dc_Code_eq pm_Code_eq an_Code_eq cd_Code_eq ct_Code_eq), sl_Code_eq⟩)
    (c_Code_eq : PySem.W.codeIn K cd_Code_eq "Code.__eq__" = true)
    (k_Code_eq : PySem.W.keepIn K (.ref f_Code_eq) = true)
    (ne_Code : PySem.W.findIn K (.ref C_Code) "__ne__" = some (some (.builtin "object.__ne__")))
    (fi_Code_str : PySem.W.findIn K (.ref C_Code) "__str__" = some (some (.ref f_Code_str)))
    (if_Code_str : PySem.W.isFn K (.ref f_Code_str) = true)
    (l_Code_str : K.lookup f_Code_str = some ⟨oc_Code_str, od_Code_str, .func (PySem.W.fnOf "__str__" "Code.__str__" (defArgs s_Code_str) (defBody s_Code_str) (defScope s_Code_str) .none kV_Code_str dc_Code_str pm_Code_str an_Code_str cd_Code_str ct_Code_str), sl_Code_str⟩)
    (c_Code_str : PySem.W.codeIn K cd_Code_str "Code.__str__" = true)
    (k_Code_str : PySem.W.keepIn K (.ref f_Code_str) = true)
    (sm_Code_read : PySem.W.findCls K (.ref C_Code) (.type "type") "read" = some (.get (.builtin "staticmethod.__get__") (.ref p_Code_read) .none (.ref C_Code)))
    (rc_Code_read : PySem.W.recIn K p_Code_read "staticmethod" = some (.ref f_Code_read :: rs_Code_read))
    (l_Code_read : K.lookup f_Code_read = some ⟨oc_Code_read, od_Code_read, .func (PySem.W.fnOf "read" "Code.read" (defArgs s_Code_read) (defBody s_Code_read) (defScope s_Code_read) .none kV_Code_read dc_Code_read pm_Code_read an_Code_read cd_Code_read ct_Code_read), sl_Code_read⟩)
    (c_Code_read : PySem.W.codeIn K cd_Code_read "Code.read" = true)
    (k_Code_read : PySem.W.keepIn K (.ref f_Code_read) = true)
    (rdC_Code : PySem.W.readsIn K C_Code (.type "type") = true)
    (gaC_Code : PySem.W.specialIn K (.ref C_Code) "__getattribute__" = some (some (.builtin "type.__getattribute__")))
    (aC_Layout : PySem.W.nsIn K mainGlobals "Layout" = some (some (.ref C_Layout)))
    (pg_Layout : PySem.W.plainGet K C_Layout Str.empty = true)
    (hdC_Layout : PySem.W.hasDictIn K C_Layout = true)
    (po_Layout : PySem.W.plainOver K C_Layout = true)
    (saC_Layout : PySem.W.findIn K (.ref C_Layout) "__setattr__" = some (some (.builtin "object.__setattr__")))
    (mkC_Layout : PySem.W.makesIn K C_Layout = true)
    (kcC_Layout : PySem.W.keepIn K (.ref C_Layout) = true)
    (haC_Layout : PySem.W.findIn K (.ref C_Layout) "__class__" = some (some (.builtin "object.__class__")))
    (hmC_Layout : PySem.W.mroIn K C_Layout (.type "object") = some true)
    (isC_Layout : PySem.W.isClsIn K C_Layout = true)
    (tyC_Layout : PySem.W.typeIn K (.ref C_Layout) = some (.type "type"))
    (sfC_Layout : PySem.W.subIn K (.ref C_Layout) (.ref C_Layout) = some true)
    (suNoneType_Layout : PySem.W.subIn K (.type "NoneType") (.ref C_Layout) = some false)
    (suint_Layout : PySem.W.subIn K (.type "int") (.ref C_Layout) = some false)
    (subool_Layout : PySem.W.subIn K (.type "bool") (.ref C_Layout) = some false)
    (sustr_Layout : PySem.W.subIn K (.type "str") (.ref C_Layout) = some false)
    (sulist_Layout : PySem.W.subIn K (.type "list") (.ref C_Layout) = some false)
    (sutuple_Layout : PySem.W.subIn K (.type "tuple") (.ref C_Layout) = some false)
    (sudict_Layout : PySem.W.subIn K (.type "dict") (.ref C_Layout) = some false)
    (nC_Layout_bits : PySem.W.findIn K (.ref C_Layout) "bits" = some none)
    (nC_Layout_means : PySem.W.findIn K (.ref C_Layout) "means" = some none)
    (fi_Layout_init : PySem.W.findIn K (.ref C_Layout) "__init__" = some (some (.ref f_Layout_init)))
    (if_Layout_init : PySem.W.isFn K (.ref f_Layout_init) = true)
    (l_Layout_init : K.lookup f_Layout_init = some ⟨oc_Layout_init, od_Layout_init, .func (PySem.W.fnOf "__init__" "Layout.__init__" (defArgs s_Layout_init) (defBody s_Layout_init) (defScope s_Layout_init) .none kV_Layout_init dc_Layout_init pm_Layout_init an_Layout_init cd_Layout_init ct_Layout_init), sl_Layout_init⟩)
    (c_Layout_init : PySem.W.codeIn K cd_Layout_init "Layout.__init__" = true)
    (k_Layout_init : PySem.W.keepIn K (.ref f_Layout_init) = true)
    (fi_Layout_eq : PySem.W.findIn K (.ref C_Layout) "__eq__" = some (some (.ref f_Layout_eq)))
    (if_Layout_eq : PySem.W.isFn K (.ref f_Layout_eq) = true)
    (l_Layout_eq : K.lookup f_Layout_eq = some ⟨oc_Layout_eq, od_Layout_eq, .func (PySem.W.fnOf "__eq__" "Layout.__eq__" (defArgs s_Layout_eq) (defBody s_Layout_eq) (defScope s_Layout_eq) .none kV_Layout_eq dc_Layout_eq pm_Layout_eq an_Layout_eq cd_Layout_eq ct_Layout_eq), sl_Layout_eq⟩)
    (c_Layout_eq : PySem.W.codeIn K cd_Layout_eq "Layout.__eq__" = true)
    (k_Layout_eq : PySem.W.keepIn K (.ref f_Layout_eq) = true)
    (ne_Layout : PySem.W.findIn K (.ref C_Layout) "__ne__" = some (some (.builtin "object.__ne__")))
    (fi_Layout_str : PySem.W.findIn K (.ref C_Layout) "__str__" = some (some (.ref f_Layout_str)))
    (if_Layout_str : PySem.W.isFn K (.ref f_Layout_str) = true)
    (l_Layout_str : K.lookup f_Layout_str = some ⟨oc_Layout_str, od_Layout_str, .func (PySem.W.fnOf "__str__" "Layout.__str__" (defArgs s_Layout_str) (defBody s_Layout_str) (defScope s_Layout_str) .none kV_Layout_str dc_Layout_str pm_Layout_str an_Layout_str cd_Layout_str ct_Layout_str), sl_Layout_str⟩)
    (c_Layout_str : PySem.W.codeIn K cd_Layout_str "Layout.__str__" = true)
    (k_Layout_str : PySem.W.keepIn K (.ref f_Layout_str) = true)
    (sm_Layout_read : PySem.W.findCls K (.ref C_Layout) (.type "type") "read" = some (.get (.builtin "staticmethod.__get__") (.ref p_Layout_read) .none (.ref C_Layout)))
    (rc_Layout_read : PySem.W.recIn K p_Layout_read "staticmethod" = some (.ref f_Layout_read :: rs_Layout_read))
    (l_Layout_read : K.lookup f_Layout_read = some ⟨oc_Layout_read, od_Layout_read, .func (PySem.W.fnOf "read" "Layout.read" (defArgs s_Layout_read) (defBody s_Layout_read) (defScope s_Layout_read) .none kV_Layout_read dc_Layout_read pm_Layout_read an_Layout_read cd_Layout_read ct_Layout_read), sl_Layout_read⟩)
    (c_Layout_read : PySem.W.codeIn K cd_Layout_read "Layout.read" = true)
    (k_Layout_read : PySem.W.keepIn K (.ref f_Layout_read) = true)
    (rdC_Layout : PySem.W.readsIn K C_Layout (.type "type") = true)
    (gaC_Layout : PySem.W.specialIn K (.ref C_Layout) "__getattribute__" = some (some (.builtin "type.__getattribute__")))
    (l_code1 : K.lookup c1 = some ⟨.type "code", odC1, .fields vsC1, slC1⟩)
    (v111 : vsC1[11]? = some (.ref Pt1))
    (hdc1 : PySem.W.codeHdIn K c1 Pt1 = true)
    (kPt1 : K.lookup Pt1 = none)
    (hPt1 : h.get? Pt1 = some { cls := .none, data := .fields #[] })
    (l_code2 : K.lookup c2 = some ⟨.type "code", odC2, .fields vsC2, slC2⟩)
    (v112 : vsC2[11]? = some (.ref Pt2))
    (hdc2 : PySem.W.codeHdIn K c2 Pt2 = true)
    (kPt2 : K.lookup Pt2 = none)
    (hPt2 : h.get? Pt2 = some { cls := .none, data := .fields #[] })
    (l_code3 : K.lookup c3 = some ⟨.type "code", odC3, .fields vsC3, slC3⟩)
    (v113 : vsC3[11]? = some (.ref Pt3))
    (hdc3 : PySem.W.codeHdIn K c3 Pt3 = true)
    (kPt3 : K.lookup Pt3 = none)
    (hPt3 : h.get? Pt3 = some { cls := .none, data := .fields #[] })
    (nPt12 : Pt1 ≠ Pt2)
    (nPt13 : Pt1 ≠ Pt3)
    (nPt23 : Pt2 ≠ Pt3)
    (aBV : PySem.W.nsIn K mainGlobals "BASE_VALUES" = some (some (.ref dV)))
    (lBV : K.lookup dV = some ⟨.type "dict", none, .dict #[⟨2, .int 2 tv2, .ref av2⟩, ⟨3, .int 3 tv3, .ref av3⟩] nV, #[]⟩)
    (lV2 : K.lookup av2 = some ⟨.type "tuple", none, .seq #[.int 0 tx0, .int 1 tx1] nV2, slV2⟩)
    (lV3 : K.lookup av3 = some ⟨.type "tuple", none, .seq #[.int 0 ty0, .int 0 ty1, .int 1 ty2, .int 2 ty3] nV3, slV3⟩) :
    OB.LawG l w K CX0 16 63 "script" mg fa h := by
  have efa := hfa.symm.trans (PySem.W.mg_of X G a_law)
  cases efa
  have D_is_integer : Df K mg "is_integer" s_is_integer ["value"] f_is_integer _ := ⟨fun_mk (st := s_is_integer) l_is_integer c_is_integer k_is_integer, PySem.W.mg_of X G a_is_integer, (fun_mk (st := s_is_integer) l_is_integer c_is_integer k_is_integer).binds (ps := ["value"]) fun _ _ _ _ _ _ us hl => match us, hl with | [_], _ => rfl⟩
  have D_is_within : Df K mg "is_within" s_is_within ["value", "least", "most"] f_is_within _ := ⟨fun_mk (st := s_is_within) l_is_within c_is_within k_is_within, PySem.W.mg_of X G a_is_within, (fun_mk (st := s_is_within) l_is_within c_is_within k_is_within).binds (ps := ["value", "least", "most"]) fun _ _ _ _ _ _ us hl => match us, hl with | [_, _, _], _ => rfl⟩
  have D_is_list : Df K mg "is_list" s_is_list ["value"] f_is_list _ := ⟨fun_mk (st := s_is_list) l_is_list c_is_list k_is_list, PySem.W.mg_of X G a_is_list, (fun_mk (st := s_is_list) l_is_list c_is_list k_is_list).binds (ps := ["value"]) fun _ _ _ _ _ _ us hl => match us, hl with | [_], _ => rfl⟩
  have D_need_number : Df K mg "need_number" s_need_number ["value", "part", "least", "most"] f_need_number _ := ⟨fun_mk (st := s_need_number) l_need_number c_need_number k_need_number, PySem.W.mg_of X G a_need_number, (fun_mk (st := s_need_number) l_need_number c_need_number k_need_number).binds (ps := ["value", "part", "least", "most"]) fun _ _ _ _ _ _ us hl => match us, hl with | [_, _, _, _], _ => rfl⟩
  have D_items_of : Df K mg "items_of" s_items_of ["text"] f_items_of _ := ⟨fun_mk (st := s_items_of) l_items_of c_items_of k_items_of, PySem.W.mg_of X G a_items_of, (fun_mk (st := s_items_of) l_items_of c_items_of k_items_of).binds (ps := ["text"]) fun _ _ _ _ _ _ us hl => match us, hl with | [_], _ => rfl⟩
  have D_integer_of : Df K mg "integer_of" s_integer_of ["item"] f_integer_of _ := ⟨fun_mk (st := s_integer_of) l_integer_of c_integer_of k_integer_of, PySem.W.mg_of X G a_integer_of, (fun_mk (st := s_integer_of) l_integer_of c_integer_of k_integer_of).binds (ps := ["item"]) fun _ _ _ _ _ _ us hl => match us, hl with | [_], _ => rfl⟩
  have D_item_at : Df K mg "item_at" s_item_at ["items", "at"] f_item_at _ := ⟨fun_mk (st := s_item_at) l_item_at c_item_at k_item_at, PySem.W.mg_of X G a_item_at, (fun_mk (st := s_item_at) l_item_at c_item_at k_item_at).binds (ps := ["items", "at"]) fun _ _ _ _ _ _ us hl => match us, hl with | [_, _], _ => rfl⟩
  have D_integer_at : Df K mg "integer_at" s_integer_at ["items", "at", "least", "most"] f_integer_at _ := ⟨fun_mk (st := s_integer_at) l_integer_at c_integer_at k_integer_at, PySem.W.mg_of X G a_integer_at, (fun_mk (st := s_integer_at) l_integer_at c_integer_at k_integer_at).binds (ps := ["items", "at", "least", "most"]) fun _ _ _ _ _ _ us hl => match us, hl with | [_, _, _, _], _ => rfl⟩
  have D_need_end : Df K mg "need_end" s_need_end ["items", "at"] f_need_end _ := ⟨fun_mk (st := s_need_end) l_need_end c_need_end k_need_end, PySem.W.mg_of X G a_need_end, (fun_mk (st := s_need_end) l_need_end c_need_end k_need_end).binds (ps := ["items", "at"]) fun _ _ _ _ _ _ us hl => match us, hl with | [_, _], _ => rfl⟩
  have D_need_code : Df K mg "need_code" s_need_code ["value"] f_need_code _ := ⟨fun_mk (st := s_need_code) l_need_code c_need_code k_need_code, PySem.W.mg_of X G a_need_code, (fun_mk (st := s_need_code) l_need_code c_need_code k_need_code).binds (ps := ["value"]) fun _ _ _ _ _ _ us hl => match us, hl with | [_], _ => rfl⟩
  have D__need_word_of : Df K mg "_need_word_of" s__need_word_of ["code", "word"] f__need_word_of _ := ⟨fun_mk (st := s__need_word_of) l__need_word_of c__need_word_of k__need_word_of, PySem.W.mg_of X G a__need_word_of, (fun_mk (st := s__need_word_of) l__need_word_of c__need_word_of k__need_word_of).binds (ps := ["code", "word"]) fun _ _ _ _ _ _ us hl => match us, hl with | [_, _], _ => rfl⟩
  have D_meant_by : Df K mg "meant_by" s_meant_by ["code", "word"] f_meant_by _ := ⟨fun_mk (st := s_meant_by) l_meant_by c_meant_by k_meant_by, PySem.W.mg_of X G a_meant_by, (fun_mk (st := s_meant_by) l_meant_by c_meant_by k_meant_by).binds (ps := ["code", "word"]) fun _ _ _ _ _ _ us hl => match us, hl with | [_, _], _ => rfl⟩
  have D__base_word : Df K mg "_base_word" s__base_word ["code", "word"] f__base_word _ := ⟨fun_mk (st := s__base_word) l__base_word c__base_word k__base_word, PySem.W.mg_of X G a__base_word, (fun_mk (st := s__base_word) l__base_word c__base_word k__base_word).binds (ps := ["code", "word"]) fun _ _ _ _ _ _ us hl => match us, hl with | [_, _], _ => rfl⟩
  have D__lower_bits : Df K mg "_lower_bits" s__lower_bits ["code"] f__lower_bits _ := ⟨fun_mk (st := s__lower_bits) l__lower_bits c__lower_bits k__lower_bits, PySem.W.mg_of X G a__lower_bits, (fun_mk (st := s__lower_bits) l__lower_bits c__lower_bits k__lower_bits).binds (ps := ["code"]) fun _ _ _ _ _ _ us hl => match us, hl with | [_], _ => rfl⟩
  have D__counting_bits : Df K mg "_counting_bits" s__counting_bits ["code", "word"] f__counting_bits _ := ⟨fun_mk (st := s__counting_bits) l__counting_bits c__counting_bits k__counting_bits, PySem.W.mg_of X G a__counting_bits, (fun_mk (st := s__counting_bits) l__counting_bits c__counting_bits k__counting_bits).binds (ps := ["code", "word"]) fun _ _ _ _ _ _ us hl => match us, hl with | [_, _], _ => rfl⟩
  have D_ones_in : Df K mg "ones_in" s_ones_in ["number"] f_ones_in _ := ⟨fun_mk (st := s_ones_in) l_ones_in c_ones_in k_ones_in, PySem.W.mg_of X G a_ones_in, (fun_mk (st := s_ones_in) l_ones_in c_ones_in k_ones_in).binds (ps := ["number"]) fun _ _ _ _ _ _ us hl => match us, hl with | [_], _ => rfl⟩
  have D__is_meaning : Df K mg "_is_meaning" s__is_meaning ["value"] f__is_meaning _ := ⟨fun_mk (st := s__is_meaning) l__is_meaning c__is_meaning k__is_meaning, PySem.W.mg_of X G a__is_meaning, (fun_mk (st := s__is_meaning) l__is_meaning c__is_meaning k__is_meaning).binds (ps := ["value"]) fun _ _ _ _ _ _ us hl => match us, hl with | [_], _ => rfl⟩
  have D__meaning_at : Df K mg "_meaning_at" s__meaning_at ["items", "at"] f__meaning_at _ := ⟨fun_mk (st := s__meaning_at) l__meaning_at c__meaning_at k__meaning_at, PySem.W.mg_of X G a__meaning_at, (fun_mk (st := s__meaning_at) l__meaning_at c__meaning_at k__meaning_at).binds (ps := ["items", "at"]) fun _ _ _ _ _ _ us hl => match us, hl with | [_, _], _ => rfl⟩
  have D_need_layout : Df K mg "need_layout" s_need_layout ["value", "part"] f_need_layout _ := ⟨fun_mk (st := s_need_layout) l_need_layout c_need_layout k_need_layout, PySem.W.mg_of X G a_need_layout, (fun_mk (st := s_need_layout) l_need_layout c_need_layout k_need_layout).binds (ps := ["value", "part"]) fun _ _ _ _ _ _ us hl => match us, hl with | [_, _], _ => rfl⟩
  have D_listed : Df K mg "listed" s_listed ["code"] f_listed _ := ⟨fun_mk (st := s_listed) l_listed c_listed k_listed, PySem.W.mg_of X G a_listed, (fun_mk (st := s_listed) l_listed c_listed k_listed).binds (ps := ["code"]) fun _ _ _ _ _ _ us hl => match us, hl with | [_], _ => rfl⟩
  have D_doubled : Df K mg "doubled" s_doubled ["layout", "states"] f_doubled _ := ⟨fun_mk (st := s_doubled) l_doubled c_doubled k_doubled, PySem.W.mg_of X G a_doubled, (fun_mk (st := s_doubled) l_doubled c_doubled k_doubled).binds (ps := ["layout", "states"]) fun _ _ _ _ _ _ us hl => match us, hl with | [_, _], _ => rfl⟩
  have D__meant_above : Df K mg "_meant_above" s__meant_above ["layout", "word", "pair", "states"] f__meant_above _ := ⟨fun_mk (st := s__meant_above) l__meant_above c__meant_above k__meant_above, PySem.W.mg_of X G a__meant_above, (fun_mk (st := s__meant_above) l__meant_above c__meant_above k__meant_above).binds (ps := ["layout", "word", "pair", "states"]) fun _ _ _ _ _ _ us hl => match us, hl with | [_, _, _, _], _ => rfl⟩
  have D__law_barn : Df K mg "_law_barn" s__law_barn ["script"] f__law_barn _ := ⟨fun_mk (st := s__law_barn) l__law_barn c__law_barn k__law_barn, PySem.W.mg_of X G a__law_barn, (fun_mk (st := s__law_barn) l__law_barn c__law_barn k__law_barn).binds (ps := ["script"]) fun _ _ _ _ _ _ us hl => match us, hl with | [_], _ => rfl⟩
  have D__law_stack : Df K mg "_law_stack" s__law_stack ["barn", "many"] f__law_stack _ := ⟨fun_mk (st := s__law_stack) l__law_stack c__law_stack k__law_stack, PySem.W.mg_of X G a__law_stack, (fun_mk (st := s__law_stack) l__law_stack c__law_stack k__law_stack).binds (ps := ["barn", "many"]) fun _ _ _ _ _ _ us hl => match us, hl with | [_, _], _ => rfl⟩
  have D__law_pick : Df K mg "_law_pick" s__law_pick ["barn", "some"] f__law_pick _ := ⟨fun_mk (st := s__law_pick) l__law_pick c__law_pick k__law_pick, PySem.W.mg_of X G a__law_pick, (fun_mk (st := s__law_pick) l__law_pick c__law_pick k__law_pick).binds (ps := ["barn", "some"]) fun _ _ _ _ _ _ us hl => match us, hl with | [_, _], _ => rfl⟩
  have D__law_value : Df K mg "_law_value" s__law_value ["base", "doubles", "word"] f__law_value _ := ⟨fun_mk (st := s__law_value) l__law_value c__law_value k__law_value, PySem.W.mg_of X G a__law_value, (fun_mk (st := s__law_value) l__law_value c__law_value k__law_value).binds (ps := ["base", "doubles", "word"]) fun _ _ _ _ _ _ us hl => match us, hl with | [_, _, _], _ => rfl⟩
  have D__law_heard : Df K mg "_law_heard" s__law_heard ["ask"] f__law_heard _ := ⟨fun_mk (st := s__law_heard) l__law_heard c__law_heard k__law_heard, PySem.W.mg_of X G a__law_heard, (fun_mk (st := s__law_heard) l__law_heard c__law_heard k__law_heard).binds (ps := ["ask"]) fun _ _ _ _ _ _ us hl => match us, hl with | [_], _ => rfl⟩
  have D__law_listed_right : Df K mg "_law_listed_right" s__law_listed_right ["barn"] f__law_listed_right _ := ⟨fun_mk (st := s__law_listed_right) l__law_listed_right c__law_listed_right k__law_listed_right, PySem.W.mg_of X G a__law_listed_right, (fun_mk (st := s__law_listed_right) l__law_listed_right c__law_listed_right k__law_listed_right).binds (ps := ["barn"]) fun _ _ _ _ _ _ us hl => match us, hl with | [_], _ => rfl⟩
  have D__law_doubled_right : Df K mg "_law_doubled_right" s__law_doubled_right ["barn"] f__law_doubled_right _ := ⟨fun_mk (st := s__law_doubled_right) l__law_doubled_right c__law_doubled_right k__law_doubled_right, PySem.W.mg_of X G a__law_doubled_right, (fun_mk (st := s__law_doubled_right) l__law_doubled_right c__law_doubled_right k__law_doubled_right).binds (ps := ["barn"]) fun _ _ _ _ _ _ us hl => match us, hl with | [_], _ => rfl⟩
  have D__law_refused_right : Df K mg "_law_refused_right" s__law_refused_right ["barn"] f__law_refused_right _ := ⟨fun_mk (st := s__law_refused_right) l__law_refused_right c__law_refused_right k__law_refused_right, PySem.W.mg_of X G a__law_refused_right, (fun_mk (st := s__law_refused_right) l__law_refused_right c__law_refused_right k__law_refused_right).binds (ps := ["barn"]) fun _ _ _ _ _ _ us hl => match us, hl with | [_], _ => rfl⟩
  have FI_BadNumber := fun_mk (st := s_init_BadNumber) li_BadNumber ci_BadNumber ki_BadNumber
  have BI_BadNumber := FI_BadNumber.binds (ps := ["self", "part"]) fun _ _ _ _ _ _ us hl => match us, hl with | [_, _], _ => rfl
  have O_BadNumber : OexC K C_BadNumber := ⟨⟨_, _, _, _, _, _, _, _, _, _, _, _, _, _, _, x_BadNumber, by rfl⟩, sa_BadNumber, e_BadNumber, t_BadNumber, k_BadNumber⟩
  have XF_BadNumber : XfC K C_BadNumber := ⟨ga_BadNumber, gg_BadNumber, e_BadNumber, hd_BadNumber⟩
  have EC_BadNumber : ExcC K C_BadNumber := ⟨ga_BadNumber, gg_BadNumber, e_BadNumber, hd_BadNumber, ha_BadNumber, spn, tkn, hm_BadNumber⟩
  have EX_BadNumber : PySem.W.exmOne K (.ref C_BadNumber) (.ref CF) = some true := PySem.W.exm_ref eF dF tF sf_BadNumber
  have kit_BadNumber_BadNumber : PySem.W.kitOne K (.ref C_BadNumber) (.ref C_BadNumber) = some true := kit_sub is_BadNumber t_BadNumber sub_BadNumber_BadNumber sub_BadNumber_BadNumber
  have kit_BadWord_BadNumber : PySem.W.kitOne K (.ref C_BadWord) (.ref C_BadNumber) = some false := kit_sub is_BadNumber t_BadNumber sub_BadNumber_BadNumber sub_BadWord_BadNumber
  have kit_BadLayout_BadNumber : PySem.W.kitOne K (.ref C_BadLayout) (.ref C_BadNumber) = some false := kit_sub is_BadNumber t_BadNumber sub_BadNumber_BadNumber sub_BadLayout_BadNumber
  have kit_BadCode_BadNumber : PySem.W.kitOne K (.ref C_BadCode) (.ref C_BadNumber) = some false := kit_sub is_BadNumber t_BadNumber sub_BadNumber_BadNumber sub_BadCode_BadNumber
  have kit_Misfit_BadNumber : PySem.W.kitOne K (.ref C_Misfit) (.ref C_BadNumber) = some false := kit_sub is_BadNumber t_BadNumber sub_BadNumber_BadNumber sub_Misfit_BadNumber
  have kit_BadText_BadNumber : PySem.W.kitOne K (.ref C_BadText) (.ref C_BadNumber) = some false := kit_sub is_BadNumber t_BadNumber sub_BadNumber_BadNumber sub_BadText_BadNumber
  have kz_BadNumber : PySem.W.kitOne K (.type "NoneType") (.ref C_BadNumber) = some false := kit_sub is_BadNumber t_BadNumber sub_BadNumber_BadNumber z_BadNumber
  have g_BadNumber : mg "BadNumber" = some (.ref C_BadNumber) := PySem.W.mg_of X G a_BadNumber
  have FI_BadWord := fun_mk (st := s_init_BadWord) li_BadWord ci_BadWord ki_BadWord
  have BI_BadWord := FI_BadWord.binds (ps := ["self", "part"]) fun _ _ _ _ _ _ us hl => match us, hl with | [_, _], _ => rfl
  have O_BadWord : OexC K C_BadWord := ⟨⟨_, _, _, _, _, _, _, _, _, _, _, _, _, _, _, x_BadWord, by rfl⟩, sa_BadWord, e_BadWord, t_BadWord, k_BadWord⟩
  have XF_BadWord : XfC K C_BadWord := ⟨ga_BadWord, gg_BadWord, e_BadWord, hd_BadWord⟩
  have EC_BadWord : ExcC K C_BadWord := ⟨ga_BadWord, gg_BadWord, e_BadWord, hd_BadWord, ha_BadWord, spn, tkn, hm_BadWord⟩
  have EX_BadWord : PySem.W.exmOne K (.ref C_BadWord) (.ref CF) = some true := PySem.W.exm_ref eF dF tF sf_BadWord
  have kit_BadNumber_BadWord : PySem.W.kitOne K (.ref C_BadNumber) (.ref C_BadWord) = some false := kit_sub is_BadWord t_BadWord sub_BadWord_BadWord sub_BadNumber_BadWord
  have kit_BadWord_BadWord : PySem.W.kitOne K (.ref C_BadWord) (.ref C_BadWord) = some true := kit_sub is_BadWord t_BadWord sub_BadWord_BadWord sub_BadWord_BadWord
  have kit_BadLayout_BadWord : PySem.W.kitOne K (.ref C_BadLayout) (.ref C_BadWord) = some false := kit_sub is_BadWord t_BadWord sub_BadWord_BadWord sub_BadLayout_BadWord
  have kit_BadCode_BadWord : PySem.W.kitOne K (.ref C_BadCode) (.ref C_BadWord) = some false := kit_sub is_BadWord t_BadWord sub_BadWord_BadWord sub_BadCode_BadWord
  have kit_Misfit_BadWord : PySem.W.kitOne K (.ref C_Misfit) (.ref C_BadWord) = some false := kit_sub is_BadWord t_BadWord sub_BadWord_BadWord sub_Misfit_BadWord
  have kit_BadText_BadWord : PySem.W.kitOne K (.ref C_BadText) (.ref C_BadWord) = some false := kit_sub is_BadWord t_BadWord sub_BadWord_BadWord sub_BadText_BadWord
  have kz_BadWord : PySem.W.kitOne K (.type "NoneType") (.ref C_BadWord) = some false := kit_sub is_BadWord t_BadWord sub_BadWord_BadWord z_BadWord
  have g_BadWord : mg "BadWord" = some (.ref C_BadWord) := PySem.W.mg_of X G a_BadWord
  have FI_BadLayout := fun_mk (st := s_init_BadLayout) li_BadLayout ci_BadLayout ki_BadLayout
  have BI_BadLayout := FI_BadLayout.binds (ps := ["self", "part"]) fun _ _ _ _ _ _ us hl => match us, hl with | [_, _], _ => rfl
  have O_BadLayout : OexC K C_BadLayout := ⟨⟨_, _, _, _, _, _, _, _, _, _, _, _, _, _, _, x_BadLayout, by rfl⟩, sa_BadLayout, e_BadLayout, t_BadLayout, k_BadLayout⟩
  have XF_BadLayout : XfC K C_BadLayout := ⟨ga_BadLayout, gg_BadLayout, e_BadLayout, hd_BadLayout⟩
  have EC_BadLayout : ExcC K C_BadLayout := ⟨ga_BadLayout, gg_BadLayout, e_BadLayout, hd_BadLayout, ha_BadLayout, spn, tkn, hm_BadLayout⟩
  have EX_BadLayout : PySem.W.exmOne K (.ref C_BadLayout) (.ref CF) = some true := PySem.W.exm_ref eF dF tF sf_BadLayout
  have kit_BadNumber_BadLayout : PySem.W.kitOne K (.ref C_BadNumber) (.ref C_BadLayout) = some false := kit_sub is_BadLayout t_BadLayout sub_BadLayout_BadLayout sub_BadNumber_BadLayout
  have kit_BadWord_BadLayout : PySem.W.kitOne K (.ref C_BadWord) (.ref C_BadLayout) = some false := kit_sub is_BadLayout t_BadLayout sub_BadLayout_BadLayout sub_BadWord_BadLayout
  have kit_BadLayout_BadLayout : PySem.W.kitOne K (.ref C_BadLayout) (.ref C_BadLayout) = some true := kit_sub is_BadLayout t_BadLayout sub_BadLayout_BadLayout sub_BadLayout_BadLayout
  have kit_BadCode_BadLayout : PySem.W.kitOne K (.ref C_BadCode) (.ref C_BadLayout) = some false := kit_sub is_BadLayout t_BadLayout sub_BadLayout_BadLayout sub_BadCode_BadLayout
  have kit_Misfit_BadLayout : PySem.W.kitOne K (.ref C_Misfit) (.ref C_BadLayout) = some false := kit_sub is_BadLayout t_BadLayout sub_BadLayout_BadLayout sub_Misfit_BadLayout
  have kit_BadText_BadLayout : PySem.W.kitOne K (.ref C_BadText) (.ref C_BadLayout) = some false := kit_sub is_BadLayout t_BadLayout sub_BadLayout_BadLayout sub_BadText_BadLayout
  have kz_BadLayout : PySem.W.kitOne K (.type "NoneType") (.ref C_BadLayout) = some false := kit_sub is_BadLayout t_BadLayout sub_BadLayout_BadLayout z_BadLayout
  have g_BadLayout : mg "BadLayout" = some (.ref C_BadLayout) := PySem.W.mg_of X G a_BadLayout
  have FI_BadCode := fun_mk (st := s_init_BadCode) li_BadCode ci_BadCode ki_BadCode
  have BI_BadCode := FI_BadCode.binds (ps := ["self", "part"]) fun _ _ _ _ _ _ us hl => match us, hl with | [_, _], _ => rfl
  have O_BadCode : OexC K C_BadCode := ⟨⟨_, _, _, _, _, _, _, _, _, _, _, _, _, _, _, x_BadCode, by rfl⟩, sa_BadCode, e_BadCode, t_BadCode, k_BadCode⟩
  have XF_BadCode : XfC K C_BadCode := ⟨ga_BadCode, gg_BadCode, e_BadCode, hd_BadCode⟩
  have EC_BadCode : ExcC K C_BadCode := ⟨ga_BadCode, gg_BadCode, e_BadCode, hd_BadCode, ha_BadCode, spn, tkn, hm_BadCode⟩
  have EX_BadCode : PySem.W.exmOne K (.ref C_BadCode) (.ref CF) = some true := PySem.W.exm_ref eF dF tF sf_BadCode
  have kit_BadNumber_BadCode : PySem.W.kitOne K (.ref C_BadNumber) (.ref C_BadCode) = some false := kit_sub is_BadCode t_BadCode sub_BadCode_BadCode sub_BadNumber_BadCode
  have kit_BadWord_BadCode : PySem.W.kitOne K (.ref C_BadWord) (.ref C_BadCode) = some false := kit_sub is_BadCode t_BadCode sub_BadCode_BadCode sub_BadWord_BadCode
  have kit_BadLayout_BadCode : PySem.W.kitOne K (.ref C_BadLayout) (.ref C_BadCode) = some false := kit_sub is_BadCode t_BadCode sub_BadCode_BadCode sub_BadLayout_BadCode
  have kit_BadCode_BadCode : PySem.W.kitOne K (.ref C_BadCode) (.ref C_BadCode) = some true := kit_sub is_BadCode t_BadCode sub_BadCode_BadCode sub_BadCode_BadCode
  have kit_Misfit_BadCode : PySem.W.kitOne K (.ref C_Misfit) (.ref C_BadCode) = some false := kit_sub is_BadCode t_BadCode sub_BadCode_BadCode sub_Misfit_BadCode
  have kit_BadText_BadCode : PySem.W.kitOne K (.ref C_BadText) (.ref C_BadCode) = some false := kit_sub is_BadCode t_BadCode sub_BadCode_BadCode sub_BadText_BadCode
  have kz_BadCode : PySem.W.kitOne K (.type "NoneType") (.ref C_BadCode) = some false := kit_sub is_BadCode t_BadCode sub_BadCode_BadCode z_BadCode
  have g_BadCode : mg "BadCode" = some (.ref C_BadCode) := PySem.W.mg_of X G a_BadCode
  have FI_Misfit := fun_mk (st := s_init_Misfit) li_Misfit ci_Misfit ki_Misfit
  have BI_Misfit := FI_Misfit.binds (ps := ["self", "part"]) fun _ _ _ _ _ _ us hl => match us, hl with | [_, _], _ => rfl
  have O_Misfit : OexC K C_Misfit := ⟨⟨_, _, _, _, _, _, _, _, _, _, _, _, _, _, _, x_Misfit, by rfl⟩, sa_Misfit, e_Misfit, t_Misfit, k_Misfit⟩
  have XF_Misfit : XfC K C_Misfit := ⟨ga_Misfit, gg_Misfit, e_Misfit, hd_Misfit⟩
  have EC_Misfit : ExcC K C_Misfit := ⟨ga_Misfit, gg_Misfit, e_Misfit, hd_Misfit, ha_Misfit, spn, tkn, hm_Misfit⟩
  have EX_Misfit : PySem.W.exmOne K (.ref C_Misfit) (.ref CF) = some true := PySem.W.exm_ref eF dF tF sf_Misfit
  have kit_BadNumber_Misfit : PySem.W.kitOne K (.ref C_BadNumber) (.ref C_Misfit) = some false := kit_sub is_Misfit t_Misfit sub_Misfit_Misfit sub_BadNumber_Misfit
  have kit_BadWord_Misfit : PySem.W.kitOne K (.ref C_BadWord) (.ref C_Misfit) = some false := kit_sub is_Misfit t_Misfit sub_Misfit_Misfit sub_BadWord_Misfit
  have kit_BadLayout_Misfit : PySem.W.kitOne K (.ref C_BadLayout) (.ref C_Misfit) = some false := kit_sub is_Misfit t_Misfit sub_Misfit_Misfit sub_BadLayout_Misfit
  have kit_BadCode_Misfit : PySem.W.kitOne K (.ref C_BadCode) (.ref C_Misfit) = some false := kit_sub is_Misfit t_Misfit sub_Misfit_Misfit sub_BadCode_Misfit
  have kit_Misfit_Misfit : PySem.W.kitOne K (.ref C_Misfit) (.ref C_Misfit) = some true := kit_sub is_Misfit t_Misfit sub_Misfit_Misfit sub_Misfit_Misfit
  have kit_BadText_Misfit : PySem.W.kitOne K (.ref C_BadText) (.ref C_Misfit) = some false := kit_sub is_Misfit t_Misfit sub_Misfit_Misfit sub_BadText_Misfit
  have kz_Misfit : PySem.W.kitOne K (.type "NoneType") (.ref C_Misfit) = some false := kit_sub is_Misfit t_Misfit sub_Misfit_Misfit z_Misfit
  have g_Misfit : mg "Misfit" = some (.ref C_Misfit) := PySem.W.mg_of X G a_Misfit
  have FI_BadText := fun_mk (st := s_init_BadText) li_BadText ci_BadText ki_BadText
  have BI_BadText := FI_BadText.binds (ps := ["self", "line", "item"]) fun _ _ _ _ _ _ us hl => match us, hl with | [_, _, _], _ => rfl
  have O_BadText : OexC K C_BadText := ⟨⟨_, _, _, _, _, _, _, _, _, _, _, _, _, _, _, x_BadText, by rfl⟩, sa_BadText, e_BadText, t_BadText, k_BadText⟩
  have XF_BadText : XfC K C_BadText := ⟨ga_BadText, gg_BadText, e_BadText, hd_BadText⟩
  have EC_BadText : ExcC K C_BadText := ⟨ga_BadText, gg_BadText, e_BadText, hd_BadText, ha_BadText, spn, tkn, hm_BadText⟩
  have EX_BadText : PySem.W.exmOne K (.ref C_BadText) (.ref CF) = some true := PySem.W.exm_ref eF dF tF sf_BadText
  have kit_BadNumber_BadText : PySem.W.kitOne K (.ref C_BadNumber) (.ref C_BadText) = some false := kit_sub is_BadText t_BadText sub_BadText_BadText sub_BadNumber_BadText
  have kit_BadWord_BadText : PySem.W.kitOne K (.ref C_BadWord) (.ref C_BadText) = some false := kit_sub is_BadText t_BadText sub_BadText_BadText sub_BadWord_BadText
  have kit_BadLayout_BadText : PySem.W.kitOne K (.ref C_BadLayout) (.ref C_BadText) = some false := kit_sub is_BadText t_BadText sub_BadText_BadText sub_BadLayout_BadText
  have kit_BadCode_BadText : PySem.W.kitOne K (.ref C_BadCode) (.ref C_BadText) = some false := kit_sub is_BadText t_BadText sub_BadText_BadText sub_BadCode_BadText
  have kit_Misfit_BadText : PySem.W.kitOne K (.ref C_Misfit) (.ref C_BadText) = some false := kit_sub is_BadText t_BadText sub_BadText_BadText sub_Misfit_BadText
  have kit_BadText_BadText : PySem.W.kitOne K (.ref C_BadText) (.ref C_BadText) = some true := kit_sub is_BadText t_BadText sub_BadText_BadText sub_BadText_BadText
  have kz_BadText : PySem.W.kitOne K (.type "NoneType") (.ref C_BadText) = some false := kit_sub is_BadText t_BadText sub_BadText_BadText z_BadText
  have g_BadText : mg "BadText" = some (.ref C_BadText) := PySem.W.mg_of X G a_BadText
  have F_Code_init := fun_mk (st := s_Code_init) l_Code_init c_Code_init k_Code_init
  have b_Code_init := F_Code_init.binds (ps := ["self", "base", "doubles"]) fun _ _ _ _ _ _ us hl => match us, hl with | [_, _, _], _ => rfl
  have F_Code_eq := fun_mk (st := s_Code_eq) l_Code_eq c_Code_eq k_Code_eq
  have b_Code_eq := F_Code_eq.binds (ps := ["self", "other"]) fun _ _ _ _ _ _ us hl => match us, hl with | [_, _], _ => rfl
  have EQ_Code : OwnEqC K C_Code f_Code_eq := ⟨fi_Code_eq, if_Code_eq, ne_Code, hmC_Code⟩
  have F_Code_str := fun_mk (st := s_Code_str) l_Code_str c_Code_str k_Code_str
  have b_Code_str := F_Code_str.binds (ps := ["self"]) fun _ _ _ _ _ _ us hl => match us, hl with | [_], _ => rfl
  have ST_Code : OwnStrC K C_Code f_Code_str := ⟨fi_Code_str, if_Code_str⟩
  have F_Code_read := fun_mk (st := s_Code_read) l_Code_read c_Code_read k_Code_read
  have b_Code_read := F_Code_read.binds (ps := ["text"]) fun _ _ _ _ _ _ us hl => match us, hl with | [_], _ => rfl
  have SM_Code_read : CStat K C_Code (.type "type") "read" p_Code_read f_Code_read := ⟨sm_Code_read, ⟨_, rc_Code_read⟩, k_Code_read⟩
  have RD_Code : CRead K C_Code (.type "type") := ⟨rdC_Code, gaC_Code⟩
  have O_Code : OwnC K mg "Code" C_Code f_Code_init := ⟨⟨pg_Code, hdC_Code, po_Code, saC_Code⟩, PySem.W.mg_of X G aC_Code, ⟨mkC_Code, fi_Code_init, if_Code_init, kcC_Code⟩, haC_Code, spn, tkn, hmC_Code, kit_sub isC_Code tyC_Code sfC_Code sfC_Code, fun n hn => by
    simp only [List.mem_cons, List.not_mem_nil, or_false] at hn
    rcases hn with rfl | rfl | rfl | rfl | rfl | rfl | rfl
    · exact kit_sub isC_Code tyC_Code sfC_Code suNoneType_Code
    · exact kit_sub isC_Code tyC_Code sfC_Code suint_Code
    · exact kit_sub isC_Code tyC_Code sfC_Code subool_Code
    · exact kit_sub isC_Code tyC_Code sfC_Code sustr_Code
    · exact kit_sub isC_Code tyC_Code sfC_Code sulist_Code
    · exact kit_sub isC_Code tyC_Code sfC_Code sutuple_Code
    · exact kit_sub isC_Code tyC_Code sfC_Code sudict_Code
    , sutuple_Code⟩
  have F_Layout_init := fun_mk (st := s_Layout_init) l_Layout_init c_Layout_init k_Layout_init
  have b_Layout_init := F_Layout_init.binds (ps := ["self", "bits", "means"]) fun _ _ _ _ _ _ us hl => match us, hl with | [_, _, _], _ => rfl
  have F_Layout_eq := fun_mk (st := s_Layout_eq) l_Layout_eq c_Layout_eq k_Layout_eq
  have b_Layout_eq := F_Layout_eq.binds (ps := ["self", "other"]) fun _ _ _ _ _ _ us hl => match us, hl with | [_, _], _ => rfl
  have EQ_Layout : OwnEqC K C_Layout f_Layout_eq := ⟨fi_Layout_eq, if_Layout_eq, ne_Layout, hmC_Layout⟩
  have F_Layout_str := fun_mk (st := s_Layout_str) l_Layout_str c_Layout_str k_Layout_str
  have b_Layout_str := F_Layout_str.binds (ps := ["self"]) fun _ _ _ _ _ _ us hl => match us, hl with | [_], _ => rfl
  have ST_Layout : OwnStrC K C_Layout f_Layout_str := ⟨fi_Layout_str, if_Layout_str⟩
  have F_Layout_read := fun_mk (st := s_Layout_read) l_Layout_read c_Layout_read k_Layout_read
  have b_Layout_read := F_Layout_read.binds (ps := ["text"]) fun _ _ _ _ _ _ us hl => match us, hl with | [_], _ => rfl
  have SM_Layout_read : CStat K C_Layout (.type "type") "read" p_Layout_read f_Layout_read := ⟨sm_Layout_read, ⟨_, rc_Layout_read⟩, k_Layout_read⟩
  have RD_Layout : CRead K C_Layout (.type "type") := ⟨rdC_Layout, gaC_Layout⟩
  have O_Layout : OwnC K mg "Layout" C_Layout f_Layout_init := ⟨⟨pg_Layout, hdC_Layout, po_Layout, saC_Layout⟩, PySem.W.mg_of X G aC_Layout, ⟨mkC_Layout, fi_Layout_init, if_Layout_init, kcC_Layout⟩, haC_Layout, spn, tkn, hmC_Layout, kit_sub isC_Layout tyC_Layout sfC_Layout sfC_Layout, fun n hn => by
    simp only [List.mem_cons, List.not_mem_nil, or_false] at hn
    rcases hn with rfl | rfl | rfl | rfl | rfl | rfl | rfl
    · exact kit_sub isC_Layout tyC_Layout sfC_Layout suNoneType_Layout
    · exact kit_sub isC_Layout tyC_Layout sfC_Layout suint_Layout
    · exact kit_sub isC_Layout tyC_Layout sfC_Layout subool_Layout
    · exact kit_sub isC_Layout tyC_Layout sfC_Layout sustr_Layout
    · exact kit_sub isC_Layout tyC_Layout sfC_Layout sulist_Layout
    · exact kit_sub isC_Layout tyC_Layout sfC_Layout sutuple_Layout
    · exact kit_sub isC_Layout tyC_Layout sfC_Layout sudict_Layout
    , sutuple_Layout⟩
  have kinds : ∀ e ∈ (#[(⟨2, .int 2 tv2, .ref av2⟩ : DictEntry), ⟨3, .int 3 tv3, .ref av3⟩] : Array DictEntry).toList, ∃ (k : Int) (t : Tok), e.key = .int k t ∧ e.hash = hashInt k := fun e he => by
    rcases List.mem_cons.mp he with rfl | he
    · exact ⟨2, _, rfl, (show (2 : Int) = hashInt 2 by decide)⟩
    · rw [List.mem_singleton.mp he]
      exact ⟨3, _, rfl, (show (3 : Int) = hashInt 3 by decide)⟩
  have BV : BaseV K mg := ⟨dV, PySem.W.mg_of X G aBV, fun b hb => by
      rcases hb with rfl | rfl
      · exact ⟨av2, ⟨_, _, _, lBV, kinds, rfl, rfl⟩, ⟨_, lV2, rfl, rfl⟩, fun H => .inr ⟨_, _, _, lV2, rfl, rfl, by show 2 ≤ sizeLine; decide, .cons ⟨_, rfl⟩ (.cons ⟨_, rfl⟩ .nil)⟩⟩
      · exact ⟨av3, ⟨_, _, _, lBV, kinds, rfl, rfl⟩, ⟨_, lV3, rfl, rfl⟩, fun H => .inr ⟨_, _, _, lV3, rfl, rfl, by show 4 ≤ sizeLine; decide, .cons ⟨_, rfl⟩ (.cons ⟨_, rfl⟩ (.cons ⟨_, rfl⟩ (.cons ⟨_, rfl⟩ .nil)))⟩⟩⟩
  have T : Blt mg := ⟨⟨_, PySem.W.mg_of X G a_MOST_DIGITS⟩, ⟨_, PySem.W.mg_of X G a_LEAST_BASE⟩, ⟨_, PySem.W.mg_of X G a_MOST_BASE⟩, ⟨_, PySem.W.mg_of X G a_MOST_DOUBLES⟩, ⟨_, PySem.W.mg_of X G a_MOST_BITS⟩, ⟨_, PySem.W.mg_of X G a_MOST_STATE⟩, ⟨_, PySem.W.mg_of X G a_NOTHING⟩, ⟨_, PySem.W.mg_of X G a_MOST_STATES⟩, PySem.W.mg_none_of X G n_abs, PySem.W.mg_none_of X G n_all, PySem.W.mg_none_of X G n_any, PySem.W.mg_none_of X G n_bool, PySem.W.mg_none_of X G n_enumerate, PySem.W.mg_none_of X G n_int, PySem.W.mg_none_of X G n_isinstance, PySem.W.mg_none_of X G n_len, PySem.W.mg_none_of X G n_list, PySem.W.mg_none_of X G n_max, PySem.W.mg_none_of X G n_min, PySem.W.mg_none_of X G n_range, PySem.W.mg_none_of X G n_repr, PySem.W.mg_none_of X G n_str, PySem.W.mg_none_of X G n_sum, PySem.W.mg_none_of X G n_tuple⟩
  refine ⟨PySem.W.fnOf "law" "law" (defArgs s_law) (defBody s_law) (defScope s_law) .none kV_law dc_law pm_law an_law cd_law ct_law, [(c1, Pt1), (c2, Pt2), (c3, Pt3)], spLaw K Pt1 Pt2 Pt3, ⟨fun p hp => ?_, fun p hp => ?_, fun p hp => ?_⟩, fun s u => .of_eq rfl, fun H a ns hl _ hP hS => ⟨a, ns, rfl, hS, hl, ⟨hP _ List.mem_cons_self, hP _ (List.mem_cons_of_mem _ List.mem_cons_self), hP _ (List.mem_cons_of_mem _ (List.mem_cons_of_mem _ List.mem_cons_self))⟩, fun _ => rfl⟩, fun base hK hG hTB => ?_⟩
  · rcases List.mem_cons.mp hp with rfl | hp
    · exact hPt1
    rcases List.mem_cons.mp hp with rfl | hp
    · exact hPt2
    rw [List.mem_singleton.mp hp]
    exact hPt3
  · rcases List.mem_cons.mp hp with rfl | hp
    · exact kPt1
    rcases List.mem_cons.mp hp with rfl | hp
    · exact kPt2
    rw [List.mem_singleton.mp hp]
    exact kPt3
  · rcases List.mem_cons.mp hp with rfl | hp
    · exact PySem.W.codeHd_of_K X hdc1
    rcases List.mem_cons.mp hp with rfl | hp
    · exact PySem.W.codeHd_of_K X hdc2
    rw [List.mem_singleton.mp hp]
    exact PySem.W.codeHd_of_K X hdc3
  · skip
    have R_BadNumber : Err l.prog w K mg base "BadNumber" "part" C_BadNumber fi_BadNumber _ := ⟨O_BadNumber, i_BadNumber, ti_BadNumber, ok_init1 FI_BadNumber sc_init_BadNumber rfl (.inl rfl) (.inl rfl), BI_BadNumber, g_BadNumber, no_BadNumber_part⟩
    have R_BadWord : Err l.prog w K mg base "BadWord" "part" C_BadWord fi_BadWord _ := ⟨O_BadWord, i_BadWord, ti_BadWord, ok_init1 FI_BadWord sc_init_BadWord rfl (.inl rfl) (.inl rfl), BI_BadWord, g_BadWord, no_BadWord_part⟩
    have R_BadLayout : Err l.prog w K mg base "BadLayout" "part" C_BadLayout fi_BadLayout _ := ⟨O_BadLayout, i_BadLayout, ti_BadLayout, ok_init1 FI_BadLayout sc_init_BadLayout rfl (.inl rfl) (.inl rfl), BI_BadLayout, g_BadLayout, no_BadLayout_part⟩
    have R_BadCode : Err l.prog w K mg base "BadCode" "part" C_BadCode fi_BadCode _ := ⟨O_BadCode, i_BadCode, ti_BadCode, ok_init1 FI_BadCode sc_init_BadCode rfl (.inl rfl) (.inl rfl), BI_BadCode, g_BadCode, no_BadCode_part⟩
    have R_Misfit : Err l.prog w K mg base "Misfit" "part" C_Misfit fi_Misfit _ := ⟨O_Misfit, i_Misfit, ti_Misfit, ok_init1 FI_Misfit sc_init_Misfit rfl (.inl rfl) (.inl rfl), BI_Misfit, g_Misfit, no_Misfit_part⟩
    have Z : Kinds K mg CF C_BadCode C_BadLayout C_BadNumber C_Misfit := ⟨PySem.W.mg_of X G aF, g_BadCode, g_BadLayout, g_BadNumber, g_Misfit, ⟨XF_BadCode, EC_BadCode, EX_BadCode, no_BadCode_part⟩, ⟨XF_BadLayout, EC_BadLayout, EX_BadLayout, no_BadLayout_part⟩, ⟨XF_BadNumber, EC_BadNumber, EX_BadNumber, no_BadNumber_part⟩, ⟨XF_Misfit, EC_Misfit, EX_Misfit, no_Misfit_part⟩, kit_BadCode_BadCode, kit_BadCode_BadLayout, kit_BadCode_BadNumber, kit_BadCode_Misfit, kit_BadLayout_BadCode, kit_BadLayout_BadLayout, kit_BadLayout_BadNumber, kit_BadLayout_Misfit, kit_BadNumber_BadCode, kit_BadNumber_BadLayout, kit_BadNumber_BadNumber, kit_BadNumber_Misfit, kit_Misfit_BadCode, kit_Misfit_BadLayout, kit_Misfit_BadNumber, kit_Misfit_Misfit, kz_BadCode, kz_BadLayout, kz_BadNumber, kz_Misfit⟩
    have G_is_integer := ok_is_integer (P := l.prog) (w := w) (base := base) D_is_integer.F T
    have G_is_within := ok_is_within (P := l.prog) (w := w) (base := base) D_is_within.F D_is_integer T
    have G_need_number := ok_need_number (P := l.prog) (w := w) (base := base) D_need_number.F D_is_within D_is_integer T R_BadNumber
    have G__law_barn := ok__law_barn (P := l.prog) (w := w) (base := base) D__law_barn.F T
    have G__law_stack := ok__law_stack (P := l.prog) (w := w) (base := base) D__law_stack.F T
    have G__law_pick := ok__law_pick (P := l.prog) (w := w) (base := base) D__law_pick.F T D__law_stack
    have G_Code_init := ok_Code_init (P := l.prog) (w := w) (base := base) F_Code_init T O_Code nC_Code_base nC_Code_doubles nC_Code_many nC_Code_bits D_is_within D_is_integer
    have G_Code_eq := ok_Code_eq (P := l.prog) (w := w) (base := base) F_Code_eq T O_Code nC_Code_base nC_Code_doubles
    have G__base_word := ok__base_word (P := l.prog) (w := w) (base := base) D__base_word.F T O_Code nC_Code_base
    have G__lower_bits := ok__lower_bits (P := l.prog) (w := w) (base := base) D__lower_bits.F T O_Code nC_Code_base nC_Code_bits
    have G__counting_bits := ok__counting_bits (P := l.prog) (w := w) (base := base) D__counting_bits.F T O_Code nC_Code_base nC_Code_bits D__base_word D__lower_bits
    have G_need_code := ok_need_code (P := l.prog) (w := w) (base := base) D_need_code.F T O_Code R_BadCode
    have G__need_word_of := ok__need_word_of (P := l.prog) (w := w) (base := base) D__need_word_of.F T O_Code nC_Code_bits D_is_within D_is_integer R_BadWord
    have G_meant_by := ok_meant_by (P := l.prog) (w := w) (base := base) D_meant_by.F T O_Code nC_Code_base nC_Code_bits BV D_need_code G_need_code D__need_word_of G__need_word_of D__base_word D__counting_bits G__counting_bits
    have G_is_list := ok_is_list (P := l.prog) (w := w) (base := base) D_is_list.F T
    have G__is_meaning := ok__is_meaning (P := l.prog) (w := w) (base := base) D__is_meaning.F T D_is_within D_is_integer
    have G_Layout_init := ok_Layout_init (P := l.prog) (w := w) (base := base) F_Layout_init T O_Layout nC_Layout_bits nC_Layout_means D_is_within D_is_integer D_is_list D__is_meaning
    have G_Layout_eq := ok_Layout_eq (P := l.prog) (w := w) (base := base) F_Layout_eq T O_Layout nC_Layout_bits nC_Layout_means
    have G__law_value := ok__law_value (P := l.prog) (w := w) (base := base) D__law_value.F T
    have G_ones_in := ok_ones_in (P := l.prog) (w := w) (base := base) D_ones_in.F D_need_number G_need_number
    have G_need_layout := ok_need_layout (P := l.prog) (w := w) (base := base) D_need_layout.F T O_Layout R_BadLayout
    have G__meant_above := ok__meant_above (P := l.prog) (w := w) (base := base) D__meant_above.F T O_Layout nC_Layout_means D_ones_in G_ones_in
    have G_listed := ok_listed (P := l.prog) (w := w) (base := base) D_listed.F T O_Code nC_Code_bits O_Layout D_need_code G_need_code D_meant_by G_meant_by R_Misfit b_Layout_init G_Layout_init
    have G_doubled := ok_doubled (P := l.prog) (w := w) (base := base) D_doubled.F T O_Layout nC_Layout_bits nC_Layout_means D_need_layout G_need_layout D_need_number G_need_number D__meant_above G__meant_above R_Misfit b_Layout_init G_Layout_init
    have G__law_listed_right := ok__law_listed_right (P := l.prog) (w := w) (base := base) T l__law_listed_right c__law_listed_right (hTB _ List.mem_cons_self) (hu3_1 nPt12 nPt13) Z O_Code nC_Code_many nC_Code_bits O_Layout nC_Layout_bits nC_Layout_means D__law_heard D__law_stack D__law_pick D__law_value D_listed G_listed D_doubled G_doubled b_Code_init G_Code_init b_Layout_init G_Layout_init EQ_Layout b_Layout_eq G_Layout_eq
    have G__law_doubled_right := ok__law_doubled_right (P := l.prog) (w := w) (base := base) T l__law_doubled_right c__law_doubled_right (hTB _ (List.mem_cons_of_mem _ List.mem_cons_self)) (hu3_2 nPt12 nPt23) Z O_Layout nC_Layout_bits nC_Layout_means D__law_heard D__law_stack D__law_pick D_doubled G_doubled b_Layout_init G_Layout_init EQ_Layout b_Layout_eq G_Layout_eq
    have G__law_refused_right := ok__law_refused_right (P := l.prog) (w := w) (base := base) T l__law_refused_right c__law_refused_right (hTB _ (List.mem_cons_of_mem _ (List.mem_cons_of_mem _ List.mem_cons_self))) (hu3_3 nPt13 nPt23) Z O_Code O_Layout D__law_heard D__law_stack D__law_pick D_listed G_listed D_doubled G_doubled b_Layout_init G_Layout_init
    exact ok_law T l_law c_law D__law_barn G__law_barn D__law_listed_right G__law_listed_right D__law_doubled_right G__law_doubled_right D__law_refused_right G__law_refused_right
end K33
open PySem PySem.W PyProof.Rows
set_option maxRecDepth 100000 in
set_option maxHeartbeats 0 in
theorem PySem.Challenge.cw_oneflip_k33_codes_listed_and_layouts_dou_holds : PySem.Challenge.rw_oneflip_k33_codes_listed_and_layouts_dou.Holds := by
  w_on; o_law; k_head; (case hw => w_witness2)
  k_fill
  refine OB.walk_G (l := PySem.Challenge.rw_oneflip_k33_codes_listed_and_layouts_dou) (n := 63) (k := 16) (x := "script") (CX := fun _ => L2.CX0) rfl (by decide) rfl ⟨rfl, by decide, by decide⟩ (fun w h Y => PySem.W.km_in_of Y) ?F (fun _ _ _ _ _ z => z)
  case F =>
    intro w mg fa h Y KX G hmg
    refine' K33.all_mk KX G hmg ?a_is_integer ?l_is_integer ?c_is_integer ?k_is_integer ?a_is_within ?l_is_within ?c_is_within ?k_is_within ?a_is_list ?l_is_list ?c_is_list ?k_is_list ?a_need_number ?l_need_number ?c_need_number ?k_need_number ?a_items_of ?l_items_of ?c_items_of ?k_items_of ?a_integer_of ?l_integer_of ?c_integer_of ?k_integer_of ?a_item_at ?l_item_at ?c_item_at ?k_item_at ?a_integer_at ?l_integer_at ?c_integer_at ?k_integer_at ?a_need_end ?l_need_end ?c_need_end ?k_need_end ?a_need_code ?l_need_code ?c_need_code ?k_need_code ?a__need_word_of ?l__need_word_of ?c__need_word_of ?k__need_word_of ?a_meant_by ?l_meant_by ?c_meant_by ?k_meant_by ?a__base_word ?l__base_word ?c__base_word ?k__base_word ?a__lower_bits ?l__lower_bits ?c__lower_bits ?k__lower_bits ?a__counting_bits ?l__counting_bits ?c__counting_bits ?k__counting_bits ?a_ones_in ?l_ones_in ?c_ones_in ?k_ones_in ?a__is_meaning ?l__is_meaning ?c__is_meaning ?k__is_meaning ?a__meaning_at ?l__meaning_at ?c__meaning_at ?k__meaning_at ?a_need_layout ?l_need_layout ?c_need_layout ?k_need_layout ?a_listed ?l_listed ?c_listed ?k_listed ?a_doubled ?l_doubled ?c_doubled ?k_doubled ?a__meant_above ?l__meant_above ?c__meant_above ?k__meant_above ?a__law_barn ?l__law_barn ?c__law_barn ?k__law_barn ?a__law_stack ?l__law_stack ?c__law_stack ?k__law_stack ?a__law_pick ?l__law_pick ?c__law_pick ?k__law_pick ?a__law_value ?l__law_value ?c__law_value ?k__law_value ?a__law_heard ?l__law_heard ?c__law_heard ?k__law_heard ?a__law_listed_right ?l__law_listed_right ?c__law_listed_right ?k__law_listed_right ?a__law_doubled_right ?l__law_doubled_right ?c__law_doubled_right ?k__law_doubled_right ?a__law_refused_right ?l__law_refused_right ?c__law_refused_right ?k__law_refused_right ?a_law ?l_law ?c_law ?k_law ?aF ?eF ?dF ?tF ?a_BadNumber ?x_BadNumber ?sa_BadNumber ?e_BadNumber ?t_BadNumber ?k_BadNumber ?i_BadNumber ?ti_BadNumber ?li_BadNumber ?ci_BadNumber ?ki_BadNumber ?no_BadNumber_part ?ga_BadNumber ?gg_BadNumber ?hd_BadNumber ?ha_BadNumber ?hm_BadNumber ?sf_BadNumber ?is_BadNumber ?z_BadNumber ?a_BadWord ?x_BadWord ?sa_BadWord ?e_BadWord ?t_BadWord ?k_BadWord ?i_BadWord ?ti_BadWord ?li_BadWord ?ci_BadWord ?ki_BadWord ?no_BadWord_part ?ga_BadWord ?gg_BadWord ?hd_BadWord ?ha_BadWord ?hm_BadWord ?sf_BadWord ?is_BadWord ?z_BadWord ?a_BadLayout ?x_BadLayout ?sa_BadLayout ?e_BadLayout ?t_BadLayout ?k_BadLayout ?i_BadLayout ?ti_BadLayout ?li_BadLayout ?ci_BadLayout ?ki_BadLayout ?no_BadLayout_part ?ga_BadLayout ?gg_BadLayout ?hd_BadLayout ?ha_BadLayout ?hm_BadLayout ?sf_BadLayout ?is_BadLayout ?z_BadLayout ?a_BadCode ?x_BadCode ?sa_BadCode ?e_BadCode ?t_BadCode ?k_BadCode ?i_BadCode ?ti_BadCode ?li_BadCode ?ci_BadCode ?ki_BadCode ?no_BadCode_part ?ga_BadCode ?gg_BadCode ?hd_BadCode ?ha_BadCode ?hm_BadCode ?sf_BadCode ?is_BadCode ?z_BadCode ?a_Misfit ?x_Misfit ?sa_Misfit ?e_Misfit ?t_Misfit ?k_Misfit ?i_Misfit ?ti_Misfit ?li_Misfit ?ci_Misfit ?ki_Misfit ?no_Misfit_part ?ga_Misfit ?gg_Misfit ?hd_Misfit ?ha_Misfit ?hm_Misfit ?sf_Misfit ?is_Misfit ?z_Misfit ?a_BadText ?x_BadText ?sa_BadText ?e_BadText ?t_BadText ?k_BadText ?i_BadText ?ti_BadText ?li_BadText ?ci_BadText ?ki_BadText ?no_BadText_line ?no_BadText_item ?ga_BadText ?gg_BadText ?hd_BadText ?ha_BadText ?hm_BadText ?sf_BadText ?is_BadText ?z_BadText ?sub_BadNumber_BadNumber ?sub_BadNumber_BadWord ?sub_BadNumber_BadLayout ?sub_BadNumber_BadCode ?sub_BadNumber_Misfit ?sub_BadNumber_BadText ?sub_BadWord_BadNumber ?sub_BadWord_BadWord ?sub_BadWord_BadLayout ?sub_BadWord_BadCode ?sub_BadWord_Misfit ?sub_BadWord_BadText ?sub_BadLayout_BadNumber ?sub_BadLayout_BadWord ?sub_BadLayout_BadLayout ?sub_BadLayout_BadCode ?sub_BadLayout_Misfit ?sub_BadLayout_BadText ?sub_BadCode_BadNumber ?sub_BadCode_BadWord ?sub_BadCode_BadLayout ?sub_BadCode_BadCode ?sub_BadCode_Misfit ?sub_BadCode_BadText ?sub_Misfit_BadNumber ?sub_Misfit_BadWord ?sub_Misfit_BadLayout ?sub_Misfit_BadCode ?sub_Misfit_Misfit ?sub_Misfit_BadText ?sub_BadText_BadNumber ?sub_BadText_BadWord ?sub_BadText_BadLayout ?sub_BadText_BadCode ?sub_BadText_Misfit ?sub_BadText_BadText ?spn ?tkn ?a_MOST_DIGITS ?a_LEAST_BASE ?a_MOST_BASE ?a_MOST_DOUBLES ?a_MOST_BITS ?a_MOST_STATE ?a_NOTHING ?a_MOST_STATES ?n_abs ?n_all ?n_any ?n_bool ?n_enumerate ?n_int ?n_isinstance ?n_len ?n_list ?n_max ?n_min ?n_range ?n_repr ?n_str ?n_sum ?n_tuple ?aC_Code ?pg_Code ?hdC_Code ?po_Code ?saC_Code ?mkC_Code ?kcC_Code ?haC_Code ?hmC_Code ?isC_Code ?tyC_Code ?sfC_Code ?suNoneType_Code ?suint_Code ?subool_Code ?sustr_Code ?sulist_Code ?sutuple_Code ?sudict_Code ?nC_Code_base ?nC_Code_doubles ?nC_Code_many ?nC_Code_bits ?fi_Code_init ?if_Code_init ?l_Code_init ?c_Code_init ?k_Code_init ?fi_Code_eq ?if_Code_eq ?l_Code_eq ?c_Code_eq ?k_Code_eq ?ne_Code ?fi_Code_str ?if_Code_str ?l_Code_str ?c_Code_str ?k_Code_str ?sm_Code_read ?rc_Code_read ?l_Code_read ?c_Code_read ?k_Code_read ?rdC_Code ?gaC_Code ?aC_Layout ?pg_Layout ?hdC_Layout ?po_Layout ?saC_Layout ?mkC_Layout ?kcC_Layout ?haC_Layout ?hmC_Layout ?isC_Layout ?tyC_Layout ?sfC_Layout ?suNoneType_Layout ?suint_Layout ?subool_Layout ?sustr_Layout ?sulist_Layout ?sutuple_Layout ?sudict_Layout ?nC_Layout_bits ?nC_Layout_means ?fi_Layout_init ?if_Layout_init ?l_Layout_init ?c_Layout_init ?k_Layout_init ?fi_Layout_eq ?if_Layout_eq ?l_Layout_eq ?c_Layout_eq ?k_Layout_eq ?ne_Layout ?fi_Layout_str ?if_Layout_str ?l_Layout_str ?c_Layout_str ?k_Layout_str ?sm_Layout_read ?rc_Layout_read ?l_Layout_read ?c_Layout_read ?k_Layout_read ?rdC_Layout ?gaC_Layout ?l_code1 ?v111 ?hdc1 ?kPt1 ?hPt1 ?l_code2 ?v112 ?hdc2 ?kPt2 ?hPt2 ?l_code3 ?v113 ?hdc3 ?kPt3 ?hPt3 ?nPt12 ?nPt13 ?nPt23 ?aBV ?lBV ?lV2 ?lV3
    (case a_is_integer => k_is)
    (case l_is_integer => k_is)
    (case c_is_integer => k_is)
    (case k_is_integer => k_is)
    (case a_is_within => k_is)
    (case l_is_within => k_is)
    (case c_is_within => k_is)
    (case k_is_within => k_is)
    (case a_is_list => k_is)
    (case l_is_list => k_is)
    (case c_is_list => k_is)
    (case k_is_list => k_is)
    (case a_need_number => k_is)
    (case l_need_number => k_is)
    (case c_need_number => k_is)
    (case k_need_number => k_is)
    (case a_items_of => k_is)
    (case l_items_of => k_is)
    (case c_items_of => k_is)
    (case k_items_of => k_is)
    (case a_integer_of => k_is)
    (case l_integer_of => k_is)
    (case c_integer_of => k_is)
    (case k_integer_of => k_is)
    (case a_item_at => k_is)
    (case l_item_at => k_is)
    (case c_item_at => k_is)
    (case k_item_at => k_is)
    (case a_integer_at => k_is)
    (case l_integer_at => k_is)
    (case c_integer_at => k_is)
    (case k_integer_at => k_is)
    (case a_need_end => k_is)
    (case l_need_end => k_is)
    (case c_need_end => k_is)
    (case k_need_end => k_is)
    (case a_need_code => k_is)
    (case l_need_code => k_is)
    (case c_need_code => k_is)
    (case k_need_code => k_is)
    (case a__need_word_of => k_is)
    (case l__need_word_of => k_is)
    (case c__need_word_of => k_is)
    (case k__need_word_of => k_is)
    (case a_meant_by => k_is)
    (case l_meant_by => k_is)
    (case c_meant_by => k_is)
    (case k_meant_by => k_is)
    (case a__base_word => k_is)
    (case l__base_word => k_is)
    (case c__base_word => k_is)
    (case k__base_word => k_is)
    (case a__lower_bits => k_is)
    (case l__lower_bits => k_is)
    (case c__lower_bits => k_is)
    (case k__lower_bits => k_is)
    (case a__counting_bits => k_is)
    (case l__counting_bits => k_is)
    (case c__counting_bits => k_is)
    (case k__counting_bits => k_is)
    (case a_ones_in => k_is)
    (case l_ones_in => k_is)
    (case c_ones_in => k_is)
    (case k_ones_in => k_is)
    (case a__is_meaning => k_is)
    (case l__is_meaning => k_is)
    (case c__is_meaning => k_is)
    (case k__is_meaning => k_is)
    (case a__meaning_at => k_is)
    (case l__meaning_at => k_is)
    (case c__meaning_at => k_is)
    (case k__meaning_at => k_is)
    (case a_need_layout => k_is)
    (case l_need_layout => k_is)
    (case c_need_layout => k_is)
    (case k_need_layout => k_is)
    (case a_listed => k_is)
    (case l_listed => k_is)
    (case c_listed => k_is)
    (case k_listed => k_is)
    (case a_doubled => k_is)
    (case l_doubled => k_is)
    (case c_doubled => k_is)
    (case k_doubled => k_is)
    (case a__meant_above => k_is)
    (case l__meant_above => k_is)
    (case c__meant_above => k_is)
    (case k__meant_above => k_is)
    (case a__law_barn => k_is)
    (case l__law_barn => k_is)
    (case c__law_barn => k_is)
    (case k__law_barn => k_is)
    (case a__law_stack => k_is)
    (case l__law_stack => k_is)
    (case c__law_stack => k_is)
    (case k__law_stack => k_is)
    (case a__law_pick => k_is)
    (case l__law_pick => k_is)
    (case c__law_pick => k_is)
    (case k__law_pick => k_is)
    (case a__law_value => k_is)
    (case l__law_value => k_is)
    (case c__law_value => k_is)
    (case k__law_value => k_is)
    (case a__law_heard => k_is)
    (case l__law_heard => k_is)
    (case c__law_heard => k_is)
    (case k__law_heard => k_is)
    (case a__law_listed_right => k_is)
    (case l__law_listed_right => k_is)
    (case c__law_listed_right => k_is)
    (case k__law_listed_right => k_is)
    (case a__law_doubled_right => k_is)
    (case l__law_doubled_right => k_is)
    (case c__law_doubled_right => k_is)
    (case k__law_doubled_right => k_is)
    (case a__law_refused_right => k_is)
    (case l__law_refused_right => k_is)
    (case c__law_refused_right => k_is)
    (case k__law_refused_right => k_is)
    (case a_law => k_is)
    (case l_law => k_is)
    (case c_law => k_is)
    (case k_law => k_is)
    (case aF => k_is)
    (case eF => k_is)
    (case dF => k_is)
    (case tF => k_is)
    (case a_BadNumber => k_is)
    (case x_BadNumber => k_is)
    (case sa_BadNumber => k_is)
    (case e_BadNumber => k_is)
    (case t_BadNumber => k_is)
    (case k_BadNumber => k_is)
    (case i_BadNumber => k_is)
    (case ti_BadNumber => k_is)
    (case li_BadNumber => k_is)
    (case ci_BadNumber => k_is)
    (case ki_BadNumber => k_is)
    (case no_BadNumber_part => k_is)
    (case ga_BadNumber => k_is)
    (case gg_BadNumber => k_is)
    (case hd_BadNumber => k_is)
    (case ha_BadNumber => k_is)
    (case hm_BadNumber => k_is)
    (case sf_BadNumber => k_is)
    (case is_BadNumber => k_is)
    (case z_BadNumber => k_is)
    (case a_BadWord => k_is)
    (case x_BadWord => k_is)
    (case sa_BadWord => k_is)
    (case e_BadWord => k_is)
    (case t_BadWord => k_is)
    (case k_BadWord => k_is)
    (case i_BadWord => k_is)
    (case ti_BadWord => k_is)
    (case li_BadWord => k_is)
    (case ci_BadWord => k_is)
    (case ki_BadWord => k_is)
    (case no_BadWord_part => k_is)
    (case ga_BadWord => k_is)
    (case gg_BadWord => k_is)
    (case hd_BadWord => k_is)
    (case ha_BadWord => k_is)
    (case hm_BadWord => k_is)
    (case sf_BadWord => k_is)
    (case is_BadWord => k_is)
    (case z_BadWord => k_is)
    (case a_BadLayout => k_is)
    (case x_BadLayout => k_is)
    (case sa_BadLayout => k_is)
    (case e_BadLayout => k_is)
    (case t_BadLayout => k_is)
    (case k_BadLayout => k_is)
    (case i_BadLayout => k_is)
    (case ti_BadLayout => k_is)
    (case li_BadLayout => k_is)
    (case ci_BadLayout => k_is)
    (case ki_BadLayout => k_is)
    (case no_BadLayout_part => k_is)
    (case ga_BadLayout => k_is)
    (case gg_BadLayout => k_is)
    (case hd_BadLayout => k_is)
    (case ha_BadLayout => k_is)
    (case hm_BadLayout => k_is)
    (case sf_BadLayout => k_is)
    (case is_BadLayout => k_is)
    (case z_BadLayout => k_is)
    (case a_BadCode => k_is)
    (case x_BadCode => k_is)
    (case sa_BadCode => k_is)
    (case e_BadCode => k_is)
    (case t_BadCode => k_is)
    (case k_BadCode => k_is)
    (case i_BadCode => k_is)
    (case ti_BadCode => k_is)
    (case li_BadCode => k_is)
    (case ci_BadCode => k_is)
    (case ki_BadCode => k_is)
    (case no_BadCode_part => k_is)
    (case ga_BadCode => k_is)
    (case gg_BadCode => k_is)
    (case hd_BadCode => k_is)
    (case ha_BadCode => k_is)
    (case hm_BadCode => k_is)
    (case sf_BadCode => k_is)
    (case is_BadCode => k_is)
    (case z_BadCode => k_is)
    (case a_Misfit => k_is)
    (case x_Misfit => k_is)
    (case sa_Misfit => k_is)
    (case e_Misfit => k_is)
    (case t_Misfit => k_is)
    (case k_Misfit => k_is)
    (case i_Misfit => k_is)
    (case ti_Misfit => k_is)
    (case li_Misfit => k_is)
    (case ci_Misfit => k_is)
    (case ki_Misfit => k_is)
    (case no_Misfit_part => k_is)
    (case ga_Misfit => k_is)
    (case gg_Misfit => k_is)
    (case hd_Misfit => k_is)
    (case ha_Misfit => k_is)
    (case hm_Misfit => k_is)
    (case sf_Misfit => k_is)
    (case is_Misfit => k_is)
    (case z_Misfit => k_is)
    (case a_BadText => k_is)
    (case x_BadText => k_is)
    (case sa_BadText => k_is)
    (case e_BadText => k_is)
    (case t_BadText => k_is)
    (case k_BadText => k_is)
    (case i_BadText => k_is)
    (case ti_BadText => k_is)
    (case li_BadText => k_is)
    (case ci_BadText => k_is)
    (case ki_BadText => k_is)
    (case no_BadText_line => k_is)
    (case no_BadText_item => k_is)
    (case ga_BadText => k_is)
    (case gg_BadText => k_is)
    (case hd_BadText => k_is)
    (case ha_BadText => k_is)
    (case hm_BadText => k_is)
    (case sf_BadText => k_is)
    (case is_BadText => k_is)
    (case z_BadText => k_is)
    (case sub_BadNumber_BadNumber => k_is)
    (case sub_BadNumber_BadWord => k_is)
    (case sub_BadNumber_BadLayout => k_is)
    (case sub_BadNumber_BadCode => k_is)
    (case sub_BadNumber_Misfit => k_is)
    (case sub_BadNumber_BadText => k_is)
    (case sub_BadWord_BadNumber => k_is)
    (case sub_BadWord_BadWord => k_is)
    (case sub_BadWord_BadLayout => k_is)
    (case sub_BadWord_BadCode => k_is)
    (case sub_BadWord_Misfit => k_is)
    (case sub_BadWord_BadText => k_is)
    (case sub_BadLayout_BadNumber => k_is)
    (case sub_BadLayout_BadWord => k_is)
    (case sub_BadLayout_BadLayout => k_is)
    (case sub_BadLayout_BadCode => k_is)
    (case sub_BadLayout_Misfit => k_is)
    (case sub_BadLayout_BadText => k_is)
    (case sub_BadCode_BadNumber => k_is)
    (case sub_BadCode_BadWord => k_is)
    (case sub_BadCode_BadLayout => k_is)
    (case sub_BadCode_BadCode => k_is)
    (case sub_BadCode_Misfit => k_is)
    (case sub_BadCode_BadText => k_is)
    (case sub_Misfit_BadNumber => k_is)
    (case sub_Misfit_BadWord => k_is)
    (case sub_Misfit_BadLayout => k_is)
    (case sub_Misfit_BadCode => k_is)
    (case sub_Misfit_Misfit => k_is)
    (case sub_Misfit_BadText => k_is)
    (case sub_BadText_BadNumber => k_is)
    (case sub_BadText_BadWord => k_is)
    (case sub_BadText_BadLayout => k_is)
    (case sub_BadText_BadCode => k_is)
    (case sub_BadText_Misfit => k_is)
    (case sub_BadText_BadText => k_is)
    (case spn => k_is)
    (case tkn => k_is)
    (case a_MOST_DIGITS => k_is)
    (case a_LEAST_BASE => k_is)
    (case a_MOST_BASE => k_is)
    (case a_MOST_DOUBLES => k_is)
    (case a_MOST_BITS => k_is)
    (case a_MOST_STATE => k_is)
    (case a_NOTHING => k_is)
    (case a_MOST_STATES => k_is)
    (case n_abs => k_is)
    (case n_all => k_is)
    (case n_any => k_is)
    (case n_bool => k_is)
    (case n_enumerate => k_is)
    (case n_int => k_is)
    (case n_isinstance => k_is)
    (case n_len => k_is)
    (case n_list => k_is)
    (case n_max => k_is)
    (case n_min => k_is)
    (case n_range => k_is)
    (case n_repr => k_is)
    (case n_str => k_is)
    (case n_sum => k_is)
    (case n_tuple => k_is)
    (case aC_Code => k_is)
    (case pg_Code => k_is)
    (case hdC_Code => k_is)
    (case po_Code => k_is)
    (case saC_Code => k_is)
    (case mkC_Code => k_is)
    (case kcC_Code => k_is)
    (case haC_Code => k_is)
    (case hmC_Code => k_is)
    (case isC_Code => k_is)
    (case tyC_Code => k_is)
    (case sfC_Code => k_is)
    (case suNoneType_Code => k_is)
    (case suint_Code => k_is)
    (case subool_Code => k_is)
    (case sustr_Code => k_is)
    (case sulist_Code => k_is)
    (case sutuple_Code => k_is)
    (case sudict_Code => k_is)
    (case nC_Code_base => k_is)
    (case nC_Code_doubles => k_is)
    (case nC_Code_many => k_is)
    (case nC_Code_bits => k_is)
    (case fi_Code_init => k_is)
    (case if_Code_init => k_is)
    (case l_Code_init => k_is)
    (case c_Code_init => k_is)
    (case k_Code_init => k_is)
    (case fi_Code_eq => k_is)
    (case if_Code_eq => k_is)
    (case l_Code_eq => k_is)
    (case c_Code_eq => k_is)
    (case k_Code_eq => k_is)
    (case ne_Code => k_is)
    (case fi_Code_str => k_is)
    (case if_Code_str => k_is)
    (case l_Code_str => k_is)
    (case c_Code_str => k_is)
    (case k_Code_str => k_is)
    (case sm_Code_read => k_is)
    (case rc_Code_read => k_is)
    (case l_Code_read => k_is)
    (case c_Code_read => k_is)
    (case k_Code_read => k_is)
    (case rdC_Code => k_is)
    (case gaC_Code => k_is)
    (case aC_Layout => k_is)
    (case pg_Layout => k_is)
    (case hdC_Layout => k_is)
    (case po_Layout => k_is)
    (case saC_Layout => k_is)
    (case mkC_Layout => k_is)
    (case kcC_Layout => k_is)
    (case haC_Layout => k_is)
    (case hmC_Layout => k_is)
    (case isC_Layout => k_is)
    (case tyC_Layout => k_is)
    (case sfC_Layout => k_is)
    (case suNoneType_Layout => k_is)
    (case suint_Layout => k_is)
    (case subool_Layout => k_is)
    (case sustr_Layout => k_is)
    (case sulist_Layout => k_is)
    (case sutuple_Layout => k_is)
    (case sudict_Layout => k_is)
    (case nC_Layout_bits => k_is)
    (case nC_Layout_means => k_is)
    (case fi_Layout_init => k_is)
    (case if_Layout_init => k_is)
    (case l_Layout_init => k_is)
    (case c_Layout_init => k_is)
    (case k_Layout_init => k_is)
    (case fi_Layout_eq => k_is)
    (case if_Layout_eq => k_is)
    (case l_Layout_eq => k_is)
    (case c_Layout_eq => k_is)
    (case k_Layout_eq => k_is)
    (case ne_Layout => k_is)
    (case fi_Layout_str => k_is)
    (case if_Layout_str => k_is)
    (case l_Layout_str => k_is)
    (case c_Layout_str => k_is)
    (case k_Layout_str => k_is)
    (case sm_Layout_read => k_is)
    (case rc_Layout_read => k_is)
    (case l_Layout_read => k_is)
    (case c_Layout_read => k_is)
    (case k_Layout_read => k_is)
    (case rdC_Layout => k_is)
    (case gaC_Layout => k_is)
    (case l_code1 => k_is)
    (case v111 => rfl)
    (case hdc1 => kernel_rfl)
    (case kPt1 => kernel_rfl)
    (case l_code2 => k_is)
    (case v112 => rfl)
    (case hdc2 => kernel_rfl)
    (case kPt2 => kernel_rfl)
    (case l_code3 => k_is)
    (case v113 => rfl)
    (case hdc3 => kernel_rfl)
    (case kPt3 => kernel_rfl)
    (case nPt12 => decide)
    (case nPt13 => decide)
    (case nPt23 => decide)
    (case aBV => k_is)
    (case lBV => k_is)
    (case lV2 => k_is)
    (case lV3 => k_is)
    (case hPt1 => exact PySem.W.km_tabs_of Y _ (by k_mem))
    (case hPt2 => exact PySem.W.km_tabs_of Y _ (by k_mem))
    (case hPt3 => exact PySem.W.km_tabs_of Y _ (by k_mem))
