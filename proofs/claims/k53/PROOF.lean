import PyProof.Rows.All
import Wide.All
import OpenK.AllK
import Wide.FinOn
import HandS.ForMost
import HandS.Exc
import HandS.ExcValue
import HandS.ExcField
import HandS.ExcIs
import HandS.IsInst
import HandS.Lambda
import HandS.EndTab
import HandS.Wide
import HandS.WideBits
import HandS.RaiseMore
import HandS.WordsList
import HandS.WordsExc
import HandS.ExcInit
import PyProof.Rows.SetFrom
import HandS.SetFor
import HandS.Zip
import HandS.SortInts
import PyProof.ReprRoads
import HandS.FStrTup
import HandS.EndBits
import HandS.OwnEq
import PyProof.FactsAll.object_2
import HandS.ClsMeth
import HandS.MakeKwOnly
import HandS.Defaults
import KE.KFmtOwn
import HandS.ExcOwn
import PyProof.StrLawsRepr
import PyProof.CallFns
import HandS.Text
import HandS.StrMore
import HandS.Set
import HandS.Strs
import PyProof.Rows.RegReprOcc
import HandS.Conv
import HandS.Codes
import HandS.ForDict
import PyProof.StrLawsIn
import KE.IntTextText
import PyProof.StrBlock2
import KE.KIntText
import PyProof.StrLawsChain
import HandS.List
import HandS.FStr
import PyProof.EnumMake
import PyProof.Draws
import HandS.Walk
import HandS.Style
import KE.KRevIter
import HandS.Deep
import HandS.NoneIn
import HandS.IterVal
import KE.KNestM
import PySem.Challenge.RW_oneflip_k53_stores_made_and_texts_bent
set_option linter.all false
/-! Ones of a number, pairs of neighbours below it. -/
set_option exponentiation.threshold 100000
namespace M04
theorem two_pos (k : Nat) : 0 < 2 ^ k := Nat.pow_pos (by decide)
def cnt (n : Nat) : Nat → Nat
  | 0 => 0
  | k + 1 => cnt n k + n / 2 ^ k % 2
theorem cnt_low (n k : Nat) : cnt n (k + 1) = n % 2 + cnt (n / 2) k := by
  induction k with
  | zero =>
    show 0 + n / 2 ^ 0 % 2 = n % 2 + 0
    rw [Nat.pow_zero, Nat.div_one]
    omega
  | succ k ih =>
    show cnt n (k + 1) + n / 2 ^ (k + 1) % 2 = n % 2 + (cnt (n / 2) k + n / 2 / 2 ^ k % 2)
    rw [ih, Nat.div_div_eq_div_mul, Nat.pow_succ, Nat.mul_comm 2]
    omega
def pc (n : Nat) : Nat := cnt n n
theorem cnt_zero (k : Nat) : cnt 0 k = 0 := by
  induction k with
  | zero => rfl
  | succ k ih =>
    show cnt 0 k + 0 / 2 ^ k % 2 = 0
    rw [ih, Nat.zero_div]
theorem cnt_more {n k : Nat} (h : n < 2 ^ k) : cnt n (k + 1) = cnt n k := by
  show cnt n k + n / 2 ^ k % 2 = cnt n k
  rw [Nat.div_eq_of_lt h]
  rfl
theorem cnt_up {n k : Nat} (h : n < 2 ^ k) (m : Nat) : cnt n (k + m) = cnt n k := by
  induction m with
  | zero => rfl
  | succ m ih =>
    have h2 : n < 2 ^ (k + m) := Nat.lt_of_lt_of_le h (Nat.pow_le_pow_right (by decide) (Nat.le_add_right k m))
    exact (cnt_more h2).trans ih
theorem cnt_pc {n k : Nat} (h : n < 2 ^ k) : cnt n k = pc n := by
  unfold pc
  have h2 : n < 2 ^ n := Nat.lt_two_pow_self
  by_cases c : k ≤ n
  · have e := cnt_up h (n - k)
    rw [show k + (n - k) = n by omega] at e
    exact e.symm
  · have e := cnt_up h2 (k - n)
    rw [show n + (k - n) = k by omega] at e
    exact e
theorem pc_half (n : Nat) : pc n = n % 2 + pc (n / 2) := by
  have h : n < 2 ^ (n + 1) := Nat.lt_trans Nat.lt_two_pow_self (Nat.pow_lt_pow_right (by decide) (Nat.lt_succ_self n))
  have h2 : n / 2 < 2 ^ n := by
    rw [Nat.pow_succ] at h
    omega
  rw [← cnt_pc h, cnt_low, cnt_pc h2]
theorem pc_two (n : Nat) : pc (2 * n) = pc n := by
  rw [pc_half, show 2 * n % 2 = 0 by omega, show 2 * n / 2 = n by omega, Nat.zero_add]
theorem pc_odd (n : Nat) : pc (2 * n + 1) = pc n + 1 := by
  rw [pc_half, show (2 * n + 1) % 2 = 1 by omega, show (2 * n + 1) / 2 = n by omega, Nat.add_comm]
theorem pc_zero : pc 0 = 0 := rfl
/-- the ones of all words below n -/
def E : Nat → Nat
  | 0 => 0
  | n + 1 => E n + pc n
theorem E_two (m : Nat) : E (2 * m) = 2 * E m + m := by
  induction m with
  | zero => rfl
  | succ m ih =>
    show E (2 * m) + pc (2 * m) + pc (2 * m + 1) = 2 * (E m + pc m) + (m + 1)
    rw [ih, pc_two, pc_odd]
    omega
theorem E_odd (m : Nat) : E (2 * m + 1) = E m + E (m + 1) + m := by
  show E (2 * m) + pc (2 * m) = E m + (E m + pc m) + m
  rw [E_two, pc_two]
  omega
theorem E_even (m : Nat) : E (2 * m + 2) = 2 * E (m + 1) + m + 1 := E_two (m + 1)
def T (b : Nat) : Nat := b * 2 ^ b / 2
theorem T_succ (b : Nat) : T (b + 1) = (b + 1) * 2 ^ b := by
  unfold T
  rw [Nat.pow_succ, ← Nat.mul_assoc, Nat.mul_div_cancel _ (by decide)]
theorem T_two (b : Nat) : 2 * T b = b * 2 ^ b := by
  cases b with
  | zero => rfl
  | succ b => rw [T_succ, Nat.pow_succ, Nat.mul_comm 2, Nat.mul_assoc]
theorem pc_pow (q b : Nat) : pc (q * 2 ^ b) = pc q := by
  induction b with
  | zero => rw [Nat.pow_zero, Nat.mul_one]
  | succ b ih => rw [Nat.pow_succ, ← Nat.mul_assoc, Nat.mul_comm, pc_two, ih]
theorem E_pow (q b : Nat) : E (q * 2 ^ b + 2 ^ b) = E (q * 2 ^ b) + pc q * 2 ^ b + T b := by
  induction b with
  | zero =>
    show E (q * 1 + 1) = E (q * 1) + pc q * 1 + 0
    rw [Nat.mul_one, Nat.mul_one]
    rfl
  | succ b ih =>
    have e1 : q * 2 ^ (b + 1) = 2 * (q * 2 ^ b) := by rw [Nat.pow_succ, ← Nat.mul_assoc, Nat.mul_comm]
    have e2 : 2 ^ (b + 1) = 2 * 2 ^ b := by rw [Nat.pow_succ, Nat.mul_comm]
    rw [e1, e2, ← Nat.mul_add, E_two, E_two, ih, T_succ, Nat.mul_add, Nat.mul_add, T_two, Nat.add_mul]
    have e3 : pc q * (2 * 2 ^ b) = 2 * (pc q * 2 ^ b) := by rw [← Nat.mul_assoc, Nat.mul_comm (pc q), Nat.mul_assoc]
    rw [e3]
    omega
/-- the bits of n below c, descending -/
def D (n : Nat) : Nat → List Nat
  | 0 => []
  | c + 1 => if n / 2 ^ c % 2 = 1 then c :: D n c else D n c
def S : List Nat → Nat → Nat → Nat
  | [], _, acc => acc
  | b :: r, a, acc => S r (a + 1) (acc + a * 2 ^ b + T b)
theorem S_is (n c : Nat) : S (D n c) (pc (n / 2 ^ c)) (E (n / 2 ^ c * 2 ^ c)) = E n := by
  induction c with
  | zero =>
    show E (n / 2 ^ 0 * 2 ^ 0) = E n
    rw [Nat.pow_zero, Nat.div_one, Nat.mul_one]
  | succ c ih =>
    have e : n / 2 ^ (c + 1) = n / 2 ^ c / 2 := by rw [Nat.pow_succ, Nat.div_div_eq_div_mul]
    have e2 : n / 2 ^ (c + 1) * 2 ^ (c + 1) = 2 * (n / 2 ^ c / 2) * 2 ^ c := by
      rw [e, Nat.pow_succ, Nat.mul_comm (2 ^ c), ← Nat.mul_assoc, Nat.mul_comm _ 2]
    unfold D
    by_cases h : n / 2 ^ c % 2 = 1
    · rw [if_pos h, e2, e]
      show S (D n c) (pc (n / 2 ^ c / 2) + 1) (E (2 * (n / 2 ^ c / 2) * 2 ^ c) + pc (n / 2 ^ c / 2) * 2 ^ c + T c) = E n
      have p1 : pc (n / 2 ^ c / 2) + 1 = pc (n / 2 ^ c) := by rw [pc_half (n / 2 ^ c), h, Nat.add_comm]
      have p2 : pc (n / 2 ^ c / 2) = pc (2 * (n / 2 ^ c / 2)) := (pc_two _).symm
      have p3 : 2 * (n / 2 ^ c / 2) * 2 ^ c + 2 ^ c = n / 2 ^ c * 2 ^ c := by
        have z : n / 2 ^ c = 2 * (n / 2 ^ c / 2) + 1 := by omega
        conv => rhs; rw [z]
        rw [Nat.add_mul, Nat.one_mul]
      rw [p1, p2, ← E_pow, p3]
      exact ih
    · rw [if_neg h, e2, e]
      have z : 2 * (n / 2 ^ c / 2) = n / 2 ^ c := by omega
      have p1 : pc (n / 2 ^ c / 2) = pc (n / 2 ^ c) := by
        have q := pc_two (n / 2 ^ c / 2)
        rw [z] at q
        exact q.symm
      rw [z, p1]
      exact ih
theorem S_all {n c : Nat} (h : n < 2 ^ c) : S (D n c) 0 0 = E n := by
  have e := S_is n c
  rw [Nat.div_eq_of_lt h, Nat.zero_mul] at e
  exact e
theorem E_two_pow (p : Nat) : E (2 * 2 ^ p) = (p + 1) * 2 ^ p := by
  have e := E_pow 0 (p + 1)
  rw [Nat.zero_mul, Nat.zero_add, T_succ] at e
  have e2 : 2 ^ (p + 1) = 2 * 2 ^ p := by rw [Nat.pow_succ, Nat.mul_comm]
  rw [e2] at e
  rw [e]
  show 0 + 0 * _ + _ = _
  rw [Nat.zero_mul]
  omega
/-- the bits of n below c, ascending -/
theorem D_rev (n c : Nat) : (D n c).reverse = (List.range c).filter fun i => decide (n / 2 ^ i % 2 = 1) := by
  induction c with
  | zero => rfl
  | succ c ih =>
    rw [List.range_succ, List.filter_append, ← ih]
    show (if n / 2 ^ c % 2 = 1 then c :: D n c else D n c).reverse = _
    by_cases h : n / 2 ^ c % 2 = 1
    · rw [if_pos h, List.reverse_cons]
      simp [h]
    · rw [if_neg h]
      simp [h]
theorem D_lt {n c b : Nat} (h : b ∈ D n c) : b < c := by
  have e : b ∈ (D n c).reverse := List.mem_reverse.mpr h
  rw [D_rev] at e
  exact List.mem_range.mp (List.mem_filter.mp e).1
theorem D_len (n c : Nat) : (D n c).length ≤ c := by
  rw [← List.length_reverse, D_rev]
  exact Nat.le_trans (List.length_filter_le _ _) (by rw [List.length_range]; exact Nat.le_refl _)
/-! ### signs -/
/-- the signs of n to the base 2, the lowest first -/
def R (n : Nat) : List Nat := ((Nat.toDigits 2 n).map fun c => c.toNat).reverse
theorem R_small {n : Nat} (h : n < 2) : R n = [48 + n] := by
  unfold R
  rw [Nat.toDigits_of_lt_base h]
  have e : n = 0 ∨ n = 1 := by omega
  rcases e with rfl | rfl <;> rfl
theorem R_big {n : Nat} (h : 2 ≤ n) : R n = (48 + n % 2) :: R (n / 2) := by
  unfold R
  rw [Nat.toDigits_of_base_le (by decide) h, List.map_append, List.reverse_append]
  have e : n % 2 = 0 ∨ n % 2 = 1 := by omega
  rcases e with z | z <;> rw [z] <;> rfl
theorem R_facts : ∀ n : Nat, n < 2 ^ (R n).length ∧ (∀ i, i < (R n).length → (R n)[i]? = some (48 + n / 2 ^ i % 2)) := by
  intro n
  induction n using Nat.strongRecOn with
  | ind n ih =>
    by_cases h : n < 2
    · rw [R_small h]
      refine ⟨by show n < 2 ^ 1; omega, fun i hi => ?_⟩
      have hi : i < 1 := hi
      have e : i = 0 := by omega
      subst e
      show some (48 + n) = some (48 + n / 2 ^ 0 % 2)
      rw [Nat.pow_zero, Nat.div_one, Nat.mod_eq_of_lt h]
    · have h2 : 2 ≤ n := by omega
      obtain ⟨a, b⟩ := ih (n / 2) (by omega)
      rw [R_big h2]
      refine ⟨?_, fun i hi => ?_⟩
      · show n < 2 ^ ((R (n / 2)).length + 1)
        rw [Nat.pow_succ]
        omega
      · cases i with
        | zero =>
          show some (48 + n % 2) = some (48 + n / 2 ^ 0 % 2)
          rw [Nat.pow_zero, Nat.div_one]
        | succ i =>
          show (R (n / 2))[i]? = _
          rw [b i (by have hi : i + 1 < (R (n / 2)).length + 1 := hi; omega), Nat.div_div_eq_div_mul, Nat.pow_succ, Nat.mul_comm 2]
theorem R_len {n k : Nat} (hk : 0 < k) (h : n < 2 ^ k) : (R n).length ≤ k := by
  induction k generalizing n with
  | zero => exact absurd hk (by decide)
  | succ k ih =>
    by_cases c : n < 2
    · rw [R_small c]
      exact Nat.succ_le_succ (Nat.zero_le _)
    · rw [R_big (by omega)]
      rw [Nat.pow_succ] at h
      have hk2 : 0 < k := by
        cases k with
        | zero =>
          rw [Nat.pow_zero] at h
          omega
        | succ k => exact Nat.succ_pos k
      exact Nat.succ_le_succ (ih hk2 (by omega))
theorem R_count (n : Nat) : (R n).countP (fun c => decide (c = 49)) = pc n := by
  induction n using Nat.strongRecOn with
  | ind n ih =>
    by_cases h : n < 2
    · rw [R_small h]
      have e : n = 0 ∨ n = 1 := by omega
      rcases e with rfl | rfl <;> rfl
    · rw [R_big (by omega), List.countP_cons, ih (n / 2) (by omega), pc_half n]
      have e : n % 2 = 0 ∨ n % 2 = 1 := by omega
      rcases e with z | z <;> rw [z] <;> simp <;> omega
theorem cnt_le (n k : Nat) : cnt n k ≤ k := by
  induction k with
  | zero => exact Nat.le_refl _
  | succ k ih =>
    show cnt n k + n / 2 ^ k % 2 ≤ k + 1
    omega
theorem pc_le {n k : Nat} (h : n < 2 ^ k) : pc n ≤ k := by
  rw [← cnt_pc h]
  exact cnt_le n k
theorem E_le {n k : Nat} (h : n ≤ 2 ^ k) : E n ≤ n * k := by
  induction n with
  | zero => exact Nat.zero_le _
  | succ n ih =>
    have a := ih (Nat.le_of_succ_le h)
    have b := pc_le (n := n) (k := k) (Nat.lt_of_succ_le h)
    show E n + pc n ≤ (n + 1) * k
    rw [Nat.add_mul, Nat.one_mul]
    omega
theorem E_lt {n : Nat} (h : n < 2 ^ 402) : E n < 2 ^ 500 := by
  refine Nat.lt_of_le_of_lt (E_le (Nat.le_of_lt h)) ?_
  have a : n * 402 ≤ 2 ^ 402 * 402 := Nat.mul_le_mul_right _ (Nat.le_of_lt h)
  exact Nat.lt_of_le_of_lt a (by decide)
end M04
set_option maxHeartbeats 1000000
namespace M07
def gray (n : Nat) : Nat := n ^^^ (n >>> 1)
theorem gray_bit (n i : Nat) : (gray n).testBit i = (n.testBit i ^^ n.testBit (i + 1)) := by
  unfold gray
  rw [Nat.testBit_xor, Nat.testBit_shiftRight, Nat.add_comm 1 i]
theorem tele (p s : Nat) : (p ^^^ (p >>> s)) ^^^ ((p ^^^ (p >>> s)) >>> s) = p ^^^ (p >>> (2 * s)) := by
  apply Nat.eq_of_testBit_eq
  intro i
  simp only [Nat.testBit_xor, Nat.testBit_shiftRight]
  rw [show 2 * s + i = s + (s + i) by omega]
  cases p.testBit i <;> cases p.testBit (s + i) <;> cases p.testBit (s + (s + i)) <;> rfl
theorem xor_zero_eq {a b : Nat} (h : a ^^^ b = 0) : a = b := by
  apply Nat.eq_of_testBit_eq
  intro i
  have z : (a ^^^ b).testBit i = (0 : Nat).testBit i := by rw [h]
  rw [Nat.testBit_xor, Nat.zero_testBit] at z
  cases e1 : a.testBit i <;> cases e2 : b.testBit i <;> rw [e1, e2] at z <;> first | rfl | cases z
theorem half_zero {q : Nat} (h : q = q >>> 1) : q = 0 := by
  rw [Nat.shiftRight_eq_div_pow] at h
  omega
theorem gray_end {p s : Nat} (h : gray p < 2 ^ s) : p ^^^ (p >>> s) = p := by
  have e : (p >>> s) ^^^ ((p >>> s) >>> 1) = 0 := by
    have z : gray p >>> s = 0 := by
      rw [Nat.shiftRight_eq_div_pow]
      exact Nat.div_eq_of_lt h
    rw [← z]
    unfold gray
    apply Nat.eq_of_testBit_eq
    intro i
    simp only [Nat.testBit_xor, Nat.testBit_shiftRight]
    rw [show s + (1 + i) = 1 + (s + i) by omega]
  have e3 : p >>> s = 0 := half_zero (xor_zero_eq e)
  rw [e3, Nat.xor_zero]
theorem one_bit (x i : Nat) : decide (x / 2 ^ i % 2 = 1) = x.testBit i := (Nat.testBit_eq_decide_div_mod_eq).symm
theorem next_mod (x i : Nat) : x % 2 ^ (i + 1) = x % 2 ^ i + (if x.testBit i = true then 2 ^ i else 0) := by
  rw [Nat.pow_succ, Nat.mod_mul, ← one_bit]
  have h := Nat.mod_two_eq_zero_or_one (x / 2 ^ i)
  rcases h with h | h <;> simp [h]
/-- the lowest bit that is 0 -/
def Low (p low : Nat) : Prop := (∀ j, j < low → p.testBit j = true) ∧ p.testBit low = false
theorem low_mod {p low : Nat} (h : Low p low) : p % 2 ^ (low + 1) = 2 ^ low - 1 := by
  apply Nat.eq_of_testBit_eq
  intro i
  rw [Nat.testBit_mod_two_pow, Nat.testBit_two_pow_sub_one]
  by_cases h1 : i < low
  · rw [h.1 i h1, decide_eq_true h1, decide_eq_true (show i < low + 1 by omega)]
    rfl
  · by_cases h2 : i = low
    · subst h2
      rw [h.2]
      simp
    · rw [decide_eq_false (show ¬ i < low + 1 by omega), decide_eq_false h1]
      rfl
theorem two_pos (k : Nat) : 0 < 2 ^ k := Nat.two_pow_pos k
theorem low_p {p low : Nat} (h : Low p low) (i : Nat) : p.testBit i = if i < low + 1 then decide (i < low) else (p / 2 ^ (low + 1)).testBit (i - (low + 1)) := by
  have e := Nat.div_add_mod p (2 ^ (low + 1))
  rw [low_mod h] at e
  have l : 2 ^ low - 1 < 2 ^ (low + 1) := by
    have a := two_pos low
    rw [Nat.pow_succ]
    omega
  conv => lhs; rw [← e]
  rw [Nat.testBit_two_pow_mul_add _ l, Nat.testBit_two_pow_sub_one]
theorem low_s {p low : Nat} (h : Low p low) (i : Nat) : (p + 1).testBit i = if i < low + 1 then decide (low = i) else (p / 2 ^ (low + 1)).testBit (i - (low + 1)) := by
  have e := Nat.div_add_mod p (2 ^ (low + 1))
  rw [low_mod h] at e
  have a := two_pos low
  have l : 2 ^ low < 2 ^ (low + 1) := by
    rw [Nat.pow_succ]
    omega
  have e2 : p + 1 = 2 ^ (low + 1) * (p / 2 ^ (low + 1)) + 2 ^ low := by omega
  conv => lhs; rw [e2]
  rw [Nat.testBit_two_pow_mul_add _ l, Nat.testBit_two_pow]
theorem gray_next {p low : Nat} (h : Low p low) : gray (p + 1) = gray p ^^^ 2 ^ low := by
  apply Nat.eq_of_testBit_eq
  intro i
  rw [Nat.testBit_xor, gray_bit, gray_bit, low_p h, low_p h, low_s h, low_s h, Nat.testBit_two_pow]
  by_cases h1 : i < low
  · simp only [show i < low + 1 by omega, show i + 1 < low + 1 by omega, if_true]
    by_cases h2 : i + 1 < low
    · simp [h1, h2, show ¬ low = i by omega, show ¬ low = i + 1 by omega]
    · have h3 : low = i + 1 := by omega
      simp [h3]
  · by_cases h2 : i = low
    · subst h2
      simp
    · simp [show ¬ i < low + 1 by omega, show ¬ i + 1 < low + 1 by omega, show ¬ low = i by omega]
theorem xor_pow {x k : Nat} : x ^^^ 2 ^ k = if x.testBit k = true then x - 2 ^ k else x + 2 ^ k := by
  have split : x = 2 ^ (k + 1) * (x / 2 ^ (k + 1)) + ((if x.testBit k = true then 2 ^ k else 0) + x % 2 ^ k) := by
    have e := Nat.div_add_mod x (2 ^ (k + 1))
    rw [next_mod] at e
    omega
  have m := Nat.mod_lt x (two_pos k)
  have l1 : 2 ^ k + x % 2 ^ k < 2 ^ (k + 1) := by
    rw [Nat.pow_succ]
    omega
  have bits : ∀ (q r : Nat) (i : Nat), r < 2 ^ k → (2 ^ (k + 1) * q + (2 ^ k + r)).testBit i = ((2 ^ (k + 1) * q + r) ^^^ 2 ^ k).testBit i := by
    intro q r i hr
    have l2 : 2 ^ k + r < 2 ^ (k + 1) := by
      rw [Nat.pow_succ]
      omega
    have l3 : r < 2 ^ (k + 1) := by
      rw [Nat.pow_succ]
      omega
    rw [Nat.testBit_xor, Nat.testBit_two_pow_mul_add _ l2, Nat.testBit_two_pow_mul_add _ l3, Nat.testBit_two_pow]
    have er : 2 ^ k + r = 2 ^ k * 1 + r := by omega
    rw [er, Nat.testBit_two_pow_mul_add _ hr]
    by_cases h1 : i < k + 1
    · simp only [h1, if_true]
      by_cases h2 : i < k
      · simp [h2, show ¬ k = i by omega]
      · have h3 : i = k := by omega
        subst h3
        simp [Nat.testBit_lt_two_pow hr]
    · simp [h1, show ¬ k = i by omega]
  cases hb : x.testBit k with
  | true =>
    rw [hb] at split
    simp only [if_true] at split
    have e : 2 ^ (k + 1) * (x / 2 ^ (k + 1)) + x % 2 ^ k = x - 2 ^ k := by omega
    simp only [if_true]
    rw [← e]
    apply Nat.eq_of_testBit_eq
    intro i
    have b := bits (x / 2 ^ (k + 1)) (x % 2 ^ k) i m
    rw [← split] at b
    rw [Nat.testBit_xor, b, Nat.testBit_xor]
    cases (2 ^ (k + 1) * (x / 2 ^ (k + 1)) + x % 2 ^ k).testBit i <;> cases (2 ^ k).testBit i <;> rfl
  | false =>
    rw [hb] at split
    simp only [Bool.false_eq_true, if_false, Nat.zero_add] at split
    simp only [Bool.false_eq_true, if_false]
    have e : 2 ^ (k + 1) * (x / 2 ^ (k + 1)) + (2 ^ k + x % 2 ^ k) = x + 2 ^ k := by omega
    rw [← e]
    apply Nat.eq_of_testBit_eq
    intro i
    rw [bits (x / 2 ^ (k + 1)) (x % 2 ^ k) i m, ← split]
theorem gray_lt {n k : Nat} (h : n < 2 ^ k) : gray n < 2 ^ k := by
  unfold gray
  refine Nat.xor_lt_two_pow h ?_
  rw [Nat.shiftRight_eq_div_pow]
  exact Nat.lt_of_le_of_lt (Nat.div_le_self _ _) h
theorem gray_mod {n k : Nat} (h : n < 2 ^ k) : gray n % 2 ^ k = gray n := Nat.mod_eq_of_lt (gray_lt h)
end M07
set_option Elab.async false
set_option maxRecDepth 100000
set_option maxHeartbeats 2000000
/-! Errors that are caught and kept: an exception object behind its suite. -/
namespace OB
open PySem PySem.Spec PyProof.Rows L2

section kit
open PySem.W PySem.Calls
variable {prog : Program} {w : World} {A : Around} {E : Value → Shared → Prop} {s : Shared} {K : Frag} {x D : Addr} {ox : Obj} {od : Option Obj}
theorem cls_data (hc : (clsIn K D).isSome = true) {nm : Str} {a g : Value} (ha : findIn K (.ref D) nm = some (some a)) (hg : specialIn K a "__get__" = some (some g)) (ht : takesIn K a = some true) :
    findObj K D od nm = some (.bind g a) := by
  cases e : clsIn K D with
  | none => rw [e] at hc; cases hc
  | some cd =>
    unfold findObj
    simp [e, ha, hg, ht]
/-- the class of an exception with or without a dict of its own -/
theorem exc_class {Q : Option Value → Shared → Prop} (C : ExcC K D) (X : K.In s.heap) (I : InstAt s.heap x ox D od) (k : Q (some (.ref D)) { s with toks := s.toks + 1 }) :
    wpAny (model prog w) A (getAttr? (.ref x) "__class__") Q E s := by
  have found : findObj K D od "__class__" = some (.bind (.builtin "getset_descriptor.__get__") (.builtin "object.__class__")) :=
    cls_data (by obtain ⟨cd, e, _⟩ := any_some C.hd; simp [e]) C.ha C.hn C.ht
  obtain ⟨h0, g0, d0, t0, o0⟩ := s
  have ty0 := I.type (M := model prog w)
  have own := looks_findIn (M := model prog w) X C.hg
  have gat := looks_findIn (M := model prog w) X C.hk
  have fnd := looks_find (M := model prog w) X I found
  have isE : Looks (model prog w) h0 (isInstance (.ref x) (.type "BaseException")) true := ty0.andThen (looks_subIn X C.hs)
  have q2 : (Value.builtin "BaseException.__getattribute__" == Value.builtin "object.__getattribute__") = false := by decide +kernel
  have q1 : (onTheHeap (Value.ref D) && Value.builtin "BaseException.__getattribute__" == Value.builtin "object.__getattribute__") = false := by
    rw [q2, Bool.and_false]
  unfold getAttr? getAttrBy? getAttrBy
  refine wpAny_bind (wpAny_mkText (wpAny_bind (wpAny_attempt (wpAny_holding (wpAny_bind (ty0.at (wpAny_bind (own.at ?_))))))))
  dsimp only
  rw [q1]
  unfold getAttrByItsOwn hookBefore
  simp only [Bool.false_eq_true, if_false]
  refine wpAny_bind ?_
  rw [if_pos (show onTheHeap (Value.ref D) = true from rfl)]
  refine gat.at ?_
  refine wpAny_bind (wpAny_attempt (wpAny_holding ?_))
  unfold callGetattribute
  rw [if_neg (by decide)]
  unfold boundAndCalled
  rw [PySem.F.excAttr_ValueError.ga.bind (.ref x)]
  refine wpAny_bind (wpAny_pure ?_)
  refine wpAny_call (codeAny_call_builtin PySem.F.excAttr_ValueError.ga.plain PySem.F.entry_bexc_ga ?_)
  refine @check_slot (model prog w) _ _ ⟨h0, g0, d0, t0 + 1, o0⟩ "BaseException.__getattribute__" "BaseException" "__getattribute__" (.ref x) [.str "__class__" t0] [] _ (by decide +kernel) (by decide +kernel) isE
    (PySem.F.args_bexc_ga (.ref x) (.str "__class__" t0)) ?_
  unfold Builtin.«object.__getattribute__»
  refine wpAny_bind (wpAny_of_eq (a := ((Value.ref x : Value), [Value.str "__class__" t0])) (by first | rfl | (simp only [slotArgs]; rfl)) ?_)
  refine wpAny_bind (wpAny_pure (wpAny_bind (ty0.at (wpAny_bind (fnd.at ?_)))))
  dsimp only
  refine wpAny_bind (wpAny_holding (wpAny_call (class_get (s := ⟨h0, g0, d0, t0 + 1, o0⟩) (ox := ox) (od := od) X I C.hm ?_)))
  refine wpAny_pure ?_
  show wpAny _ _ (handedOut (.ref D)) _ _ _
  rw [handedOut_of (v := .ref D) rfl]
  first
    | exact wpAny_pure (wpAny_pure k)
    | exact wpAny_pure k
    | exact wpAny_pure (wpAny_bind (wpAny_pure (wpAny_pure k)))
theorem exc_kit (C : ExcC K D) : KitX K (.ref x) (.ref D) (fun h => InstAt h x ox D od) := by
  obtain ⟨cd, hcd, _⟩ := any_some C.hd
  unfold clsIn at hcd
  split at hcd
  · rename_i c1 d1 cd1 sl1 look
    refine ⟨fun _ _ _ I => I.type, fun M h X _ A' Q' E' s' keep q => ?_, fun h tp dd its n sl X htp => ?_, fun X I k => exc_class C X I k⟩
    · unfold isType loadHead
      exact wpAny_bind (wpAny_loadPart (keep _ _ (X _ _ look)) (wpAny_pure q))
    · cases e : (Value.ref D == Value.ref tp) with
      | false => rfl
      | true =>
        have e2 : D = tp := Value.ref.inj (beq_iff_eq.mp e)
        rw [← e2] at htp
        have z := (X _ _ look).symm.trans htp
        cases z
  · cases hcd
end kit

/-- an exception object that is kept: its class, its own dict -/
def ExA (cls : Value) (d : Option Addr) (a : Addr) : HO := .ext fun h => ∃ (oe : Obj) (vs : Array Value), h.get? a = some oe ∧ Zc cls d oe ∧ oe.data = .fields vs
theorem exA_ok {P : Program} {w : World} {H : Hp} {h : Heap} {a : Addr} {cls : Value} {d : Option Addr} {oe : Obj} {vs : Array Value} (e : h.get? a = some oe) (z : Zc cls d oe) (f : oe.data = .fields vs) : ObjOk P w H h a (ExA cls d a) :=
  ⟨⟨oe, vs, e, z, f⟩, ⟨oe, e⟩, fun _ _ ⟨o, v, q, r⟩ k => ⟨o, v, k o q, r⟩⟩
theorem exA_at {P : Program} {w : World} {H : Hp} {h : Heap} {a : Addr} {cls : Value} {d : Option Addr} (ok : HOk P w H h) (e : H a = some (ExA cls d a)) : ∃ (oe : Obj) (vs : Array Value), h.get? a = some oe ∧ Zc cls d oe ∧ oe.data = .fields vs := by
  have z : ObjOk P w H h a (ExA cls d a) := ok a _ e
  exact z.1

section
variable {X : Cx} {pins : List (Addr × Obj)} {σ : L2.St} {H : Hp} {s : Shared}
/-- an object that came behind the entry is tracked from now on -/
theorem track {a : Addr} {o : HO} (I : Inv X pins σ H s) (hn : H a = none) (h0 : X.s_0.heap.get? a = none) (nL : a ≠ X.env.locals) (nC : ∀ x c, X.env.cells.lookup x = some c → c ≠ a)
    (nP : ∀ p ∈ X.pn ++ pins, p.1 ≠ a) (new : ObjOk X.prog X.w (upd H a o) s.heap a o) : Inv X pins σ (upd H a o) s := by
  have ne : ∀ {b u}, X.s_0.heap.get? b = some u → b ≠ a := fun {b u} e z => by
    rw [z, h0] at e
    cases e
  refine ⟨I.ok, I.os, I.bare, ⟨I.base.keep, I.base.slot, fun b u e n hx => ?_, I.base.there, fun b xs e => ?_, fun b u v e => ?_, fun b ps e => ?_⟩, I.loc, I.cell, ?_, fun x c e => ?_, fun p hp => ?_, ?_, I.len⟩
  · rw [upd_ne (ne e)]
    exact I.base.free b u e n hx
  · have q := I.base.tups b xs e
    rw [upd_ne (ne_of_none q hn)]
    exact q
  · have q := I.base.frzs b u v e
    rw [upd_ne (ne_of_none q hn)]
    exact q
  · obtain ⟨m, q⟩ := I.base.tbls b ps e
    exact ⟨m, by rw [upd_ne (ne_of_none q hn)]; exact q⟩
  · rw [upd_ne (Ne.symm nL)]
    exact I.free
  · rw [upd_ne (nC x c e)]
    exact I.freeC x c e
  · obtain ⟨e, n, r1, r2, r3⟩ := I.pin p hp
    exact ⟨e, by rw [upd_ne (nP p hp)]; exact n, r1, r2, r3⟩
  · exact I.hok.laidN (fun _ _ e => e) hn new
end

/-- what 'except x as n: kept = n' wishes: behind it slot j holds the exception, which is tracked -/
def wKeep (K : PySem.W.Frag) (c : Value) (i j : Nat) (Wout : WX) (D : Ends) : WX := fun cls d σ H =>
  ∃ b, PySem.W.exmOne K cls c = some b ∧
    (b = true → ∀ a, H a = none → D.nx (((σ.set i (some (.ref a))).set j (some (.ref a))).set i none) (upd H a (ExA cls d a))) ∧ (b = false → Wout cls d σ H)

section
variable {X : Cx} {x n m : Str} {c : Value} {i j : Nat} {body : List Stmt} {np pos pos' p1 p2 p3 : Pos} {tb : WX → TS} {Wout : WX}
theorem ps_try_keep (hs : X.stack = X.env :: X.outer) (hf : X.env.frame = some X.env.locals) (hx : X.ex = []) (hN : X.N.Nodup) (hi : X.N[i]? = some n) (hln : X.env.kindOf n = some .local)
    (hj : X.N[j]? = some m) (hlm : X.env.scope.names.lookup m = some .local) (hc : Names X x c) (tk : Takes X Wout)
    (hb : ∀ (W : WX) (pn : List (Addr × Obj)) (xe : Value → Shared → Prop), Takes (X.tr pn xe) W → PassesOwn (model X.prog X.w) X.A X.env xe → PSs (X.tr pn xe) body (tb W))
    (hdn : (n == ("__debug__" : Str)) = false := by decide) (hcn : (n == ("__classdict__" : Str)) = false := by decide)
    (hsw : ∀ env : Env, swapsWith (.Name n p2) (some (.Name m p1)) p3.line env = pure false := by intro _; rfl) :
    PS X (.Try body [.ExceptHandler (some (.Name x np)) (some n) [.Assign [.Name m p1] (.Name n p2) p3] pos'] [] [] pos) (fun D σ H => tb (wKeep X.K c i j Wout D) D σ H) := by
  refine ⟨fun pins s σ H D I h => ?_⟩
  have okX := I.ok
  have frames : X.A.frames = some (X.env :: X.outer) := by rw [okX.frames, hs]
  have lj : Loc X.env.scope m := .inl hlm
  refine wpAny_Try_except ?_
  have run := (hb (wKeep X.K c i j Wout D) (X.pn ++ pins) (fun e s₁ => wpAny (model X.prog X.w) X.A (noteFrame e X.env)
    (fun _ s₂ => wpAny (model X.prog X.w) X.A (setFlight e none)
      (fun _ s₃ => wpAny (model X.prog X.w) X.A (handleBy e X.env [.ExceptHandler (some (.Name x np)) (some n) [.Assign [.Name m p1] (.Name n p2) p3] pos']) (SP X pins D) X.xe s₃) X.xe s₂) X.xe s₁)
    (fun u s' air => ?_) PassesOwn.looking).run [] s σ H D (I.toTry _) h
  · refine wpAny_mono run (fun f s1 end1 => ?_) (fun _ _ z => z)
    cases f with
    | next =>
      obtain ⟨σ1, H1, J1, q⟩ := end1
      exact wpAny_execs_nil ⟨σ1, H1, J1.ofTry okX, q⟩
    | ret u =>
      obtain ⟨v, σ1, H1, J1, r, q⟩ := end1
      exact ⟨v, σ1, H1, J1.ofTry okX, r, q⟩
    | brk =>
      obtain ⟨σ1, H1, J1, q⟩ := end1
      exact ⟨σ1, H1, J1.ofTry okX, q⟩
    | cont =>
      obtain ⟨σ1, H1, J1, q⟩ := end1
      exact ⟨σ1, H1, J1.ofTry okX, q⟩
  · obtain ⟨a, B, sI, pins1, σ1, H1, cls, d, rfl, J0, ground, up0, sky, na, os1, bare1, b, hb1, yes, no⟩ := air
    have J : Inv X pins σ1 H1 sI := J0.ofTry okX
    have skyX : Sky B (X.env :: X.outer) a (Zc cls d) X.env.locals s'.heap := by
      rw [← hs]
      exact sky
    have Ba : B.get? a = none := by
      rcases skyX with ⟨_, z, _⟩ | ⟨_, z, _⟩ | ⟨_, z, _⟩ <;> exact z
    show wpAny (model X.prog X.w) X.A (noteFrame (.ref a) X.env) _ _ _
    refine Sky.land Zc.steady frames hf skyX fun h3 fl3 up3 => ?_
    have J3 : Inv X pins σ1 H1 { s' with heap := h3 } := J.landed ground fl3.1 (up0.trans up3) os1 bare1
    obtain ⟨oe3, vs3, he3, hz3, hd3⟩ := fl3.there
    have off : a ∉ frs (X.env :: X.outer) := fun hm => by
      obtain ⟨_, o', e', hnf⟩ := fl3.2.2.1.mem hm
      rw [he3] at e'
      cases e'
      exact hnf _ hd3
    have sIa : sI.heap.get? a = none := by
      cases e : sI.heap.get? a with
      | none => rfl
      | some o =>
        have z := ground a o e (by rw [hs]; exact off)
        rw [Ba] at z
        cases z
    have s0a : X.s_0.heap.get? a = none := by
      cases e : X.s_0.heap.get? a with
      | none => rfl
      | some o =>
        obtain ⟨o', z⟩ := J.base.there a o e (by rw [hx]; exact fun z => nomatch z)
        rw [sIa] at z
        cases z
    have nL : a ≠ X.env.locals := fun z => off (List.mem_filterMap.mpr ⟨X.env, List.mem_cons_self, by rw [hf, z]⟩)
    have nF : a ∉ X.fs := fun hm => by
      obtain ⟨e, he, q⟩ := List.mem_filterMap.mp hm
      exact off (List.mem_filterMap.mpr ⟨e, List.mem_cons_of_mem _ he, q⟩)
    have nC : ∀ y k, X.env.cells.lookup y = some k → k ≠ a := fun y k e z => by
      obtain ⟨v, o, ho, _⟩ := J.cell y k e
      rw [z, sIa] at ho
      cases ho
    have nP : ∀ p ∈ X.pn ++ pins, p.1 ≠ a := fun p hp z => by
      have q := (J.pin p hp).1
      rw [z, sIa] at q
      cases q
    have S3 := J3.suite he3 hd3 na nL nF
    refine wpAny_handleBy_cons (codeAny_handlers_test ?_) (by intro q; cases q)
    have LT : PySem.W.Looks (model X.prog X.w) h3 (typeOf (.ref a)) cls := fun A Q E s k q => wpAny_typeOf_ref (k _ _ he3) (by rw [hz3.1]; exact q)
    have LM := PySem.W.exm_one (M := model X.prog X.w) (J3.kIn) LT hb1
    have named : ∀ {Q : Value → Shared → Prop} {E : Value → Shared → Prop}, Q c { s' with heap := h3 } →
        wpAny (model X.prog X.w) (X.A.mark (some (.ref a))) (eval (.Name x np) X.env) Q E { s' with heap := h3 } := fun {Q E} q => by
      obtain ⟨hg, hdbg, hm | ⟨hm, hv, hnn⟩⟩ := hc
      · exact ld_glob (X := X.suite a ((a, oe3) :: (X.pn ++ pins))) S3 hg hm q hdbg
      · exact ld_blt (X := X.suite a ((a, oe3) :: (X.pn ++ pins))) S3 hg hm hv q hnn hdbg
    refine named (LM.here ?_)
    cases b with
    | true =>
      refine codeAny_handlers_suite_as ?_
      refine HandSPX.lands_againZ fl3 fun h4 fl4 up4 => ?_
      have J4 : Inv X pins σ1 H1 { s' with heap := h4 } := J.landed ground fl4.1 ((up0.trans up3).trans up4) os1 bare1
      obtain ⟨oe4, vs4, he4, hz4, hd4⟩ := fl4.there
      have S4 := J4.suite he4 hd4 na nL nF
      refine store_ok (X := X.suite a ((a, oe4) :: (X.pn ++ pins))) (v := .ref a) S4 hN hi (.inl hln) rfl (fun s5 S5 => ?_) (.inr hln)
      have hiσ : i < σ1.length := by
        rw [J.len]
        exact (List.getElem?_eq_some_iff.mp hi).1
      have kept := pss_one (ps_set (X := X.suite a ((a, oe4) :: (X.pn ++ pins))) (pos := p3) (pos' := p1) hN hj lj (pe_var (X := X.suite a ((a, oe4) :: (X.pn ++ pins))) (pos := p2) hi (.inl hln) hdn hcn) (hsw _) (.inr hlm))
      refine wpAny_mono (kept.run [] s5 _ H1 { nx := fun σ' H' => H' = H1 ∧ σ' = (σ1.set i (some (.ref a))).set j (some (.ref a)), rt := fun _ _ => False, bk := fun _ _ => False, ct := fun _ _ => False } S5
        ⟨.ref a, by rw [List.getElem?_set_self hiσ], rfl, rfl⟩) (fun f s6 end6 => ?_) (fun _ _ z => False.elim z)
      cases f with
      | next =>
        obtain ⟨σ6, H6, S6, e6, e7⟩ := end6
        subst e6 e7
        have at6 := (S6.pin (a, oe4) (List.mem_append_left _ List.mem_cons_self)).1
        have J6 : Inv X pins _ H6 s6 := S6.unsuite okX
        have J7 := track (o := ExA cls d a) J6 na s0a nL nC nP (exA_ok at6 hz4 hd4)
        exact gone_ok J7 hN hi hln fun s8 J8 => ⟨_, _, J8, yes rfl a na⟩
      | ret u =>
        obtain ⟨_, _, _, _, _, z⟩ := end6
        exact z.elim
      | brk =>
        obtain ⟨_, _, _, z⟩ := end6
        exact z.elim
      | cont =>
        obtain ⟨_, _, _, z⟩ := end6
        exact z.elim
    | false =>
      show wpAny _ X.A (handleBy (.ref a) X.env []) _ _ _
      refine wpAny_handleBy_nil ?_
      obtain ⟨k1, k2, k3, oe, vs, T, oT, ts', he, hz, hd, h1, hr⟩ := id fl3
      unfold PySem.passOn
      refine wpAny_bind (wpAny_field he hd h1 ?_)
      rw [if_neg (by simp)]
      have out : wpAny (model X.prog X.w) X.A (setFlight (.ref a) X.env.frame) (fun _ s4 => wpAny (model X.prog X.w) X.A (throw (.ref a) : Sem Flow) (SP X pins D) X.xe s4) X.xe { s' with heap := h3 } := by
        rw [hf]
        refine HandSPX.setFlight_upZ fl3 fun h4 hh4 up4 => wpAny_throw (tk _ _ ?_)
        exact ⟨a, B, sI, pins, σ1, H1, cls, d, rfl, J, ground, (up0.trans up3).trans up4, .inr (.inr (by rw [hs]; exact hh4)), na, os1, bare1, no rfl⟩
      first
        | exact wpAny_bind (wpAny_pure (wpAny_bind out))
        | exact wpAny_bind out
end

/-- isinstance(e, c), e an exception that is kept -/
def rIsX (K : PySem.W.Frag) : List V → Hp → VK → Prop := fun xs H Q => ∃ (a D : Addr) (d : Option Addr) (c : V) (u : Value) (b : Bool), xs = [.ref a, c] ∧ ExcC K D ∧ H a = some (ExA (.ref D) d a) ∧ (∀ dd, d = some dd → ∃ fs, H dd = some (.xd fs)) ∧ ClsV c u ∧ PySem.W.kitOne K (.ref D) u = some b ∧ Q (.bl b) H
theorem inst_at {X : Cx} {pins : List (Addr × Obj)} {σ : L2.St} {H : Hp} {s : Shared} {a D : Addr} {d : Option Addr} (I : Inv X pins σ H s) (ha : H a = some (ExA (.ref D) d a)) (hd : ∀ dd, d = some dd → ∃ fs, H dd = some (.xd fs)) :
    ∃ oe od, PySem.W.InstAt s.heap a oe D od := by
  obtain ⟨oe, vs, e, ⟨z1, z2⟩, f⟩ := exA_at I.hok ha
  obtain ⟨oc, odd, oda, osl⟩ := oe
  dsimp only at z1 z2 f
  subst z1 z2 f
  cases odd with
  | none => exact ⟨_, none, e, rfl, rfl, trivial⟩
  | some dd =>
    obtain ⟨fs, hfs⟩ := hd dd rfl
    obtain ⟨mA, hns, _⟩ := (show ObjOk X.prog X.w H s.heap dd (.xd fs) from I.hok dd _ hfs)
    obtain ⟨od, ho, _⟩ := lookIn_ns hns
    exact ⟨_, some od, e, rfl, rfl, ho⟩
theorem call_isX {X : Cx} : CallR X (.builtin "isinstance") (rIsX X.K) := by
  intro pins s σ H xs us Q I r h
  obtain ⟨a, D, d, c, u, b, rfl, C, ha, hd, hc, e, q⟩ := h
  obtain ⟨u1, u2, rfl, r1, r2⟩ := vals2 r
  have e2 := hc.eq r2
  subst e2
  obtain rfl : u1 = Value.ref a := r1
  obtain ⟨oe, od, J⟩ := inst_at I ha hd
  exact PySem.W.kia_one (exc_kit C) I.kIn J e (fun z => nomatch z) fun tk => ⟨.bl b, H, I.tok tk, rfl, q⟩
theorem call_or {X : Cx} {f : Value} {r1 r2 : List V → Hp → VK → Prop} (h1 : CallR X f r1) (h2 : CallR X f r2) : CallR X f (fun xs H Q => r1 xs H Q ∨ r2 xs H Q) := by
  intro pins s σ H xs us Q I r h
  rcases h with h | h
  · exact h1 pins s σ H xs us Q I r h
  · exact h2 pins s σ H xs us Q I r h
/-- e.f of an exception that is kept -/
def tXa (K : PySem.W.Frag) (f : Str) (te : TE) : TE := fun σ H Q => te σ H fun x H1 => ∃ (a D dd : Addr) (fs : List (Str × V)) (v : V), x = .ref a ∧ XfC K D ∧ PySem.W.findIn K (.ref D) f = some none ∧ H1 a = some (ExA (.ref D) (some dd) a) ∧ H1 dd = some (.xd fs) ∧ fs.lookup f = some v ∧ Q v H1
theorem pe_xa {X : Cx} {e : Expr} {te : TE} {pos : Pos} {n : Str} (he : PE X e te) (hb : attributeBase e n X.env (eval e X.env) = eval e X.env := by rfl) : PE X (.Attribute e n pos) (tXa X.K n te) := by
  refine ⟨fun pins s σ H Q I h => ?_⟩
  refine attr_of hb (thn (he.run pins s σ H _ I h) fun u s1 got => ?_)
  obtain ⟨y, H1, I1, ry, a, D, dd, fs, v, rfl, T, hno, ha, hdd, hl, q⟩ := got
  obtain rfl : u = Value.ref a := ry
  obtain ⟨oe, vs, eo, ⟨z1, z2⟩, hd⟩ := exA_at I1.hok ha
  obtain ⟨mA, hns, hr⟩ := (show ObjOk X.prog X.w H1 s1.heap dd (.xd fs) from I1.hok dd _ hdd)
  obtain ⟨od, ho, lk⟩ := lookIn_ns hns
  obtain ⟨u, hu, ru⟩ := RelO.some_of (v := v) (o := mA n) (by rw [← hl]; exact hr n)
  have J : PySem.W.InstAt s1.heap a oe D (some od) := ⟨eo, z1, by unfold PySem.W.notCls; rw [hd] <;> rfl, by rw [z2]; exact ho⟩
  exact HandSPX.exc_get I1.kIn J T.ga T.gg T.exC (PySem.W.findObj_own T.hdC hno rfl (by rw [lk, hu])) (handed_of ru) ⟨v, H1, I1.tok _, ru, q⟩
end OB
/-! Lambdas handed to a def: with no parameter, or with one that has a written int as its default. -/
namespace OB
open PySem PySem.Spec PyProof.Rows L2 LamX

section kit
open PySem.W PySem.Calls
abbrev lFn (qual : Str) (params : Arguments) (body : Expr) (scope : Scope) (cl : List (Str × Addr)) (dV pm cdv ct : Value) : FuncData :=
  { name := "<lambda>", qualname := qual, params := params, body := .expr body, scope := scope, globals := mainGlobals, closure := cl, defaults := dV, kwdefaults := .none, doc := .none, pyModule := pm, annotations := none, code := cdv, closureTuple := ct, builtins := builtinsNs }
abbrev lObj (qual : Str) (params : Arguments) (body : Expr) (scope : Scope) (cl : List (Str × Addr)) (dV pm cdv ct : Value) : Obj :=
  { cls := .type "function", data := .func (lFn qual params body scope cl dV pm cdv ct) }
variable {M : Model} {A : Around} {E : Value → Shared → Prop} {s : Shared} {qual : Str} {params : Arguments} {body : Expr} {scope : Scope} {env : Env} {c P : Addr} {ps : Array Value} {pos : Pos} {firstLine : Nat} {mg : Str → Option Value}
  {clos : List (Str × Addr)} {Q : Value → Shared → Prop} {dV : Value}
/-- a lambda's object is made: the code object comes by hcode1 -/
theorem tail_by (hcl : closureFor scope env = pure clos) (hge0 : env.globals = mainGlobals) (hg : s.heap.Ns mainGlobals mg) (hgP : mainGlobals ≠ P) (hb : s.heap.BuiltinsAt mg P)
    {G : Value → Heap → Heap → Prop}
    (hG : ∀ cv h1 h2, G cv h1 h2 → Heap.ExtBut P h1 h2 ∧ h1.objs.size ≤ h2.objs.size)
    (code : ∀ (h1 : Heap) (tk1 : Tok) (Q1 : Value → Shared → Prop), (∀ b o, s.heap.get? b = some o → h1.get? b = some o) → s.heap.objs.size ≤ h1.objs.size →
      (∀ cv h2 tk, G cv h1 h2 → Q1 cv { s with heap := h2, toks := tk }) → wpAny M A (functionCode env pos firstLine "<lambda>" qual params scope (.expr body)) Q1 E { s with heap := h1, toks := tk1 })
    (h : ∀ cv ctv h1 h2 tk, (∀ b o, s.heap.get? b = some o → h1.get? b = some o) → s.heap.objs.size ≤ h1.objs.size → G cv h1 h2 →
      Q (.ref h2.objs.size) { s with heap := h2.push (lObj qual params body scope clos dV ((mg "__name__").getD .none) cv ctv), toks := tk }) :
    wpAny M A (makeTail "<lambda>" qual params (.expr body) scope env dV .none none pos firstLine) Q E s := by
  obtain ⟨bm, ob, hbm, hne0, _, hneP, hbo, hcls, hdict, hdata⟩ := hb
  have go : ∀ (ctv : Value) (h1 : Heap) (tk1 : Tok), (∀ b o, s.heap.get? b = some o → h1.get? b = some o) → s.heap.objs.size ≤ h1.objs.size →
      wpAny M A (functionCode env pos firstLine "<lambda>" qual params scope (.expr body) >>= fun cv => builtinsFor mainGlobals env.builtins >>= fun bi => nsGet mainGlobals "__name__" >>= fun nm => pure Value.none >>= fun doc =>
        newObj (.type "function") (.func { name := "<lambda>", qualname := qual, params := params, body := .expr body, scope := scope, globals := mainGlobals, closure := clos, closureTuple := ctv, code := cv, builtins := bi, defaults := dV, kwdefaults := .none, annotations := none, pyModule := nm.getD .none, doc := doc })) Q E { s with heap := h1, toks := tk1 } := by
    intro ctv h1 tk1 k1 z1
    refine wpAny_bind (code h1 tk1 _ k1 z1 fun cv h2 tk g => ?_)
    obtain ⟨x2, z2⟩ := hG cv h1 h2 g
    have hg2 := (hg.keeps k1).extBut x2 hgP
    refine wpAny_bind (wpAny_builtinsFor hg2 hbm hne0 (x2 _ _ hneP (k1 _ _ hbo)) hcls hdict hdata ?_)
    refine wpAny_bind (wpAny_nsGet hg2 ?_)
    exact wpAny_bind (wpAny_pure (wpAny_newObj_type (h cv ctv h1 h2 tk k1 z1 g) (by size_fits)))
  unfold makeTail
  rw [hcl, hge0]
  refine wpAny_bind (wpAny_pure ?_)
  cases clos with
  | nil => exact wpAny_bind (wpAny_pure (go .none s.heap s.toks (fun _ _ e => e) (Nat.le_refl _)))
  | cons q r =>
    refine wpAny_bind (wpAny_newTextTuple ?_)
    exact go _ _ s.toks (fun b o e => Heap.get?_push_of_some _ e) (by rw [Heap.size_push]; omega)
end kit

section
variable {X : Cx} {pins : List (Addr × Obj)} {σ : L2.St} {H : Hp} {s : Shared}
/-- what stands of a lambda's defaults: none, or a tuple of ints that nobody tracks -/
def DflAt (h : Heap) (H : Hp) (fs : List Addr) (dV : Value) : List Value → Prop
  | [] => dV = .none
  | ds => ∃ (T : Addr) (o : Obj) (n : Nat), dV = .ref T ∧ h.get? T = some o ∧ o.data = .seq ds.toArray n ∧ H T = none ∧ T ∉ fs
/-- a lambda is made from makeTail on -/
theorem lam_tail {T : List (Addr × Str)} {c P : Addr} {params : Arguments} {body : Expr} {scope : Scope} {pos : Pos} {dV : Value} {ds : List Value} {E : Value → Shared → Prop} {Q : Value → Shared → Prop} (I : Inv X pins σ H s) (TB : TabB X.base X.mg c P) (hcode : X.env.code = .ref c)
    (hm : (P, X.env.qual ++ "<lambda>") ∈ T) (hu : ∀ p ∈ T, p.1 = P → p.2 = X.env.qual ++ "<lambda>") (hT : Tabs T H) (hfree : ∀ y ∈ scope.names, y.2 = .free → ∃ c, X.env.cells.lookup y.1 = some c)
    (hd : DflAt s.heap H (X.env.locals :: X.fs) dV ds)
    (h : ∀ (f c' : Addr) (pm ctv : Value) (H1 : Hp) (s' : Shared), Inv X pins σ H1 s' → ExtN H H1 → Tabs T H1 → DflAt s'.heap H1 (X.env.locals :: X.fs) dV ds →
      s'.heap.get? f = some (lObj (X.env.qual ++ "<lambda>") params body scope (cloFrom X.env.cells scope.names []) dV pm (.ref c') ctv) → H1 f = none → f ≠ X.env.locals → f ∉ X.fs → H1 c' = some (CodeO c' (X.env.qual ++ "<lambda>")) → Q (.ref f) s') :
    wpAny (model X.prog X.w) X.A (makeTail "<lambda>" (X.env.qual ++ "<lambda>") params (.expr body) scope X.env dV .none none pos pos.line) Q E s := by
  obtain ⟨ps, hP, ht, ha⟩ := hT _ hm
  have bP : s.heap.BuiltinsAt X.mg P := TB.bm.keeps I.bk
  have hP' : s.heap.get? P = some { cls := .none, data := .fields ps } := I.hok P _ hP
  have nLoc : ∀ f, s.heap.objs.size ≤ f → f ≠ X.env.locals := fun f hf z => by
    have h1 := I.lt
    rw [← z] at h1
    exact Nat.lt_irrefl _ (Nat.lt_of_lt_of_le h1 hf)
  have CH := TB.code.keeps I.bk
  have later : ∀ {h1 : Heap} {H1 : Hp}, (∀ b o, s.heap.get? b = some o → H b = none → b ≠ P → h1.get? b = some o) → (∀ b o, s.heap.get? b = some o → H b = none → H1 b = none) → DflAt h1 H1 (X.env.locals :: X.fs) dV ds := fun {h1 H1} k1 k2 => by
    cases ds with
    | nil => exact hd
    | cons d r =>
      obtain ⟨Td, o, n, e1, e2, e3, e4, e5⟩ := hd
      refine ⟨Td, o, n, e1, k1 _ _ e2 e4 (fun z => ?_), e3, k2 _ _ e2 e4, e5⟩
      rw [z, hP] at e4
      cases e4
  cases hc : codeAmong pos ps.toList with
  | none =>
    refine tail_by (mg := X.mg) (P := P) (closure_ok hfree) I.ok.glob (I.mod.glob.keeps I.bk) TB.gP bP
      (G := fun cv h1 h2 => ∃ c', cv = .ref c' ∧ Heap.ExtBut P h1 h2 ∧ h1.objs.size ≤ c' ∧ c' < h2.objs.size ∧ h2.CodeRec (.ref c') (X.env.qual ++ "<lambda>") ∧ h2.get? P = some (PySem.W.tabObj (ps ++ #[rawInt pos.line, rawInt pos.col, .ref c'])))
      (fun cv h1 h2 ⟨c', _, x, l1, l2, _⟩ => ⟨x, Nat.le_trans l1 (Nat.le_of_lt l2)⟩) (fun h1 tk1 Q1 k1 z1 q1 => ?_) (fun cv ctv h1 h2 tk k1 z1 g => ?_)
    · exact wpAny_functionCodeX hcode ((CH.keeps k1).code (k1 _ _ hP') ht) ((CH.keeps k1).tab (k1 _ _ hP')) hc fun c' h2 tk hx hge hlt _ hrec htb _ => q1 (.ref c') h2 tk ⟨c', rfl, hx, hge, hlt, hrec, htb.2⟩
    · obtain ⟨c', rfl, hx, hge, hlt, hrec, htb⟩ := g
      obtain ⟨c2, oc, vs, t, e2, hoc, hdc, hv⟩ := hrec
      cases e2
      have hge' : s.heap.objs.size ≤ c' := Nat.le_trans z1 hge
      have hsz : s.heap.objs.size ≤ h2.objs.size := Nat.le_trans hge' (Nat.le_of_lt hlt)
      have nC : H c' = none := I.hok.fresh hge'
      have I1 := inv_table (t' := tk) (more := #[rawInt pos.line, rawInt pos.col, .ref c']) (h' := h2.push (lObj (X.env.qual ++ "<lambda>") params body scope (cloFrom X.env.cells scope.names []) dV ((X.mg "__name__").getD .none) (.ref c') ctv)) I hP
        (fun b o hb e => Heap.get?_push_of_some _ (hx b o hb (k1 _ _ e))) (Heap.get?_push_of_some _ htb) hge' ⟨oc, vs, t, Heap.get?_push_of_some _ hoc, hdc, hv⟩
      have hE : ExtN H (upd (upd H P (.tbl (ps ++ #[rawInt pos.line, rawInt pos.col, .ref c']))) c' (CodeO c' (X.env.qual ++ "<lambda>"))) := fun b o e n => by
        rw [upd_ne (ne_of_none e nC), upd_ne (fun z => n ps (Option.some.inj (e.symm.trans (by rw [z]; exact hP))))]
        exact e
      have eL : (ps ++ #[rawInt pos.line, rawInt pos.col, .ref c']).toList = ps.toList ++ [rawInt pos.line, rawInt pos.col, .ref c'] := by simp
      refine h h2.objs.size c' _ ctv _ _ I1 hE (fun p hp => ?_) (later (fun b o e n hb => Heap.get?_push_of_some _ (hx b o hb (k1 _ _ e))) fun b o e n => ?_) (Heap.get?_push_size _ rfl) ?_ (nLoc _ hsz) (I.nofs hsz) upd_same
      · by_cases hb : p.1 = P
        · rw [hu p hp hb, hb]
          refine ⟨_, by rw [upd_ne (ne_of_none hP nC), upd_same], by rw [eL]; exact PySem.TriplesOk_snoc _ _ _ _ ht, fun p' cv hcv => ?_⟩
          rw [eL] at hcv
          rcases among_app _ ht hcv with z | z
          · obtain ⟨c0, e1, e2⟩ := ha p' cv z
            exact ⟨c0, e1, hE _ _ e2 codeO_ne⟩
          · exact ⟨c', z, upd_same⟩
        · obtain ⟨ps', a1, a2, a3⟩ := hT p hp
          refine ⟨ps', by rw [upd_ne (ne_of_none a1 nC), upd_ne hb]; exact a1, a2, fun p' cv hcv => ?_⟩
          obtain ⟨c0, e1, e2⟩ := a3 p' cv hcv
          exact ⟨c0, e1, hE _ _ e2 codeO_ne⟩
      · rw [upd_ne (Nat.ne_of_lt (Nat.lt_of_lt_of_le (Heap.lt_size e) hge')), upd_ne (fun z => by rw [z, hP] at n; cases n)]
        exact n
      · rw [upd_ne (Nat.ne_of_gt hlt), upd_ne (Nat.ne_of_gt (Nat.lt_of_lt_of_le (Heap.lt_size hP') hsz))]
        exact I.hok.fresh hsz
  | some cv0 =>
    obtain ⟨c', e, hco⟩ := ha pos cv0 hc
    subst e
    refine tail_by (mg := X.mg) (P := P) (closure_ok hfree) I.ok.glob (I.mod.glob.keeps I.bk) TB.gP bP
      (G := fun cv h1 h2 => cv = .ref c' ∧ h2 = h1) (fun cv h1 h2 ⟨_, e⟩ => by rw [e]; exact ⟨fun _ _ _ e => e, Nat.le_refl _⟩) (fun h1 tk1 Q1 k1 z1 q1 => ?_) (fun cv ctv h1 h2 tk k1 z1 g => ?_)
    · exact wpAny_functionCode_hit hcode ((CH.keeps k1).code (k1 _ _ hP') ht) hc (q1 (.ref c') h1 tk1 ⟨rfl, rfl⟩)
    · obtain ⟨rfl, rfl⟩ := g
      have kk : ∀ b o, s.heap.get? b = some o → (h2.push (lObj (X.env.qual ++ "<lambda>") params body scope (cloFrom X.env.cells scope.names []) dV ((X.mg "__name__").getD .none) (.ref c') ctv)).get? b = some o := fun b o e => Heap.get?_push_of_some _ (k1 _ _ e)
      exact h h2.objs.size c' _ ctv H _ (I.kept (t' := tk) kk) (ExtN.refl H) hT (later (fun b o e _ _ => kk b o e) fun _ _ _ n => n) (Heap.get?_push_size _ rfl) (I.hok.fresh z1) (nLoc _ z1) (I.nofs z1) hco
end
end OB
namespace OB
open PySem PySem.Spec PyProof.Rows L2 LamX

/-- a lambda's names: captured ones, globals, and its parameters nm, which are no names of the def around -/
structure LamN (sc scope : Scope) (N nm : List Str) : Prop where
  kind : scope.kind = .function
  co : scope.isCoroutine = false
  gen : scope.isGenerator = false
  own : ∀ y ∈ scope.names, y.2 ≠ .cell ∧ (y.2 = .local → y.1 ∉ N)
  par : ∀ x ∈ nm, scope.names.lookup x = some .local
  free : ∀ y ∈ scope.names, y.2 = .free → sc.names.lookup y.1 = some .cell ∨ sc.names.lookup y.1 = some .free
def lamNB (sc scope : Scope) (N nm : List Str) : Bool :=
  decide (scope.kind = .function) && !scope.isCoroutine && !scope.isGenerator &&
    (scope.names.all fun y => !decide (y.2 = .cell) && (!decide (y.2 = .local) || decide (y.1 ∉ N)) && (!decide (y.2 = .free) || decide (sc.names.lookup y.1 = some .cell) || decide (sc.names.lookup y.1 = some .free))) &&
    nm.all fun x => decide (scope.names.lookup x = some .local)
theorem lamN_by {sc scope : Scope} {N nm : List Str} (h : lamNB sc scope N nm = true) : LamN sc scope N nm := by
  unfold lamNB at h
  simp only [Bool.and_eq_true, Bool.or_eq_true, Bool.not_eq_true', decide_eq_true_eq, decide_eq_false_iff_not, List.all_eq_true] at h
  obtain ⟨⟨⟨⟨h1, h2⟩, h3⟩, h4⟩, h5⟩ := h
  refine ⟨h1, h2, h3, fun y hy => ⟨(h4 y hy).1.1, fun e => ?_⟩, fun x hx => h5 x hx, fun y hy e => ?_⟩
  · rcases (h4 y hy).1.2 with z | z
    · exact absurd e z
    · exact z
  · rcases (h4 y hy).2 with (z | z) | z
    · exact absurd e z
    · exact .inl z
    · exact .inr z
theorem LamN.has {X : Cx} {scope : Scope} {N nm : List Str} (L : LamN X.env.scope scope N nm) (ok : X.Ok) : ∀ y ∈ scope.names, y.2 = .free → ∃ c, X.env.cells.lookup y.1 = some c := fun y hy e => by
  rcases L.free y hy e with k | k
  · exact ok.has _ (.inl k)
  · exact ok.has _ (.inr k)
section
variable {X : Cx} {pins : List (Addr × Obj)} {σ : L2.St} {H HZ : Hp} {s s1 : Shared}
theorem lam_start {A : Around} {outer : List Env} {E : XK} {scope : Scope} {f c' : Addr} {h₁ : Heap} {tk : Nat} {nm : List Str} {m1 : Str → Option Value} (I : Inv X pins σ H s) (L : LamN X.env.scope scope X.N nm) (e0 : Env0 X.prog X.w X.K X.mg X.base A outer s1 HZ) (hd : A.handled = none)
    (un : Un (frs X.stack) [] H HZ s.heap s1.heap) (hns : h₁.Ns s1.heap.objs.size m1) (kp : ∀ b o, s1.heap.get? b = some o → h₁.get? b = some o) :
    Inv (lamCx X A outer s1 HZ E scope f c') [] σ HZ { s1 with heap := h₁, toks := tk } := by
  have hfree := L.has I.ok
  have up : ∀ {y c}, (cloFrom X.env.cells scope.names []).lookup y = some c → X.env.cells.lookup y = some c := fun {y c} e => by
    rcases cloFrom_mem (PySem.mem_of_lookup e) with hm | ⟨h1, h2⟩
    · cases hm
    · obtain ⟨c1, hc⟩ := hfree _ h1 rfl
      have hc : X.env.cells.lookup y = some c1 := hc
      rw [hc] at h2
      have h3 : c = c1 := h2
      rw [h3]
      exact hc
  have down : ∀ {y}, scope.names.lookup y = some .free → ∃ c, (cloFrom X.env.cells scope.names []).lookup y = some c := fun {y} hl =>
    mem_lookup (cloFrom_has (cells := X.env.cells) (acc := []) (PySem.mem_of_lookup hl))
  have cellK : ∀ {c : Addr} {v : Option Value}, H c = none → s.heap.IsCell c v → h₁.IsCell c v := fun {c v} n ⟨o, ho, hd⟩ => by
    obtain ⟨sl, q⟩ := un.any ho n (by simp)
    exact ⟨_, kp _ _ q, hd⟩
  have noX : ∀ b : Addr, b ∉ (lamCx X A outer s1 HZ E scope f c').ex := fun b z => absurd (show b ∈ ([] : List Addr) from z) (by simp)
  refine ⟨⟨e0.mod, L.kind, rfl, rfl, Nat.le_refl _, fun y z c e1 e2 => I.ok.inj y z c (up e1) (up e2), fun y hy => ?_, fun y c z _ => ?_, fun _ => hd, Around.frames_deeper e0.frames, .inr ⟨rfl, rfl⟩, fun b z => absurd z (noX b), e0.bs, e0.bsz, fun b _ _ => noX b,
      fun b z => absurd z (noX b), e0.funs, e0.frf⟩,
    rfl, e0.bare, Un.kept kp, ⟨_, hns, fun i y v e1 e2 e3 => ?_⟩, fun y c e => ?_, e0.hok.fresh (Nat.le_refl _), fun y c e => ?_, fun q hq => absurd (show q ∈ ([] : List (Addr × Obj)) ++ [] from hq) (by simp), e0.hok.kept kp, I.len⟩
  · have hy : scope.names.lookup y = some .cell ∨ scope.names.lookup y = some .free := hy
    rcases hy with hy | hy
    · exact absurd rfl (L.own _ (PySem.mem_of_lookup hy)).1
    · exact down hy
  · have z : false = true := z
    cases z
  · have e3 : Vis scope y := e3
    have e1 : X.N[i]? = some y := e1
    rcases e3 with k | k | k
    · exact absurd (List.mem_of_getElem? e1) ((L.own _ (PySem.mem_of_lookup k)).2 rfl)
    · exact absurd rfl (L.own _ (PySem.mem_of_lookup k)).1
    · obtain ⟨m, hn, hl⟩ := I.loc
      have vis : Vis X.env.scope y := (L.free _ (PySem.mem_of_lookup k) rfl).elim (fun k => .inr (.inl k)) (fun k => .inr (.inr k))
      obtain ⟨w', r, q⟩ := hl i y v e1 e2 vis
      obtain ⟨c2, h2⟩ := down k
      refine ⟨w', r, .inr ⟨.inr k, c2, h2, ?_⟩⟩
      have c1 := up h2
      rcases q with ⟨k', _⟩ | ⟨_, c3, e', z⟩
      · have k' : X.env.scope.names.lookup y = some .local := k'
        rcases L.free _ (PySem.mem_of_lookup k) rfl with k2 | k2 <;> rw [show X.env.scope.names.lookup y = _ from k2] at k' <;> cases k'
      · rw [c1] at e'
        cases e'
        exact cellK (I.freeC y _ c1) z
  · obtain ⟨w', z⟩ := I.cell y c (up e)
    exact ⟨w', cellK (I.freeC y c (up e)) z⟩
  · obtain ⟨v, o, ho, hd⟩ := I.cell y c (up e)
    exact un.free c o ho (I.freeC y c (up e)) (by simp)
/-- how a lambda called with nothing binds its parameters nm to their defaults ds -/
def LamB (params : Arguments) (nm : List Str) (ds : List Value) : Prop :=
  ∀ (q : Str) (body : Expr) (scope : Scope) (cl : List (Str × Addr)) (dV pm cv ctv : Value) (M : Model) (A : Around) (E : Value → Shared → Prop) (s : Shared) (H : Hp) (fs : List Addr) (Q : List (Str × Value) → Shared → Prop),
    DflAt s.heap H fs dV ds → Q (nm.zip ds) s → wpAny M A (bindArgs (lFn q params body scope cl dV pm cv ctv) ⟨[], []⟩) Q E s
theorem lamB0 {params : Arguments} (h : ∀ (q : Str) (body : Expr) (scope : Scope) (cl : List (Str × Addr)) (pm cv ctv : Value), bindArgs (lFn q params body scope cl .none pm cv ctv) ⟨[], []⟩ = pure []) : LamB params [] [] :=
  fun q body scope cl dV pm cv ctv M A E s H fs Q hd hq => by
    have hd : dV = .none := hd
    rw [hd, h]
    exact wpAny_pure hq
theorem lamB1 {params : Arguments} {a : Str} {d : Value} (h : ∀ (q : Str) (body : Expr) (scope : Scope) (cl : List (Str × Addr)) (T : Addr) (pm cv ctv : Value), ∃ k, bindArgs (lFn q params body scope cl (.ref T) pm cv ctv) ⟨[], []⟩ = seqItems? (.ref T) >>= k ∧ k (some #[d]) = pure [(a, d)]) : LamB params [a] [d] :=
  fun q body scope cl dV pm cv ctv M A E s H fs Q hd hq => by
    obtain ⟨T, o, n, rfl, e2, e3, _⟩ := hd
    obtain ⟨k, e, ek⟩ := h q body scope cl T pm cv ctv
    rw [e]
    refine wpAny_bind (wpAny_seqItems e2 e3 ?_)
    rw [show (some [d].toArray : Option (Array Value)) = some #[d] from rfl, ek]
    exact wpAny_pure hq
/-- x(), in the def that got the lambda: Z is that def's context, entered at s -/
theorem pe_act {CXg : CXT} {Eg : XK} {Ng : List Str} {qg : Str} {sg : Scope} {g f c' : Addr} {cdg pm ctv dV : Value} {ds : List Value} {nm : List Str} {params : Arguments} {body : Expr} {scope : Scope} {k i : Nat} {a : Str} {pn : List (Addr × Obj)} {xe : Value → Shared → Prop} {W : WX} {tb : XK → TE} {p1 p2 : Pos}
    (I : Inv X pins σ H s) (L : LamN X.env.scope scope X.N nm) (hf : s.heap.get? f = some (lObj (X.env.qual ++ "<lambda>") params body scope (cloFrom X.env.cells scope.names []) dV pm (.ref c') ctv)) (hfn : H f = none) (hfr : f ∉ X.env.locals :: X.fs)
    (hbind : LamB params nm ds) (hds : DflAt s.heap H (X.env.locals :: X.fs) dV ds)
    (tk : Takes ((cxOf CXg X.prog X.w X.K X.mg X.base Ng qg sg g cdg X.A X.stack s H Eg).tr pn xe) W) (hr : Room (k + 1) (X.A.deeper (envOfC qg sg s.heap.objs.size g cdg)))
    (hbody : ∀ (A : Around) (outer : List Env) (s : Shared) (H : Hp) (E : XK), Room k (A.deeper (lamEnv X scope s.heap.objs.size f c')) → PE (lamCx X A outer s H E scope f c') body (tb E))
    (hN : Ng[i]? = some a) (hv : Vis sg a) (hd : (a == ("__debug__" : Str)) = false := by decide) (hcd : (a == ("__classdict__" : Str)) = false := by decide) :
    PE ((cxOf CXg X.prog X.w X.K X.mg X.base Ng qg sg g cdg X.A X.stack s H Eg).tr pn xe) (.Call (.Name a p1) [] [] p2)
      (fun σZ HZ Q => σZ[i]? = some (some (.ref f)) ∧ HZ c' = some (CodeO c' (X.env.qual ++ "<lambda>")) ∧ tb (fun cls d H' => W cls d σZ H') σ HZ Q) := by
  have nst : ∀ {b : Addr}, b ∉ X.env.locals :: X.fs → b ∉ frs X.stack := fun {b} h z => h (I.stkSub b z)
  refine ⟨fun pinsZ sZ σZ HZ Q IZ h => ?_⟩
  obtain ⟨hs, hc, ht⟩ := h
  refine wpAny_Call_Name_kw (thn ((pe_var (pos := p1) (i := i) hN hv hd hcd).run pinsZ sZ σZ HZ (fun v H1 => v = .ref f ∧ H1 = HZ) IZ ⟨.ref f, hs, rfl, rfl⟩) fun u s1 ⟨v, H1, I1, r1, q1⟩ => ?_)
  obtain ⟨ev, eH⟩ := q1
  subst ev
  rw [eH] at I1
  obtain rfl : u = Value.ref f := r1
  have keep1 : ∀ {b : Addr} {o : Obj}, s.heap.get? b = some o → H b = none → b ∉ X.env.locals :: X.fs → s1.heap.get? b = some o ∧ HZ b = none := fun {b o} e n nf =>
    ⟨I1.base.keep b _ e n (nst nf) (fun z => nomatch (show b ∈ ([] : List Addr) from z)), I1.base.free b _ e n (fun z => nomatch (show b ∈ ([] : List Addr) from z))⟩
  have of1 := (keep1 hf hfn hfr).1
  have ds1 : DflAt s1.heap HZ (X.env.locals :: X.fs) dV ds := by
    cases ds with
    | nil => exact hds
    | cons d r =>
      obtain ⟨T, o, n, e1, e2, e3, e4, e5⟩ := hds
      exact ⟨T, o, n, e1, (keep1 e2 e4 e5).1, e3, (keep1 e2 e4 e5).2, e5⟩
  refine PySem.W.callWith_F0 ⟨_, _, _, _, of1⟩ ?_
  have un : Un (frs X.stack) [] H HZ s.heap s1.heap := I1.base
  obtain ⟨⟨oc, vs, t, hoc, hdc, hvc⟩, _, _⟩ := I1.hok c' _ hc
  have rc : codeAny (model X.prog X.w) (X.A.deeper (envOfC qg sg s.heap.objs.size g cdg)) (.call (.ref f) ⟨[], []⟩) (CR (L2.CX X.prog X.w) (envOfC qg sg s.heap.objs.size g cdg :: X.stack) X.prog X.w HZ s1 Q fun cls d H' => W cls d σZ H') s1 := by
    refine PySem.W.kla_callFunE hr.depth of1 rfl L.co L.gen rfl ⟨c', oc, vs, t, rfl, hoc, hdc, hvc⟩ ?_
    refine hbind _ _ _ _ _ _ _ _ _ _ _ s1 HZ _ _ ds1 ?_
    refine wpAny_newFunctionEnv (fun y hy => (L.own y hy).1) (fun y hy => L.par _ (List.of_mem_zip (by simpa using hy)).1) (fun h₁ hns hsb => ⟨I1.nolimit.fresh _ hsb, ?_⟩) L.kind
    show codeAny _ _ (.expr body (lamEnv X scope s1.heap.objs.size f c')) _ _
    have kp : ∀ b o, s1.heap.get? b = some o → h₁.get? b = some o := fun b o e => hsb.extBut b o (Nat.ne_of_lt (Heap.lt_size e)) (Heap.get?_push_of_some _ e)
    have J : Inv (lamCx X (X.A.deeper (envOfC qg sg s.heap.objs.size g cdg)) (envOfC qg sg s.heap.objs.size g cdg :: X.stack) s1 HZ (fun cls d H' => W cls d σZ H') scope f c') [] σ HZ { s1 with heap := h₁, toks := s1.toks + (nm.zip ds).length } :=
      lam_start I L I1.env0 hr.hd un hns kp
    refine PySem.W.kla_codeExpr (wpAny_mono ((hbody _ _ s1 HZ _ (hr.deeper _)).run [] _ _ HZ Q J ht) (fun v s' hq => ?_) fun e s' hq => hq)
    obtain ⟨w', H', J', rv, q⟩ := hq
    exact ⟨w', H', J'.os, J'.bare, J'.base, J'.hok, rv, q⟩
  refine wpAny_call (codeAny_mono rc fun r s' hq => ?_)
  cases r with
  | error e => exact tk e s' (XE.of_call I1 (fun _ _ _ h => h) hq)
  | ok fl =>
    cases fl with
    | ret u => exact I1.after hq
    | next => exact False.elim hq
    | brk => exact False.elim hq
    | cont => exact False.elim hq
end
/-- a reading that grows with what is wanted -/
def MonoL (tl : XK → Hp → VK → Prop) : Prop := ∀ (E1 E2 : XK) (H : Hp) (Q1 Q2 : VK), (∀ c d H', E1 c d H' → E2 c d H') → (∀ v H', Q1 v H' → Q2 v H') → tl E1 H Q1 → tl E2 H Q2
/-- the def that calls what it got, beside other values vs; TT: what it makes of the lambda's reading -/
def Gives (X : Cx) (Ng : List Str) (x : Str) (sg : Scope) (g : Addr) (cdg : Value) (bg : List Stmt) (a : Str) (q : Str) (k : Nat) (TT : List V → (XK → Hp → VK → Prop) → Hp → VK → Prop) : Prop :=
  ∀ (f c' : Addr) (vs : List V) (s : Shared) (H : Hp) (Q : VK) (tl : XK → Hp → VK → Prop), Room k (X.A.deeper (envOfC x sg s.heap.objs.size g cdg)) →
    (∀ (W : WX) (pn : List (Addr × Obj)) (xe : Value → Shared → Prop) (p1 p2 : Pos), Takes ((cxOf L2.CX0 X.prog X.w X.K X.mg X.base Ng x sg g cdg X.A X.stack s H fun _ _ _ => False).tr pn xe) W →
      PE ((cxOf L2.CX0 X.prog X.w X.K X.mg X.base Ng x sg g cdg X.A X.stack s H fun _ _ _ => False).tr pn xe) (.Call (.Name a p1) [] [] p2) (fun σZ HZ Q => σZ[0]? = some (some (.ref f)) ∧ HZ c' = some (CodeO c' q) ∧ tl (fun cls d H' => W cls d σZ H') HZ Q)) →
    H c' = some (CodeO c' q) → MonoL tl → TT vs tl H Q →
    ∃ t, PSs (cxOf L2.CX0 X.prog X.w X.K X.mg X.base Ng x sg g cdg X.A X.stack s H fun _ _ _ => False).nox bg t ∧ t { nx := fun _ H' => Q .non H', rt := Q } (L2.start Ng (.ref f :: vs)) H
def tLam2 (T : List (Addr × Str)) (vs : List V) (TT : List V → (XK → Hp → VK → Prop) → Hp → VK → Prop) (t : XK → TE) : TE := fun σ H Q => Tabs T H ∧ ∀ H1, ExtN H H1 → Tabs T H1 → TT vs (fun E H' Q' => t E σ H' Q') H1 Q
section
variable {X : Cx}
/-- x(lambda: body, rest ..), rest written constants -/
theorem pe_lam {T : List (Addr × Str)} {vs : List V} {TT : List V → (XK → Hp → VK → Prop) → Hp → VK → Prop} {x a : Str} {g c P : Addr} {k : Nat} {pg : Arguments} {bg : List Stmt} {sg : Scope} {dV kV doc pm cdv ct oc : Value} {an od : Option Addr} {osl : Array (Option Value)} {Ng ps nm : List Str}
    {params : Arguments} {body : Expr} {rest : List Expr} {tr : TA} {dts : List Int} {scope : Scope} {t : XK → TE} {p lpos pos : Pos} (hg : Gl X x) (hm : X.mg x = some (.ref g)) (hk : PySem.W.keepIn X.K (.ref g) = true)
    (lk : X.K.lookup g = some ⟨oc, od, .func (PySem.W.fnOf x x pg bg sg dV kV doc pm an cdv ct), osl⟩) (hcg : PySem.W.codeIn X.K cdv x = true) (hb : L2.Binds X.K (PySem.W.fnOf x x pg bg sg dV kV doc pm an cdv ct) (a :: ps) []) (Sg : FnScope Ng (a :: ps) sg) (hNg : Ng[0]? = some a) (hva : Vis sg a)
    (hG : Gives X Ng x sg g cdv bg a (X.env.qual ++ "<lambda>") (k + 1) TT)
    (TB : TabB X.base X.mg c P) (hcode : X.env.code = .ref c) (hmT : (P, X.env.qual ++ "<lambda>") ∈ T) (hu : ∀ p ∈ T, p.1 = P → p.2 = X.env.qual ++ "<lambda>") (hr : Room (k + 2) X.A) (L : LamN X.env.scope scope X.N nm)
    (hdef : (dts = [] ∧ defaultsOf params X.env = ([], [])) ∨ ∃ n j dp, dts = [n] ∧ defaultsOf params X.env = ([eval (.Constant (.int n) j dp) X.env], []))
    (hbind : ∀ ds : List Value, Vals (dts.map V.int) ds → LamB params nm ds)
    (hmono : ∀ σ : L2.St, MonoL fun E H' Q' => t E σ H' Q') (hrest : PA X rest tr) (htr : ∀ σ H Q, tr σ H Q = Q vs H) (hvl : vs.length = ps.length)
    (hbody : ∀ (A : Around) (outer : List Env) (s : Shared) (H : Hp) (E : XK) (f c' : Addr), Room k (A.deeper (lamEnv X scope s.heap.objs.size f c')) → PE (lamCx X A outer s H E scope f c') body (t E))
    (he : starEach (.Lambda params body scope lpos :: rest) X.env = (false, eval (.Lambda params body scope lpos) X.env) :: starEach rest X.env := by rfl) (hpl : (backTo pos (starEach rest X.env)).any (·.1) = false := by rfl)
    (hdb : (x == ("__debug__" : Str)) = false := by decide) (hd : (a == ("__debug__" : Str)) = false := by decide) (hcd : (a == ("__classdict__" : Str)) = false := by decide) :
    PE X (.Call (.Name x p) (.Lambda params body scope lpos :: rest) [] pos) (tLam2 T vs TT t) := by
  refine ⟨fun pins s σ H Q I h => ?_⟩
  obtain ⟨hT, h⟩ := h
  refine wpAny_Call_Name_kw (ld_glob I hg hm ?_ hdb)
  refine PySem.W.callWith_K (h₀ := X.base) I.ok.mod.kin hk ?_ he hpl
  rw [he]
  show wpAny _ _ (spliced ((false, eval (.Lambda params body scope lpos) X.env) :: backTo pos (starEach rest X.env))) _ _ s
  -- from the making of the object on
  have go : ∀ (s0 : Shared) (dV : Value) (ds : List Value), Inv X pins σ H s0 → Vals (dts.map V.int) ds → DflAt s0.heap H (X.env.locals :: X.fs) dV ds →
      wpAny (model X.prog X.w) X.A (PySem.makeTail "<lambda>" (X.env.qual ++ "<lambda>") params (.expr body) scope X.env dV .none none lpos lpos.line)
        (fun u s1 => wpAny (model X.prog X.w) X.A (spliced (backTo pos (starEach rest X.env))) (fun us s2 => X.K.In s2.heap ∧ wpAny (model X.prog X.w) X.A (call (.ref g) ([] ++ u :: us)) (EP X pins σ Q) X.xe s2) X.xe s1) X.xe s0 := by
    intro s0 dV ds I0 rd hd0
    refine lam_tail I0 TB hcode hmT hu hT (L.has I0.ok) hd0 fun f c' pm' ctv H1 s' I1 eN T1 hd1 hf hfn hfL hfF hco => ?_
    obtain ⟨pl, hpl1, hpl2⟩ : ∃ pl : List (Addr × Obj), (∀ p ∈ pl, s'.heap.get? p.1 = some p.2 ∧ H1 p.1 = none ∧ p.1 ≠ X.env.locals ∧ p.1 ∉ X.fs ∧ ∀ v, p.2.data ≠ .cell v) ∧ (∀ h2 : Heap, (∀ p ∈ pl, h2.get? p.1 = some p.2) → DflAt h2 H1 (X.env.locals :: X.fs) dV ds) := by
      cases ds with
      | nil => exact ⟨[], (fun p hp => nomatch hp), fun _ _ => hd1⟩
      | cons d r =>
        obtain ⟨Td, o, n, e1, e2, e3, e4, e5⟩ := hd1
        refine ⟨[(Td, o)], fun p hp => ?_, fun h2 k => ⟨Td, o, n, e1, k _ List.mem_cons_self, e3, e4, e5⟩⟩
        obtain rfl : p = (Td, o) := by simpa using hp
        exact ⟨e2, e4, fun z => e5 (by rw [show Td = X.env.locals from z]; exact List.mem_cons_self), fun z => e5 (List.mem_cons_of_mem _ z), fun v z => by
          have z' : o.data = .cell v := z
          rw [e3] at z'
          cases z'⟩
    have J : Inv X (pins ++ ((f, _) :: pl)) σ H1 s' := I1.pins_of (pins' := pins ++ ((f, lObj (X.env.qual ++ "<lambda>") params body scope (cloFrom X.env.cells scope.names []) dV pm' (.ref c') ctv) :: pl)) fun p hp => by
      rcases List.mem_append.mp hp with hp | hp
      · exact I1.pin p (List.mem_append_right _ hp)
      · rcases List.mem_cons.mp hp with e | hp
        · rw [e]
          exact ⟨hf, hfn, hfL, hfF, fun v z => nomatch z⟩
        · exact hpl1 p hp
    refine thn (hrest.run pos _ s' σ H1 (fun vs' H' => vs' = vs ∧ H' = H1) J (by rw [htr]; exact ⟨rfl, rfl⟩)) fun us s2 ⟨vs', H2, I2, r2, e1, e2⟩ => ?_
    subst e1
    rw [e2] at I2
    have hf2 := (I2.pin (f, _) (List.mem_append_right _ (List.mem_append_right _ List.mem_cons_self))).1
    have hd2 : DflAt s2.heap H1 (X.env.locals :: X.fs) dV ds := hpl2 _ fun p hp => (I2.pin p (List.mem_append_right _ (List.mem_append_right _ (List.mem_cons_of_mem _ hp)))).1
    have I3 : Inv X pins σ H1 s2 := I2.unpinned
    refine ⟨I3.kIn, ?_⟩
    have rv : Vals (V.ref f :: vs') (Value.ref f :: us) := .cons rfl r2
    have hlen : (Value.ref f :: us).length = (a :: ps).length := by
      rw [← rv.length, List.length_cons, List.length_cons, hvl]
    have rc : codeAny (model X.prog X.w) X.A (.call (.ref g) ⟨.ref f :: us, []⟩) (CR L2.CX0 X.stack X.prog X.w H1 s2 Q fun _ _ _ => False) s2 := by
      refine run_ofS (N := Ng) (ps := a :: ps) (us := .ref f :: us) (vs := .ref f :: vs') lk hcg Sg hr I3.env0 (by have z := hb s2 (Value.ref f :: us) I3.kIn (by rw [List.append_nil]; exact hlen); rw [List.append_nil] at z; exact z) rv (by rw [List.length_cons, List.length_cons, hvl]) fun hr' => ?_
      obtain ⟨t', ht', hq'⟩ := hG f c' vs' s2 H1 Q (fun E H' Q' => t E σ H' Q') hr' (fun W pn xe p1 p2 tk => pe_act (i := 0) I3 L hf2 hfn (fun z => (List.mem_cons.mp z).elim hfL hfF) (hbind ds rd) hd2 tk hr' (fun A outer s H E hr2 => hbody A outer s H E f c' hr2) hNg hva hd hcd) hco (hmono σ) (h H1 eN T1)
      exact ⟨t', ht'.nox, hq'⟩
    refine wpAny_call (codeAny_mono rc fun r s3 hq => ?_)
    cases r with
    | error e => exact (show False from hq).elim
    | ok fl =>
      cases fl with
      | ret u => exact I3.after hq
      | next => exact False.elim hq
      | brk => exact False.elim hq
      | cont => exact False.elim hq
  refine Calls.spliced_cons ?_
  rw [PySem.arm_eval_Lambda]
  rcases hdef with ⟨rfl, hdef⟩ | ⟨n, j, dp, rfl, hdef⟩
  · rw [hdef]
    refine wpAny_bind (wpAny_pure (wpAny_bind (wpAny_holding (wpAny_pure ?_))))
    rw [PySem.makeFunction_eq]
    simp only [List.zip_nil_right, List.filterMap_nil, List.isEmpty_nil, if_true, pure_bind]
    exact go s .none [] I .nil rfl
  · rw [hdef]
    refine wpAny_bind (m := evalAll [eval (.Constant (.int n) j dp) X.env]) ?_
    unfold evalAll evalAll
    refine wpAny_bind (thn ((pe_int (X := X) (i := n) (j := j) (pos := dp)).run pins s σ H (fun v H' => v = .int n ∧ H' = H) I ⟨rfl, rfl⟩) fun u s1 ⟨v, H1, I1, r1, e1, e2⟩ => ?_)
    subst e1
    rw [e2] at I1
    refine wpAny_bind (wpAny_holding (wpAny_pure (wpAny_pure ?_)))
    refine wpAny_bind (wpAny_holding (wpAny_pure ?_))
    rw [PySem.makeFunction_eq]
    simp only [List.zip_nil_right, List.filterMap_nil, List.isEmpty_nil, List.isEmpty_cons, Bool.false_eq_true, if_true, if_false, pure_bind]
    refine wpAny_bind (wpAny_newTextTuple ?_)
    have sz : s1.heap.objs.size ≤ s1.heap.objs.size := Nat.le_refl _
    refine go _ (.ref s1.heap.objs.size) [u] (I1.kept (t' := s1.toks) fun b o e => Heap.get?_push_of_some _ e) (.cons r1 .nil) ⟨_, _, _, rfl, Heap.get?_push_size _ rfl, rfl, I1.hok.fresh sz, fun z => ?_⟩
    rcases List.mem_cons.mp z with z | z
    · exact Nat.lt_irrefl _ (show s1.heap.objs.size < s1.heap.objs.size by
        have q := I1.lt
        rw [← z] at q
        exact q)
    · exact I1.nofs sz z
end
end OB
/-! What a law draws from: a list of a list of ints, how many draws were made, what is left of a great one. -/
namespace OB
open PySem PySem.Spec PyProof.Rows L2
/-- the lot stands at p, its ints at b; at most n draws were made -/
def Orch (H : Hp) (p b : Addr) (n : Nat) : Prop := ∃ (ns : List Int) (t l : Int), H p = some (.lst [.ref b, .int t, .int l]) ∧ H b = some (.lst (ns.map V.int)) ∧ 0 ≤ t ∧ t ≤ n
theorem Orch.ne {H : Hp} {p b : Addr} {n : Nat} (o : Orch H p b n) : p ≠ b := by
  obtain ⟨ns, t, l, h1, h2, _⟩ := o
  refine ne_of h1 h2 fun z => ?_
  injection z with z
  cases ns with
  | nil => cases z
  | cons a r =>
    injection z with z _
    cases z
theorem Orch.keep {H H' : Hp} {p b : Addr} {n : Nat} (o : Orch H p b n) (hp : ∀ u, H p = some u → H' p = some u) (hb : ∀ u, H b = some u → H' b = some u) : Orch H' p b n := by
  obtain ⟨ns, t, l, h1, h2, h3⟩ := o
  exact ⟨ns, t, l, hp _ h1, hb _ h2, h3⟩
theorem Orch.same {H H' : Hp} {p b : Addr} {n : Nat} (o : Orch H p b n) (s : Same H H') : Orch H' p b n := o.keep (fun u => s p u) fun u => s b u
theorem Orch.mono {H : Hp} {p b : Addr} {n m : Nat} (o : Orch H p b n) (h : n ≤ m) : Orch H p b m := by
  obtain ⟨ns, t, l, h1, h2, h3, h4⟩ := o
  exact ⟨ns, t, l, h1, h2, h3, by omega⟩
theorem Orch.pn {H : Hp} {p b : Addr} {n : Nat} (o : Orch H p b n) : ∃ u, H p = some u := by
  obtain ⟨ns, t, l, h1, h2, h3, h4⟩ := o
  exact ⟨_, h1⟩
theorem Orch.bn {H : Hp} {p b : Addr} {n : Nat} (o : Orch H p b n) : ∃ u, H b = some u := by
  obtain ⟨ns, t, l, h1, h2, h3, h4⟩ := o
  exact ⟨_, h2⟩
/-- all that was tracked is as it was, but what stands at p -/
def But (p : Addr) (H H' : Hp) : Prop := ∀ q o, H q = some o → q ≠ p → H' q = some o
theorem But.refl {p : Addr} {H : Hp} : But p H H := fun _ _ h _ => h
theorem But.of {p : Addr} {H H' : Hp} (s : Same H H') : But p H H' := fun q o h _ => s q o h
theorem But.trans {p : Addr} {H H1 H2 : Hp} (a : But p H H1) (b : But p H1 H2) : But p H H2 := fun q o h n => b q o (a q o h n) n
theorem same_new {H : Hp} {l : Addr} {o : HO} (h : H l = none) : Same H (upd H l o) := fun b u e => by
  rw [upd_ne (ne_of_none e h)]
  exact e
theorem but_at {H : Hp} {p : Addr} {o : HO} : But p H (upd H p o) := fun q u e n => by
  rw [upd_ne n]
  exact e
/-- a draw from many: some number below many; the lot goes on -/
def spDraw : Sp := fun vs H Q _ => ∃ (p b : Addr) (n : Nat) (many : Int), vs = [.ref p, .int many] ∧ Orch H p b n ∧ n < 1000000 ∧ 0 < many ∧ many.natAbs < 2 ^ 9000 ∧
  ∀ (r : Int) (H' : Hp), 0 ≤ r → r < many → Orch H' p b (n + 1) → But p H H' → Q (.int r) H'
/-- the lot is made of a list of ints -/
def spLot (K : PySem.W.Frag) : Sp := fun vs H Q _ => ∃ (a : Addr) (ns : List Int), vs = [.ref a] ∧ SqL K H a (ns.map V.int) ∧ ns.length ≤ 63 ∧
  ∀ (p b : Addr) (H' : Hp), H p = none → H b = none → Orch H' p b 0 → Same H H' → Q (.ref p) H'
theorem mix1 {x t A B m : Int} (hm : 0 < m) (hm2 : m < 2 ^ 31) (ht : 0 ≤ t) (ht2 : t ≤ 1000000) (hA : 0 ≤ A) (hA2 : A ≤ 1000000) (hB : 0 ≤ B) (hB2 : B ≤ 1000000) : (x % m + A * t + B).natAbs < 2 ^ 64 := by
  have h1 := Int.emod_nonneg x (by omega : m ≠ 0)
  have h2 := Int.emod_lt_of_pos x hm
  have h3 : A * t ≤ 1000000 * 1000000 := Int.mul_le_mul hA2 ht2 ht (by decide)
  have h4 : 0 ≤ A * t := Int.mul_nonneg hA ht
  omega
theorem mix2 {x t A B C m : Int} (hm : 0 < m) (hm2 : m < 2 ^ 31) (ht : 0 ≤ t) (ht2 : t ≤ 1000000) (hA : 0 ≤ A) (hA2 : A ≤ 1000000) (hB : 0 ≤ B) (hB2 : B ≤ 1000000) (hC : 0 ≤ C) (hC2 : C ≤ 1000000) : (x % m * (2 * t + C) + A * t * t + B).natAbs < 2 ^ 64 := by
  have h1 := Int.emod_nonneg x (by omega : m ≠ 0)
  have h2 := Int.emod_lt_of_pos x hm
  have h3 : A * t ≤ 1000000 * 1000000 := Int.mul_le_mul hA2 ht2 ht (by decide)
  have h4 : 0 ≤ A * t := Int.mul_nonneg hA ht
  have h5 : A * t * t ≤ 1000000 * 1000000 * 1000000 := Int.mul_le_mul h3 ht2 ht (by decide)
  have h6 : 0 ≤ A * t * t := Int.mul_nonneg h4 ht
  have h7 : x % m * (2 * t + C) ≤ 2 ^ 31 * 3000000 := Int.mul_le_mul (by omega) (by omega) (by omega) (by decide)
  have h8 : 0 ≤ x % m * (2 * t + C) := Int.mul_nonneg h1 (by omega)
  omega
theorem mod_lim {x m : Int} (hm : 0 < m) (hm2 : m < 2 ^ 31) : -(2 ^ 64) < x % m ∧ x % m < 2 ^ 64 := by
  have h1 := Int.emod_nonneg x (by omega : m ≠ 0)
  have h2 := Int.emod_lt_of_pos x hm
  omega
theorem dp_ints {K : PySem.W.Frag} {H : Hp} : ∀ ns : List Int, DpAll K H (ns.map V.int) (ns.map PyData.int)
  | [] => .nil
  | n :: r => .cons (.int n) (dp_ints r)
theorem lay_ints : ∀ ns : List Int, PyData.canLayAll0 (ns.map PyData.int) = true
  | [] => by simp [PyData.canLayAll0]
  | n :: r => by simp [PyData.canLayAll0, PyData.canLay0, lay_ints r]
theorem deep_ints : ∀ ns : List Int, PyData.depthAll (ns.map PyData.int) ≤ 1
  | [] => by simp [PyData.depthAll]
  | n :: r => by
    have h := deep_ints r
    simp [PyData.depthAll, PyData.depth]
    omega
theorem shaped_ints (ns : List Int) : SeqAt.shaped (.list (ns.map PyData.int)) = true := by
  have h := deep_ints ns
  unfold SeqAt.shaped
  rw [Bool.and_eq_true]
  refine ⟨by simp [PyData.canLay0, lay_ints], decide_eq_true ?_⟩
  simp [PyData.depth]
  omega
theorem eqv_nil (ns : List Int) : PyData.eqv (.list (ns.map PyData.int)) (.list []) = decide (ns = []) := by
  cases ns with
  | nil => simp [PyData.eqv, PyData.eqvAll]
  | cons n r => simp [PyData.eqv, PyData.eqvAll]

/-! ### kinds of values: is it an integer -/
/-- x is of a kind of which isinstance(x, int) and not isinstance(x, bool) is b -/
def IsI (K : PySem.W.Frag) (H : Hp) (x : V) (b : Bool) : Prop := ∃ (n : String) (b1 b2 : Bool), TyX K H x (.type n) ∧ kitB n "int" = some b1 ∧ kitB n "bool" = some b2 ∧ b = (b1 && !b2)
section
variable {K : PySem.W.Frag} {H : Hp}
theorem isI_int (i : Int) : IsI K H (.int i) true := ⟨"int", true, false, .base (.int i), by decide +kernel, by decide +kernel, rfl⟩
theorem isI_non : IsI K H .non false := ⟨"NoneType", false, false, .base .non, by decide +kernel, by decide +kernel, rfl⟩
theorem isI_bl (b : Bool) : IsI K H (.bl b) false := ⟨"bool", true, true, .base (.bl b), by decide +kernel, by decide +kernel, rfl⟩
theorem isI_str (x : Str) : IsI K H (.str x) false := ⟨"str", false, false, .base (.str x), by decide +kernel, by decide +kernel, rfl⟩
theorem isI_lst {a : Addr} {xs : List V} (e : H a = some (.lst xs)) : IsI K H (.ref a) false := ⟨"list", false, false, .base (.lst e), by decide +kernel, by decide +kernel, rfl⟩
theorem isI_tup {a : Addr} {xs : List V} (e : H a = some (.tup xs)) : IsI K H (.ref a) false := ⟨"tuple", false, false, .base (.tup e), by decide +kernel, by decide +kernel, rfl⟩
theorem isI_dK {a : Addr} {kvs : List (Key × V)} (e : H a = some (.dK kvs)) : IsI K H (.ref a) false := ⟨"dict", false, false, .base (.dK e), by decide +kernel, by decide +kernel, rfl⟩
theorem isI_true {x : V} (h : IsI K H x true) : ∃ i, x = .int i := by
  obtain ⟨n, b1, b2, ty, e1, e2, e3⟩ := h
  have c1 : b1 = true := by
    cases b1
    · simp at e3
    · rfl
  have c2 : b2 = false := by
    cases b2
    · rfl
    · simp [c1] at e3
  subst c1 c2
  have no : ∀ {m : String}, kitB m "int" ≠ some true ∨ kitB m "bool" ≠ some false → n = m → False := fun h e => by
    subst e
    exact h.elim (fun z => z e1) fun z => z e2
  cases ty with
  | base h =>
    cases h with
    | int i => exact ⟨i, rfl⟩
    | non => exact (no (m := "NoneType") (.inl (by decide +kernel)) rfl).elim
    | bl b => exact (no (m := "bool") (.inr (by decide +kernel)) rfl).elim
    | str b => exact (no (m := "str") (.inl (by decide +kernel)) rfl).elim
    | flt b => exact (no (m := "float") (.inl (by decide +kernel)) rfl).elim
    | lst e => exact (no (m := "list") (.inl (by decide +kernel)) rfl).elim
    | frz e => exact (no (m := "list") (.inl (by decide +kernel)) rfl).elim
    | tup e => exact (no (m := "tuple") (.inl (by decide +kernel)) rfl).elim
    | dK e => exact (no (m := "dict") (.inl (by decide +kernel)) rfl).elim
    | dT e => exact (no (m := "dict") (.inl (by decide +kernel)) rfl).elim
  | byt b => exact (no (m := "bytes") (.inl (by decide +kernel)) rfl).elim
  | set e => exact (no (m := "set") (.inl (by decide +kernel)) rfl).elim
  | kList e c => exact (no (m := "list") (.inl (by decide +kernel)) rfl).elim
  | kTuple e c => exact (no (m := "tuple") (.inl (by decide +kernel)) rfl).elim
  | kDict e c => exact (no (m := "dict") (.inl (by decide +kernel)) rfl).elim
  | fTuple e => exact (no (m := "tuple") (.inl (by decide +kernel)) rfl).elim
  | fDict e => exact (no (m := "dict") (.inl (by decide +kernel)) rfl).elim
end
/-- a bound: an int or none -/
def oV : Option Int → V
  | none => .non
  | some i => .int i
def loOk (lo : Option Int) (i : Int) : Bool := match lo with
  | none => true
  | some l => decide (l ≤ i)
def hiOk (hi : Option Int) (i : Int) : Bool := match hi with
  | none => true
  | some h => decide (i ≤ h)
/-- an int within bounds -/
def inB (lo hi : Option Int) : V → Bool
  | .int i => loOk lo i && hiOk hi i
  | _ => false
def spIsInt (K : PySem.W.Frag) : Sp := fun vs H Q _ => ∃ (x : V) (b : Bool), vs = [x] ∧ IsI K H x b ∧ Q (.bl b) H
def spWithin (K : PySem.W.Frag) : Sp := fun vs H Q _ => ∃ (x : V) (lo hi : Option Int) (b : Bool), vs = [x, oV lo, oV hi] ∧ IsI K H x b ∧ Q (.bl (b && inB lo hi x)) H
/-- what raises the error at C, with its part, else returns None -/
def RaisesP (C : Addr) (part : Str) (E : XK) (H : Hp) : Prop := ∀ d, H d = none → E (.ref C) (some d) (upd H d (.xd [(("part" : Str), .str part)]))
def spNeedNumber (K : PySem.W.Frag) (C : Addr) : Sp := fun vs H Q E => ∃ (x : V) (part : Str) (lo hi : Option Int) (b : Bool), vs = [x, .str part, oV lo, oV hi] ∧ IsI K H x b ∧
  ((b && inB lo hi x) = true → Q .non H) ∧ ((b && inB lo hi x) = false → RaisesP C part E H)
def spNeedWord (K : PySem.W.Frag) (C : Addr) : Sp := fun vs H Q E => ∃ (x : V) (part : Str) (b : Bool), vs = [x, .str part] ∧ IsI K H x b ∧
  ((b && inB (some 0) none x) = true → Q .non H) ∧ ((b && inB (some 0) none x) = false → RaisesP C part E H)
/-- where nothing is raised the promise holds among calm ones -/
theorem calm_of {P : Program} {w : World} {K : PySem.W.Frag} {mg : Str → Option Value} {base : Heap} {k : Nat} {f : Addr} {fd : FuncData} {ps : List Str} {sp : Sp} (F : FnOk P w K mg base (L2.CX P w) k f fd ps sp) :
    FnOk P w K mg base CX0 k f fd ps (fun vs H Q _ => sp vs H Q fun _ _ _ => False) :=
  ⟨fun vs H Q E h => F.len vs H Q _ h, fun A outer s H args us vs Q E hr he hb hv hs => codeAny_mono (F.run A outer s H args us vs Q _ hr he hb hv hs) fun r s' hq => by
    cases r with
    | error e =>
      obtain ⟨_, _, _, _, _, _, _, _, _, _, _, _, z⟩ := hq
      exact z.elim
    | ok fl => cases fl <;> exact hq⟩
theorem iteB {b : Bool} {A B : Prop} (h1 : b = true → A) (h2 : b = false → B) : if b = true then A else B := by
  cases b with
  | true => exact iteT (h1 rfl)
  | false => exact iteF (h2 rfl)
end OB
/-! Own errors with one field, raised. -/
namespace OB
open PySem PySem.Spec PyProof.Rows L2
/-- a def of the text, as it stands behind the top -/
structure Df (K : PySem.W.Frag) (mg : Str → Option Value) (x : Str) (st : Stmt) (ps : List Str) (f : Addr) (fd : FuncData) : Prop where
  F : Fun K x x st f fd
  g : mg x = some (.ref f)
  b : Binds K fd ps []
/-- __init__(self, f): self.f = f of an own error -/
def spInit1 (K : PySem.W.Frag) (f : Str) : Sp := fun vs H Q _ => ∃ (a C : Addr) (v : V), vs = [.ref a, v] ∧ OexC K C ∧ PySem.W.findIn K (.ref C) f = some none ∧ H a = some (exo a C none) ∧
  ∀ dx, H dx = none → dx ≠ a → Q .non (upd (upd H dx (exd dx [(f, v)])) a (exo a C (some dx)))
section
variable {P : Program} {w : World} {K : PySem.W.Frag} {mg : Str → Option Value} {base : Heap}
theorem ok_init1 {qual : Str} {st : Stmt} {fI : Addr} {fd : FuncData} {f : Str} {p1 p2 p3 p4 : Pos} (F : Fun K "__init__" qual st fI fd) (S : FnScope ["self", f] ["self", f] (defScope st))
    (hb : defBody st = [.Assign [.Attribute (.Name "self" p1) f p2] (.Name f p3) p4])
    (hv : Vis (defScope st) f) (hs : Vis (defScope st) "self") (hd : (f == ("__debug__" : Str)) = false := by decide) (hcd : (f == ("__classdict__" : Str)) = false := by decide)
    (hsw : ∀ env : Env, swapsWith (.Name f p3) (some (.Attribute (.Name "self" p1) f p2)) p4.line env = pure false := by intro _; rfl) :
    FnOk P w K mg base CX0 1 fI fd ["self", f] (spInit1 K f) := by
  refine F.ok S (fun vs H Q E h => ?_) (fun cdv A outer s H vs Q E hr h => ?_)
  · obtain ⟨a, C, v, rfl, _⟩ := h
    rfl
  · obtain ⟨a, C, v, rfl, T, no, ha, k⟩ := h
    rw [hb]
    refine ⟨_, pss_one (ps_ost (pe_var (i := 0) rfl hs) (pe_var (i := 1) rfl hv hd hcd) (hsw _)), ?_⟩
    exact ⟨v, rfl, .ref a, rfl, a, C, rfl, T, no, .inl ⟨ha, fun dx n ne => k dx n ne⟩⟩
/-- an own error class with one field, as the top leaves it -/
structure Err (P : Program) (w : World) (K : PySem.W.Frag) (mg : Str → Option Value) (base : Heap) (x f : Str) (C fI : Addr) (fd : FuncData) : Prop where
  T : OexC K C
  iC : PySem.W.findIn K (.ref C) "__init__" = some (some (.ref fI))
  tI : PySem.W.typeIn K (.ref fI) = some (.type "function")
  F : FnOk P w K mg base CX0 1 fI fd ["self", f] (spInit1 K f)
  b : Binds K fd ["self", f] []
  g : mg x = some (.ref C)
  no : PySem.W.findIn K (.ref C) f = some none
theorem del_back {H : Hp} {a d : Addr} {o1 o2 o3 o4 : HO} (ha : H a = none) (n : d ≠ a) : upd (del (upd (upd (upd H a o1) d o2) a o3) a) d o4 = upd H d o4 := by
  funext b
  by_cases e : b = d
  · rw [e, upd_same, upd_same]
  · rw [upd_ne e, upd_ne e]
    by_cases e2 : b = a
    · rw [e2, del_same, ha]
    · rw [del_ne e2, upd_ne e2, upd_ne e, upd_ne e2]
end
/-- raise X(e) -/
def tRaise1 (K : PySem.W.Frag) (C : Addr) (f : Str) (W : WX) (te : TE) : TS := fun _ σ H => tMkO C (spInit1 K f) [] (tCons te tNil) σ H fun cls d H' => W cls d σ H'
theorem raise1_of {K : PySem.W.Frag} {C : Addr} {f : Str} {W : WX} {σ : L2.St} {H1 : Hp} {v : V} (T : OexC K C) (no : PySem.W.findIn K (.ref C) f = some none) (h : ∀ d, H1 d = none → W (.ref C) (some d) σ (upd H1 d (.xd [(f, v)]))) :
    tNil σ H1 fun xs H2 => (v :: xs).length ≤ 1000 ∧ ∀ a, H2 a = none → spInit1 K f (.ref a :: ((v :: xs) ++ [])) (upd H2 a (exo a C none))
      (fun u H3 => u = .non ∧ ∃ (d : Addr) (fs : List (Str × V)), H3 a = some (exo a C (some d)) ∧ H3 d = some (exd d fs) ∧ H2 d = none ∧ W (.ref C) (some d) σ (upd (del H3 a) d (.xd fs))) (fun _ _ _ => False) := by
  refine ⟨by show 1 ≤ 1000; decide, fun a ha => ⟨a, C, v, rfl, T, no, upd_same, fun dx nd ne => ?_⟩⟩
  rw [upd_ne ne] at nd
  refine ⟨rfl, dx, [(f, v)], upd_same, ?_, nd, ?_⟩
  · rw [upd_ne ne, upd_same]
  · rw [del_back ha ne]
    exact h dx nd
theorem ps_raise1 {X : Cx} {W : WX} {x f : Str} {C fI : Addr} {fd : FuncData} {e : Expr} {te : TE} {p p2 pos : Pos} (hc : X.calm = true) (tk : Takes X W) (R : Err X.prog X.w X.K X.mg X.base x f C fI fd) (hr : Room 2 X.A) (hg : Gl X x) (he : PE X e te)
    (hx : Passes CX0 X (fun _ _ _ => False) := by exact pass0) (hs : starEach [e] X.env = [(false, eval e X.env)] := by rfl) (hdb : (x == ("__debug__" : Str)) = false := by decide) :
    PS X (.Raise (some (.Call (.Name x p) [e] [] p2)) none pos) (tRaise1 X.K C f W te) :=
  ps_raise (pos := pos) hc tk (pmk_oex (p := p) (pos := p2) R.T R.iC R.tI R.F hr R.b .nil hx hg R.g (pa_cons he pa_nil hs) hdb hs)
section
variable {X : Cx}
/-- 1 << k -/
theorem op_oneN : OpR X (binaryOp .LShift) (fun x y H Q => ∃ k : Nat, x = .int 1 ∧ y = .int (k : Int) ∧ k ≤ 1000000 ∧ Q (.int ((2 ^ k : Nat) : Int)) H) := by
  intro pins s σ H x y v u Q I rx ry h
  obtain ⟨k, rfl, rfl, c, q⟩ := h
  refine op_shl pins s σ H _ _ v u Q I rx ry ⟨_, _, rfl, rfl, ⟨Int.natCast_nonneg _, by omega, by decide⟩, ?_⟩
  have e : (1 : Int) * 2 ^ ((k : Int)).toNat = ((2 ^ k : Nat) : Int) := by
    rw [Int.one_mul, Int.toNat_natCast, Int.natCast_pow]
    rfl
  show Q (.int ((1 : Int) * 2 ^ ((k : Int)).toNat)) H
  rw [e]
  exact q
end
theorem pow_lt9 {i : Nat} (h : i ≤ 8000) : ((2 ^ i : Nat) : Int).natAbs < 2 ^ 9000 := by
  rw [Int.natAbs_natCast]
  exact Nat.pow_lt_pow_right (by decide) (by omega)
section
variable {X : Cx} {CX : CXT} {k : Nat} {f : Addr} {fd : FuncData} {ps ks : List Str} {sp : Sp} {E : XK} {x : Str} {p pos : Pos} {kws : List Keyword} {tk : TA} {g : List Value → List Value → List Value} {gV : List V → List V → List V}
/-- f(k = v, ..): keywords alone -/
theorem pe_callKo (F : FnOk X.prog X.w X.K X.mg X.base CX k f fd ps sp) (hr : Room k X.A) (hg : Gl X x) (hm : X.mg x = some (.ref f)) (hk : PySem.W.keepIn X.K (.ref f) = true) (hb : KBinds X.K fd ps ks g gV) (hx : Passes CX X E)
    (hkw : PK X kws tk) (hall : (backToKw pos (keywordEach kws X.env)).all (·.1.isSome) = true := by rfl) (hks : (backToKw pos (keywordEach kws X.env)).filterMap (·.1) = ks := by rfl)
    (hdb : (x == ("__debug__" : Str)) = false := by decide)
    (hpl : ((backTo pos (starEach [] X.env)).any (·.1) || (backToKw pos (keywordEach kws X.env)).any (·.1.isNone)) = false := by rfl) :
    PE X (.Call (.Name x p) [] kws pos) (tCallK sp gV E tNil tk) := by
  refine ⟨fun pins s σ H Q I h => ?_⟩
  refine wpAny_Call_Name_kw (ld_glob I hg hm ?_ hdb)
  refine PySem.W.callWith_KW0 (h₀ := X.base) I.ok.mod.kin hk hall ?_ hpl
  refine thn (hkw.run pos pins s σ H _ I h) fun ws s2 ⟨zs, H2, I2, rz, q2⟩ => ⟨I2.kIn, ?_⟩
  rw [hks]
  exact run_fnk (us := []) F hr hb hx I2 .nil rz q2
end
/-- how the keywords of a def without defaults bind -/
theorem kbinds {K : PySem.W.Frag} {x qual : Str} {st : Stmt} {f : Addr} {fd : FuncData} {ps ks : List Str} {g : List Value → List Value → List Value} {gV : List V → List V → List V} (F : Fun K x qual st f fd)
    (h : ∀ (kV doc pm : Value) (an : Option Addr) (cdv ct : Value) (us ws : List Value), (g us ws).length = ps.length → bindArgs (PySem.W.fnOf x qual (defArgs st) (defBody st) (defScope st) .none kV doc pm an cdv ct) ⟨us, ks.zip ws⟩ = pure (ps.zip (g us ws)))
    (r : ∀ {vs : List V} {us : List Value} {zs : List V} {ws : List Value}, Vals vs us → Vals zs ws → Vals (gV vs zs) (g us ws)) : KBinds K fd ps ks g gV := by
  obtain ⟨oc, od, kV, doc, pm, an, cdv, ct, osl, rfl, lk, hcd⟩ := F.ex
  exact ⟨fun s us ws _ hl => .of_eq (h kV doc pm an cdv ct us ws hl), r⟩
theorem inB_nat (m : Nat) : inB (some 0) none (.int (m : Int)) = true := by
  show (decide ((0 : Int) ≤ (m : Int)) && true) = true
  rw [decide_eq_true (Int.natCast_nonneg m)]
  rfl
/-- isinstance asks by the table of classes -/
theorem kit_sub {K : PySem.W.Frag} {t : Value} {C : Addr} {b : Bool} (h1 : PySem.W.isClsIn K C = true) (h2 : PySem.W.typeIn K (.ref C) = some (.type "type")) (self : PySem.W.subIn K (.ref C) (.ref C) = some true) (h : PySem.W.subIn K t (.ref C) = some b) :
    PySem.W.kitOne K t (.ref C) = some b := by
  unfold PySem.W.kitOne
  by_cases e : (t == Value.ref C) = true
  · rw [if_pos e]
    have e2 : t = Value.ref C := beq_iff_eq.mp e
    subst e2
    rw [self] at h
    exact h
  · rw [if_neg e]
    have h1' : (PySem.W.clsIn K C).isSome = true := h1
    show (if ((PySem.W.clsIn K C).isSome && PySem.W.typeIn K (.ref C) == some (.type "type")) = true then PySem.W.subIn K t (.ref C) else none) = some b
    rw [h1', h2]
    exact h
end OB
/-! len(set(x)) of a list or a tuple of ints, doubles among them. -/
namespace OB
open PySem PySem.Spec PyProof.Rows L2
theorem sub_len {α : Type} [DecidableEq α] : ∀ {l1 l2 : List α}, l1.Nodup → (∀ x ∈ l1, x ∈ l2) → l1.length ≤ l2.length
  | [], l2, _, _ => Nat.zero_le _
  | a :: r, l2, h, s => by
    have h2 := List.nodup_cons.mp h
    have ha : a ∈ l2 := s a List.mem_cons_self
    have ih := sub_len (l1 := r) (l2 := l2.erase a) h2.2 fun x hx => by
      have ne : x ≠ a := fun z => h2.1 (z ▸ hx)
      exact (List.mem_erase_of_ne ne).mpr (s x (List.mem_cons_of_mem _ hx))
    rw [List.length_erase_of_mem ha] at ih
    have pos : 0 < l2.length := List.length_pos_of_mem ha
    rw [List.length_cons]
    omega
theorem nodup_of_sub {α : Type} [DecidableEq α] : ∀ {l1 l2 : List α}, l1.Nodup → (∀ x ∈ l1, x ∈ l2) → l2.length ≤ l1.length → l2.Nodup
  | [], l2, _, _, hl => by
    have e : l2 = [] := List.length_eq_zero_iff.mp (Nat.le_zero.mp hl)
    rw [e]
    exact List.nodup_nil
  | a :: r, l2, h, s, hl => by
    have h2 := List.nodup_cons.mp h
    have ha : a ∈ l2 := s a List.mem_cons_self
    have hs : ∀ x ∈ r, x ∈ l2.erase a := fun x hx => by
      have ne : x ≠ a := fun z => h2.1 (z ▸ hx)
      exact (List.mem_erase_of_ne ne).mpr (s x (List.mem_cons_of_mem _ hx))
    have le := List.length_erase_of_mem ha
    have pos : 0 < l2.length := List.length_pos_of_mem ha
    rw [List.length_cons] at hl
    have ih := nodup_of_sub (l1 := r) (l2 := l2.erase a) h2.2 hs (by omega)
    have na : a ∉ l2.erase a := fun z => by
      have q := sub_len (l1 := a :: r) (l2 := l2.erase a) h fun x hx => by
        rcases List.mem_cons.mp hx with e | e
        · rw [e]
          exact z
        · exact hs x e
      rw [List.length_cons] at q
      omega
    exact ((List.perm_cons_erase ha).nodup_iff).mpr (List.nodup_cons.mpr ⟨na, ih⟩)
theorem same_len {α : Type} [DecidableEq α] {l1 l2 : List α} (h : l1.Nodup) (s : ∀ x, x ∈ l1 ↔ x ∈ l2) : l1.length ≤ l2.length ∧ (l1.length = l2.length ↔ l2.Nodup) := by
  have a := sub_len h fun x hx => (s x).mp hx
  refine ⟨a, fun e => nodup_of_sub h (fun x hx => (s x).mp hx) (by omega), fun e => ?_⟩
  have b := sub_len e fun x hx => (s x).mpr hx
  omega
theorem fm_nodup (val : Nat → Int) : ∀ i, (PyProof.Rows.firstMet val i).Nodup
  | 0 => List.nodup_nil
  | i + 1 => by
    rw [PyProof.Rows.firstMet_succ]
    have ih := fm_nodup val i
    show (if (PyProof.Rows.firstMet val i).any (· == val i) then PyProof.Rows.firstMet val i else PyProof.Rows.firstMet val i ++ [val i]).Nodup
    split
    · exact ih
    · rename_i h
      refine List.nodup_append.mpr ⟨ih, List.nodup_cons.mpr ⟨List.not_mem_nil, List.nodup_nil⟩, fun x hx y hy e => h ?_⟩
      rw [List.mem_singleton] at hy
      subst hy
      exact List.any_eq_true.mpr ⟨x, hx, by rw [e]; exact beq_self_eq_true _⟩
theorem fm_mem (ns : List Int) (x : Int) : x ∈ PyProof.Rows.firstMet (fun i => ns.getD i 0) ns.length ↔ x ∈ ns := by
  have e := PyProof.Rows.firstMet_any (fun i => ns.getD i 0) ns.length x
  have e2 : (List.range ns.length).map (fun i => ns.getD i 0) = ns := by
    apply List.ext_getElem
    · simp
    · intro i h1 h2
      simp [List.getD_eq_getElem?_getD, h2]
  rw [e2] at e
  have m : ∀ l : List Int, (l.any (· == x)) = true ↔ x ∈ l := fun l => by
    rw [List.any_eq_true]
    exact ⟨fun ⟨y, hy, ey⟩ => (eq_of_beq ey) ▸ hy, fun h => ⟨x, h, beq_self_eq_true _⟩⟩
  rw [← m, ← m, e]
/-- how many unlike ints -/
def tLenSet (K : PySem.W.Frag) (ta : TE) : TE := fun σ H Q => ta σ H fun x H1 => ∃ (p : Addr) (ns : List Int), x = .ref p ∧ (SqL K H1 p (ns.map V.int) ∨ SqT K H1 p (ns.map V.int)) ∧ ns.length ≤ 1100 ∧
  ∀ c : Nat, c ≤ ns.length → (c = ns.length ↔ ns.Nodup) → Q (.int (c : Nat)) H1
theorem pe_lenSet2 {X : Cx} {a : Expr} {ta : TE} {p p2 q pos : Pos} (hg : Gl X "len") (hm : X.mg "len" = none) (hg2 : Gl X "set") (hm2 : X.mg "set" = none) (ha : PE X a ta) (hc : X.calm = true := by rfl)
    (na : starEach [a] X.env = (false, eval a X.env) :: starEach [] X.env := by rfl) : PE X (.Call (.Name "len" p) [.Call (.Name "set" p2) [a] [] q] [] pos) (tLenSet X.K ta) := by
  refine ⟨fun pins s σ H Q I h => ?_⟩
  refine Call_ (ld_blt I hg hm boot_len ?_)
  refine PyProof.Rows.callWith_builtin1 (PyProof.Rows.args_cons ?_ rfl) rfl rfl
  refine Call_ (ld_blt I hg2 hm2 boot_set ?_)
  refine PyProof.Rows.callWith_type1 (PyProof.Rows.args_cons (thn (ha.run pins s σ H _ I h) fun v s1 ⟨x, H1, I1, r1, q1⟩ => PyProof.Rows.args_nil ?_) na) na rfl
  obtain ⟨l, ns, rfl, hq, hl, q1⟩ := q1
  cases r1
  rcases hq with hq | hq
  · obtain ⟨its, r, pl, hz⟩ := I1.list hq
    have hlen : its.toArray.size = ns.length := by rw [List.size_toArray, ← r.length, List.length_map]
    refine PySem.call_set_list (I1.ok.hd hc) pl.isList (ns := ns) (by simpa using RZ.intsAre_vals r) (by rw [hlen]; unfold scanBound; omega) fun h' tk hS hk => ?_
    refine PyProof.Rows.args_nil ?_
    rw [hlen] at hS
    have sl := same_len (fm_nodup (fun i => ns.getD i 0) ns.length) (fm_mem ns)
    obtain ⟨o, es, ep, t, ho, hex, hd, _, _, _, hf, hn⟩ := hS
    have I2 : Inv X pins σ H1 { s1 with heap := h', toks := tk } := I1.kept fun b o e => hk b o (Heap.lt_size e) e
    have q2 := q1 es.size (by rw [hn]; exact sl.1) (by rw [hn]; exact sl.2)
    exact call_len_set ho hex hd hf (by have := sl.1; omega) ⟨.int es.size, H1, I2.tok _, ⟨_, rfl⟩, q2⟩
  · obtain ⟨its, r, pt, hz⟩ := I1.tuple hq
    have hi : IntsAre its.toArray.toList ns := ints_of_vals r
    refine call_set_tupI ns (I1.ok.hd hc) (show s1.heap.IsTuple l its.toArray from pt) hi (by unfold scanBound; omega) fun h' tk c R1 hcn k => ?_
    refine PyProof.Rows.args_nil ?_
    obtain ⟨o, es, ep, t, ho, hex, hd, hgood, hnd, hmem, _, hf, hn, _⟩ := R1
    have I2 : Inv X pins σ H1 { s1 with heap := h', toks := tk } := I1.kept fun b o e => k b o e
    have sl := same_len (l2 := ns) hnd fun x => (by
      have z := (hmem x).symm
      simpa using z)
    rw [List.length_map, Array.length_toList] at sl
    have q2 := q1 es.size sl.1 sl.2
    exact call_len_set ho hex hd hf (by have := sl.1; omega) ⟨.int es.size, H1, I2.tok _, ⟨_, rfl⟩, q2⟩
end OB
set_option maxHeartbeats 4000000
/-! sorted(x) of a list or a tuple of ints. -/
namespace OB
open PySem PySem.Spec PyProof.Rows L2 SrtO
section
variable {prog : Program} {w : World} {A : Around} {E : Value → Shared → Prop} {s : Shared}
theorem collect_tup {l : Addr} {vs : List Value} {Q : List Value → Shared → Prop} (ht : IsTup s.heap l vs.toArray)
    (h : Q vs { s with heap := (s.heap.push (seqObj "list" #[] 0)).update s.heap.objs.size (Obj.mapSeq (· ++ vs.toArray)) }) (hz : vs.length ≤ sizeLine) :
    wpAny (model prog w) A (collect (.ref l)) Q E s := by
  obtain ⟨o, ho, hc, n, hd⟩ := id ht
  unfold collect
  refine wpAny_bind (wpAny_runValue (codeAny_builtin entry_proto_collect' ?_))
  show wpAny _ _ (do again (.builtin "list.__iadd__" ⟨[← newList [], .ref l], []⟩)) _ _ s
  refine wpAny_bind (wpAny_newList (wpAny_pure ⟨Code.quiet_builtin _ (by decide +kernel), codeAny_builtin entry_list_iadd' ?_⟩))
  show wpAny _ _ (Builtin.List.listExtendWith (.ref s.heap.objs.size) (.ref l) (.ref s.heap.objs.size)) _ _ { s with heap := s.heap.push (seqObj "list" #[] 0) }
  unfold Builtin.List.listExtendWith
  have o1 : (s.heap.push (seqObj "list" #[] 0)).get? l = some o := Heap.get?_push_of_some _ ho
  refine wpAny_bind (wpAny_typeOf (T := "tuple") ⟨o, o1, hc⟩ ?_)
  rw [if_pos (show (Builtin.List.listSameRef (Value.ref s.heap.objs.size) (Value.ref l) || Value.type "tuple" == Value.type "list" || Value.type "tuple" == Value.type "tuple") = true by
    rw [show (Value.type "tuple" == Value.type "tuple") = true from rfl, Bool.or_true])]
  refine wpAny_bind (listItems_at o1 hd (wpAny_bind (listItems_at (xs := #[]) (n := 0) (Heap.get?_push_size _ rfl) rfl ?_)))
  have room : ((#[] : Array Value) ++ vs.toArray).size ≤ sizeLine + 1 := by
    rw [Array.size_append, List.size_toArray, List.size_toArray, List.length_nil]
    omega
  rw [if_neg (show ¬ (!(#[] : Array Value).isEmpty && Builtin.List.listTooLong ((#[] : Array Value).size + vs.toArray.size)) = true from fun z => by
    have z : (false && _) = true := z
    rw [Bool.false_and] at z
    cases z)]
  refine wpAny_bind (listUpdate_at (xs := #[]) (n := 0) (Heap.get?_push_size _ rfl) rfl (wpAny_pure ?_) (Nat.zero_le _) room)
  refine wpAny_bind (wpAny_load (get?_update_seq (Heap.get?_push_size _ rfl) _) (wpAny_pure ?_))
  have e : ((#[] : Array Value) ++ vs.toArray).toList = vs := by simp
  rw [e]
  exact h
theorem sorted_tup {l : Addr} {vs : List Value} {ltv : Value → Value → Bool} {Q : Value → Shared → Prop} (O : Swo ltv) (ht : IsTup s.heap l vs.toArray) (hz : vs.length ≤ sizeLine)
    (hS : 2 ≤ vs.length → ∀ (h₁ : Heap) (a : Addr), h₁.get? a = some (seqObj "list" vs.toArray 0) → (∀ b o, s.heap.get? b = some o → b ≠ a ∧ h₁.get? b = some o) → SortableO prog w A.in1.in1 { s with heap := h₁ } a vs ltv)
    (h : ∀ out : List Value, Srtd ltv out → Stb ltv out vs → Q (.ref (s.heap.objs.size + 1)) { s with heap := sortedAll s.heap vs out.toArray }) :
    wpAny (model prog w) A (call (.builtin "sorted") [.ref l]) Q E s := by
  generalize hg : (s.heap.push (seqObj "list" #[] 0)).update s.heap.objs.size (Obj.mapSeq (· ++ vs.toArray)) = g
  have size : g.objs.size = s.heap.objs.size + 1 := by
    rw [← hg, Heap.size_update, Heap.size_push]
  have old : ∀ b o, s.heap.get? b = some o → g.get? b = some o := fun b o q => by
    rw [← hg, Heap.get?_update_ne _ _ _ _ (Nat.ne_of_lt (Heap.lt_size q))]
    exact Heap.get?_push_of_some _ q
  have new : (g.push (seqObj "list" vs.toArray 0)).get? (s.heap.objs.size + 1) = some (seqObj "list" vs.toArray 0) := by
    rw [← size]
    exact Heap.get?_push_size _ rfl
  refine Calls.call_function_entry kind_sorted plain_sorted entry_sorted (args_sorted1 _) ?_
  unfold Builtin.«sorted»
  refine wpAny_bind (m := checkCount "sorted" 1 1 _) (wpAny_pure (wpAny_bind (collect_tup ht ?_ hz)))
  rw [hg]
  refine wpAny_bind (wpAny_newList ?_ hz)
  show wpAny _ _ _ _ _ { s with heap := g.push (seqObj "list" vs.toArray 0) }
  rw [size]
  refine wpAny_bind (wpAny_holding (wpAny_call_entry slot_list_sort ⟨_, new, rfl⟩ entry_list_sort (list_sort_ord O new hz (fun h2 => hS h2 _ _ new fun b o q => ?_) fun out hs hb => ⟨_, rfl, wpAny_pure ⟨_, rfl, ?_⟩⟩) (args_list_sort _)))
  · exact ⟨Nat.ne_of_lt (Nat.lt_succ_of_lt (Heap.lt_size q)), Heap.get?_push_of_some _ (old b o q)⟩
  · rw [← hg]
    exact h out hs hb
end
section
variable {X : Cx}
def rSortedA (K : PySem.W.Frag) : List V → Hp → VK → Prop := fun vs H Q => ∃ (a : Addr) (ns : List Int), vs = [V.ref a] ∧ (SqL K H a (ns.map V.int) ∨ SqT K H a (ns.map V.int)) ∧
  ∀ (ns' : List Int) (p : Addr), ns'.Perm ns → ns'.Pairwise (· ≤ ·) → H p = none → Q (.ref p) (upd H p (.lst (ns'.map V.int)))
theorem cr_sortedA : CallR X (.builtin "sorted") (rSortedA X.K) := by
  intro pins s σ H vs us Q I r h
  obtain ⟨a, ns, rfl, hs, q⟩ := h
  rcases hs with hs | ht
  · exact cr_sortedI pins s σ H _ us Q I r ⟨a, ns, rfl, hs, q⟩
  · obtain ⟨its, rv, hl, hz⟩ := I.tuple ht
    rw [Vals.ref1 r]
    have hi := rv.ints
    refine sorted_tup swo_int hl (by rw [← rv.length]; exact hz) (fun h2 h₁ a' _ _ => ints_sortable hi h2) fun out h1 h2 => ?_
    obtain ⟨k1, k2, k3⟩ := ints_out hi h1 h2
    obtain ⟨ep, at'⟩ := PyProof.Rows.sortedAll_at s.heap its out.toArray
    have hlen : ((out.map iv).map V.int).length ≤ sizeLine := by
      rw [List.length_map] at hz ⊢
      rw [k2.length_eq]
      exact hz
    exact ⟨.ref _, upd H (s.heap.objs.size + 1) (.lst ((out.map iv).map V.int)), I.laid (t' := s.toks) (fun _ _ => PyProof.Rows.sortedAll_old) (Nat.le_succ _) ⟨hlen, out, ep, vals_of_ints k1, at'⟩, rfl, q _ _ k2 k3 (I.hok.fresh (Nat.le_succ _))⟩
end
end OB
/-! A list or a tuple: gone through, asked for its kind. -/
namespace OB
open PySem PySem.Spec PyProof.Rows L2
theorem sqL_same {K : PySem.W.Frag} {H H' : Hp} {a : Addr} {xs : List V} (h : SqL K H a xs) (s : Same H H') : SqL K H' a xs := by
  rcases h with (h | ⟨o, h⟩) | h
  · exact .inl (.inl (s _ _ h))
  · exact .inl (.inr ⟨o, s _ _ h⟩)
  · exact .inr h
theorem sqT_same {K : PySem.W.Frag} {H H' : Hp} {a : Addr} {xs : List V} (h : SqT K H a xs) (s : Same H H') : SqT K H' a xs := by
  rcases h with (h | ⟨o, h⟩) | h
  · exact .inl (.inl (s _ _ h))
  · exact .inl (.inr ⟨o, s _ _ h⟩)
  · exact .inr h
def iSeqA (K : PySem.W.Frag) (te : TE) : TI := fun σ H R => te σ H fun x H1 => ∃ a, x = .ref a ∧ (((∃ xs, SqL K H1 a xs) ∧ R (Itl K a) H1) ∨ ((∃ xs, SqT K H1 a xs) ∧ R (Itt K a) H1))
theorem pi_seqA {X : Cx} {tg e : Expr} {te : TE} (he : PE X e te) : PI X tg e (iSeqA X.K te) := by
  refine ⟨fun pins s σ H R I h => thn (he.run pins s σ H _ I h) fun v s1 ⟨x, H1, I1, r1, a, ex, q⟩ => ?_⟩
  subst ex
  cases r1
  rcases q with ⟨⟨xs, hq⟩, q⟩ | ⟨⟨xs, hq⟩, q⟩
  · obtain ⟨its, rv, p, hz⟩ := I1.list hq
    exact wpAny_pyIter_list p.isList (pi_one (tk := s1.toks) I1 _ (turn_list a _) ⟨_, Heap.get?_push_size _ rfl, rfl, rfl⟩ q)
  · obtain ⟨its, rv, p, hz⟩ := I1.tuple hq
    exact wpAny_pyIter_tuple (show s1.heap.IsTuple a its.toArray from p) (pi_one (tk := s1.toks) I1 _ (turn_tuple a _) ⟨_, Heap.get?_push_size _ rfl, rfl, rfl⟩ q)
/-- a row over it, a list or a tuple: Pv by the new list, the turn and the heap -/
theorem lc_seqA {K : PySem.W.Frag} {a : Addr} {xs : List V} {g : TG} {tt : TT} {te : TE} {vs : List Nat} {σ : L2.St} {H1 : Hp} {Qd : Addr → Hp → Prop} (h : SqL K H1 a xs ∨ SqT K H1 a xs) (Pv : Addr → Nat → Hp → Prop)
    (h0 : ∀ D, H1 D = none → Pv D 0 (upd H1 D (.lst []))) (keep : ∀ D i H, H1 D = none → i ≤ xs.length → Pv D i H → Same H1 H)
    (hs : ∀ D i x H, H1 D = none → xs[i]? = some x → Pv D i H → g x (wipe σ vs) H fun σ2 H2 => wipe σ2 vs = wipe σ vs ∧ tt σ2 H2 fun b H3 =>
      if b = true then te σ2 H3 fun y H4 => ∃ acc, H4 D = some (.lst acc) ∧ acc.length < sizeLine ∧ Pv D (i + 1) (upd H4 D (.lst (acc ++ [y]))) else Pv D (i + 1) H3) (hd : ∀ D H, H1 D = none → Pv D xs.length H → Qd D H) :
    ((∃ ys, SqL K H1 a ys) ∧ ∀ D, H1 D = none → ∃ W : Nat → Nat → Hp → Prop, (∃ m, W 0 m (upd H1 D (.lst []))) ∧ ∀ i m H, W i m H →
      ((Itl K a).stop i H ∧ Qd D H) ∨ ((Itl K a).go i H ∧ ∃ Nx : Hp → Prop, (∀ H', Nx H' → ∃ m', m' < m ∧ W (i + 1) m' H') ∧ ∀ x H', (Itl K a).yld i H x H' → g x (wipe σ vs) H' fun σ2 H2 => wipe σ2 vs = wipe σ vs ∧ tt σ2 H2 fun b H3 =>
        if b = true then te σ2 H3 fun y H4 => ∃ acc, H4 D = some (.lst acc) ∧ acc.length < sizeLine ∧ Nx (upd H4 D (.lst (acc ++ [y]))) else Nx H3)) ∨
    ((∃ ys, SqT K H1 a ys) ∧ ∀ D, H1 D = none → ∃ W : Nat → Nat → Hp → Prop, (∃ m, W 0 m (upd H1 D (.lst []))) ∧ ∀ i m H, W i m H →
      ((Itt K a).stop i H ∧ Qd D H) ∨ ((Itt K a).go i H ∧ ∃ Nx : Hp → Prop, (∀ H', Nx H' → ∃ m', m' < m ∧ W (i + 1) m' H') ∧ ∀ x H', (Itt K a).yld i H x H' → g x (wipe σ vs) H' fun σ2 H2 => wipe σ2 vs = wipe σ vs ∧ tt σ2 H2 fun b H3 =>
        if b = true then te σ2 H3 fun y H4 => ∃ acc, H4 D = some (.lst acc) ∧ acc.length < sizeLine ∧ Nx (upd H4 D (.lst (acc ++ [y]))) else Nx H3)) := by
  rcases h with h | h
  · exact .inl ⟨⟨xs, h⟩, fun D hD => lc_list (Pv D) (h0 D hD) (fun i H hi p => sqL_same h (keep D i H hD hi p)) (fun i x H hx p => hs D i x H hD hx p) fun H p => hd D H hD p⟩
  · exact .inr ⟨⟨xs, h⟩, fun D hD => lc_tup (Pv D) (h0 D hD) (fun i H hi p => sqT_same h (keep D i H hD hi p)) (fun i x H hx p => hs D i x H hD hx p) fun H p => hd D H hD p⟩
/-- whether a value is a list or a tuple -/
def IsL (K : PySem.W.Frag) (H : Hp) (x : V) (b : Bool) : Prop := ∃ (n : String) (b1 b2 : Bool), TyX K H x (.type n) ∧ kitB n "list" = some b1 ∧ kitB n "tuple" = some b2 ∧ b = (b1 || b2)
theorem isL_any {K : PySem.W.Frag} {H : Hp} {x : V} {b : Bool} (h : IsL K H x b) : ∃ t, TyX K H x t ∧ PySem.W.kitAny K t [.type "list", .type "tuple"] = some b := by
  obtain ⟨n, b1, b2, ty, e1, e2, rfl⟩ := h
  refine ⟨_, ty, kitAny_cons (kit_ty e1) (fun z => kitAny_cons (kit_ty e2) (fun z2 => ?_) fun z2 => ?_) fun z => ?_⟩
  · rw [z, z2]
    exact kitAny_nil
  · rw [z, z2]
    rfl
  · rw [z]
    rfl
section
variable {K : PySem.W.Frag} {H : Hp}
theorem isL_int (i : Int) : IsL K H (.int i) false := ⟨"int", false, false, .base (.int i), by decide +kernel, by decide +kernel, rfl⟩
theorem isL_non : IsL K H .non false := ⟨"NoneType", false, false, .base .non, by decide +kernel, by decide +kernel, rfl⟩
theorem isL_bl (b : Bool) : IsL K H (.bl b) false := ⟨"bool", false, false, .base (.bl b), by decide +kernel, by decide +kernel, rfl⟩
theorem isL_str (x : Str) : IsL K H (.str x) false := ⟨"str", false, false, .base (.str x), by decide +kernel, by decide +kernel, rfl⟩
theorem isL_dK {a : Addr} {kvs : List (Key × V)} (e : H a = some (.dK kvs)) : IsL K H (.ref a) false := ⟨"dict", false, false, .base (.dK e), by decide +kernel, by decide +kernel, rfl⟩
theorem isL_lst {a : Addr} {xs : List V} (e : H a = some (.lst xs)) : IsL K H (.ref a) true := ⟨"list", true, false, .base (.lst e), by decide +kernel, by decide +kernel, rfl⟩
theorem isL_tup {a : Addr} {xs : List V} (e : H a = some (.tup xs)) : IsL K H (.ref a) true := ⟨"tuple", false, true, .base (.tup e), by decide +kernel, by decide +kernel, rfl⟩
end
end OB
/-! Promises of defs where it is known that no repr is under way: there repr of a list or a tuple is its text. -/
namespace OB
open PySem PySem.Spec PyProof.Rows L2 LamX
/-- what FnOk promises, asked only where no repr is under way -/
structure FnG (P : Program) (w : World) (K : PySem.W.Frag) (mg : Str → Option Value) (base : Heap) (CX : CXT) (k : Nat) (f : Addr) (fd : FuncData) (ps : List Str) (sp : Sp) : Prop where
  len : ∀ vs H Q E, sp vs H Q E → vs.length = ps.length
  run : ∀ (A : Around) (outer : List Env) (s : Shared) (H : Hp) (args : Args) (us : List Value) (vs : List V) (Q : VK) (E : XK), A.guards = some [] → Room k A → Env0 P w K mg base A outer s H → BindsTo s fd args (ps.zip us) → Vals vs us → sp vs H Q E →
    codeAny (model P w) A (.call (.ref f) args) (CR CX outer P w H s Q E) s
section
variable {P : Program} {w : World} {K : PySem.W.Frag} {mg : Str → Option Value} {base : Heap} {CX : CXT} {k : Nat} {f : Addr} {fd : FuncData} {ps : List Str} {sp : Sp}
theorem FnG.of (F : FnOk P w K mg base CX k f fd ps sp) : FnG P w K mg base CX k f fd ps sp := ⟨F.len, fun A outer s H args us vs Q E _ => F.run A outer s H args us vs Q E⟩
theorem fnG_of {name qual : Str} {params : Arguments} {body : List Stmt} {scope : Scope} {dV kV doc pm cdv ct oc : Value} {an od : Option Addr} {osl : Array (Option Value)} {N : List Str}
    (lk : K.lookup f = some ⟨oc, od, .func (PySem.W.fnOf name qual params body scope dV kV doc pm an cdv ct), osl⟩) (hcd : PySem.W.codeIn K cdv qual = true) (S : FnScope N ps scope) (len : ∀ vs H Q E, sp vs H Q E → vs.length = ps.length)
    (hbody : ∀ (A : Around) (outer : List Env) (s : Shared) (H : Hp) (vs : List V) (Q : VK) (E : XK), A.guards = some [] → Room k (A.deeper (envOfC qual scope s.heap.objs.size f cdv)) → sp vs H Q E →
      ∃ t, PSs (cxOf CX P w K mg base N qual scope f cdv A outer s H E) body t ∧ t { nx := fun _ H' => Q .non H', rt := Q } (L2.start N vs) H) :
    FnG P w K mg base CX (k + 1) f (PySem.W.fnOf name qual params body scope dV kV doc pm an cdv ct) ps sp :=
  ⟨len, fun A outer s H args us vs Q E hgd hr e0 hb r hsp => run_ofS lk hcd S hr e0 hb r (len _ _ _ _ hsp) fun hr' => hbody A outer s H vs Q E hgd hr' hsp⟩
theorem okG {x qual : Str} {st : Stmt} {N : List Str} (F : Fun K x qual st f fd) (S : FnScope N ps (defScope st)) (len : ∀ vs H Q E, sp vs H Q E → vs.length = ps.length)
    (hbody : ∀ (cdv : Value) (A : Around) (outer : List Env) (s : Shared) (H : Hp) (vs : List V) (Q : VK) (E : XK), A.guards = some [] → Room k (A.deeper (envOfC qual (defScope st) s.heap.objs.size f cdv)) → sp vs H Q E →
      ∃ t, PSs (cxOf CX0 P w K mg base N qual (defScope st) f cdv A outer s H E).nox (defBody st) t ∧ t { nx := fun _ H' => Q .non H', rt := Q } (L2.start N vs) H) : FnG P w K mg base CX0 (k + 1) f fd ps sp := by
  obtain ⟨oc, od, kV, doc, pm, an, cdv, ct, osl, rfl, lk, hcd⟩ := F.ex
  refine fnG_of lk hcd S len fun A outer s H vs Q E hgd hr hsp => ?_
  obtain ⟨t, h, q⟩ := hbody cdv A outer s H vs Q E hgd hr hsp
  exact ⟨t, h.nox, q⟩
end
section
variable {X : Cx} {CX : CXT} {k : Nat} {f : Addr} {fd : FuncData} {ps : List Str} {sp : Sp} {E : XK} {x : Str} {p pos : Pos} {e : Expr} {es : List Expr} {t : TA} {ds : List Value} {dvs : List V}
theorem run_fnG {pins : List (Addr × Obj)} {σ : L2.St} {H : Hp} {s : Shared} {Q : VK} {us : List Value} {vs : List V} (F : FnG X.prog X.w X.K X.mg X.base CX k f fd ps sp) (hgd : X.A.guards = some []) (hr : Room k X.A) (hb : L2.Binds X.K fd ps ds) (hd : Vals dvs ds) (hx : Passes CX X E)
    (I : Inv X pins σ H s) (r : Vals vs us) (h : sp (vs ++ dvs) H Q E) : wpAny (model X.prog X.w) X.A (call (.ref f) us) (EP X pins σ Q) X.xe s := by
  have r2 : Vals (vs ++ dvs) (us ++ ds) := r.append hd
  have hl : (us ++ ds).length = ps.length := r2.length ▸ F.len _ _ _ _ h
  refine wpAny_call (codeAny_mono (F.run X.A X.stack s H ⟨us, []⟩ (us ++ ds) (vs ++ dvs) Q E hgd hr I.env0 (hb s us I.kIn hl) r2 h) fun res s' hq => ?_)
  match res, hq with
  | .error _, hq => exact hx pins σ H s _ s' I hq
  | .ok (.ret _), hq => exact I.after hq
/-- f(e, ..), f promised where no repr is under way -/
theorem pe_callG (F : FnG X.prog X.w X.K X.mg X.base CX k f fd ps sp) (hgd : X.A.guards = some []) (hr : Room k X.A) (hg : Gl X x) (hm : X.mg x = some (.ref f)) (hk : PySem.W.keepIn X.K (.ref f) = true) (hb : L2.Binds X.K fd ps ds) (hd : Vals dvs ds) (hx : Passes CX X E)
    (ha : PA X (e :: es) t) (hdb : (x == ("__debug__" : Str)) = false := by decide) (he : starEach (e :: es) X.env = (false, eval e X.env) :: starEach es X.env := by rfl) (hpl : (backTo pos (starEach es X.env)).any (·.1) = false := by rfl) :
    PE X (.Call (.Name x p) (e :: es) [] pos) (tCall sp dvs E t) :=
  ⟨fun pins s σ H Q I h => wpAny_Call_Name_kw (ld_glob I hg hm (PySem.W.callWith_K (h₀ := X.base) I.ok.mod.kin hk (thn (ha.run pos pins s σ H _ I h) fun us s1 ⟨vs, H1, I1, r, q⟩ => ⟨I1.kIn, run_fnG F hgd hr hb hd hx I1 r q⟩) he hpl) hdb)⟩
/-- repr(x), x data of lists and tuples -/
def rReprD (K : PySem.W.Frag) : List V → Hp → VK → Prop := fun xs H Q => ∃ (a : Addr) (d : PyData), xs = [.ref a] ∧ Dp K H (.ref a) d ∧ d.showable = true ∧ d.canLay0 = true ∧ d.depth ≤ 60 ∧ d.shown.length ≤ sizeLine ∧ Q (.str d.shown) H
theorem call_reprD (hgd : X.A.guards = some []) (hu : X.A.units + 64 < cLine) : CallR X (.builtin "repr") (rReprD X.K) := by
  intro pins s σ H xs us Q I r h
  obtain ⟨a, d, rfl, hd, hs, hl, hdp, hz, q⟩ := h
  cases r with
  | cons r rr =>
    cases rr
    obtain ⟨as, rd⟩ := Dp.reads I d _ _ hd r
    cases r
    refine repr_of_reads' rd hs (PyData.noDict_hsm (PyData.hasDict_of_canLay d hl)) hgd (by omega) (fun _ _ e => e) (fun h' u tk hk => ?_) hz
    exact ⟨.str d.shown, H, I.kept hk, ⟨_, rfl⟩, q⟩
end
end OB
/-! repr of a list or a tuple of ints. -/
namespace OB
open PySem PySem.Spec PyProof.Rows L2
theorem shown_ints : ∀ ns : List Int, PyData.shownAll (ns.map PyData.int) = ns.map fun n => Str.ofString (toString n)
  | [] => by simp [PyData.shownAll]
  | n :: r => by simp [PyData.shownAll, PyData.shown, shown_ints r]
theorem show_ints : ∀ ns : List Int, (∀ n ∈ ns, n.natAbs.log2 < 1920) → PyData.showableAll (ns.map PyData.int) = true
  | [], _ => by simp [PyData.showableAll]
  | n :: r, h => by
    have h1 := h n List.mem_cons_self
    have h2 := show_ints r fun x hx => h x (List.mem_cons_of_mem _ hx)
    simp [PyData.showableAll, PyData.showable, h2, h1]
theorem piled_ints : ∀ ns : List Int, (∀ n ∈ ns, n.natAbs.log2 < 1920) → piled (ns.map fun n => Str.ofString (toString n)) ≤ 1923 * ns.length
  | [], _ => Nat.zero_le _
  | n :: r, h => by
    have h1 := int_text_len_1921 (h n List.mem_cons_self)
    have h2 := piled_ints r fun x hx => h x (List.mem_cons_of_mem _ hx)
    rw [List.map_cons, piled_cons, List.length_cons]
    omega
theorem list_len (ts : List Str) : (listText ts).length ≤ piled ts + 2 := by
  have one : (("[" : String) : Str).length = 1 := rfl
  have two : (("]" : String) : Str).length = 1 := rfl
  unfold listText
  rw [strLen_append, two]
  cases ts with
  | nil =>
    show (("[" : String) : Str).length + 1 ≤ _
    rw [one]
    exact Nat.le_add_left _ _
  | cons t r =>
    show (textFrom 1 ((("[" : String) : Str) ++ t) r).length + 1 ≤ _
    rw [textFrom_length_pos r 1 _ (by decide), strLen_append, one, piled_cons]
    omega
theorem depth_ints (ns : List Int) : PyData.depthAll (ns.map PyData.int) ≤ 1 := deep_ints ns
/-- the text of a list, of a tuple of ints -/
def tl (ns : List Int) : Str := PyData.shown (.list (ns.map PyData.int))
def tt (ns : List Int) : Str := PyData.shown (.tuple (ns.map PyData.int))
theorem tl_len {ns : List Int} (h : ∀ n ∈ ns, n.natAbs.log2 < 1920) (hl : ns.length ≤ 1000) : (tl ns).length ≤ sizeLine := by
  have a := piled_ints ns h
  have b := list_len (ns.map fun n => Str.ofString (toString n))
  show (listText (PyData.shownAll (ns.map PyData.int))).length ≤ sizeLine
  rw [shown_ints, sizeLine_eq]
  omega
theorem tt_len {ns : List Int} (h : ∀ n ∈ ns, n.natAbs.log2 < 1920) (hl : ns.length ≤ 1000) : (tt ns).length ≤ sizeLine := by
  have a := piled_ints ns h
  have b := fmt_text (ns.map fun n => Str.ofString (toString n))
  show (tupleText (PyData.shownAll (ns.map PyData.int))).length ≤ sizeLine
  rw [shown_ints, sizeLine_eq]
  omega
section
variable {X : Cx}
def rReprI (K : PySem.W.Frag) : List V → Hp → VK → Prop := fun xs H Q => ∃ (a : Addr) (ns : List Int), xs = [.ref a] ∧ (∀ n ∈ ns, n.natAbs.log2 < 1920) ∧ ns.length ≤ 1000 ∧ ((SqL K H a (ns.map V.int) ∧ Q (.str (tl ns)) H) ∨ (SqT K H a (ns.map V.int) ∧ Q (.str (tt ns)) H))
theorem call_reprI (hgd : X.A.guards = some []) (hu : X.A.units + 64 < cLine) : CallR X (.builtin "repr") (rReprI X.K) := by
  intro pins s σ H xs us Q I r h
  obtain ⟨a, ns, rfl, hs, hl, q⟩ := h
  have sh := show_ints ns hs
  have d := depth_ints ns
  rcases q with ⟨hq, q⟩ | ⟨hq, q⟩
  · refine call_reprD hgd hu pins s σ H _ us Q I r ⟨a, .list (ns.map PyData.int), rfl, Dp.lst hq (dp_ints ns), by simp [PyData.showable, sh], by simp [PyData.canLay0, lay_ints], ?_, tl_len hs hl, q⟩
    show PyData.depthAll (ns.map PyData.int) + 1 ≤ 60
    omega
  · refine call_reprD hgd hu pins s σ H _ us Q I r ⟨a, .tuple (ns.map PyData.int), rfl, Dp.tup hq (dp_ints ns), by simp [PyData.showable, sh], by simp [PyData.canLay0, lay_ints], ?_, tt_len hs hl, q⟩
    show PyData.depthAll (ns.map PyData.int) + 1 ≤ 60
    omega
end
end OB
/-! What a reader of errors told, call by call, in a list that grows; things that stay meanwhile. -/
namespace OB
open PySem PySem.Spec PyProof.Rows L2 LamX
/-- a list that begins with a reference, or a table: what may change -/
def refL : HO → Bool
  | .lst (.ref _ :: _) => true
  | .tbl _ => true
  | _ => false
def Keep (H H' : Hp) : Prop := ∀ q o, H q = some o → refL o = false → H' q = some o
section
variable {H H' H1 H2 : Hp}
theorem Keep.refl : Keep H H := fun _ _ h _ => h
theorem Keep.trans (a : Keep H H1) (b : Keep H1 H2) : Keep H H2 := fun q o h n => b q o (a q o h n) n
theorem Keep.ext (e : ExtN H H') : Keep H H' := fun q o h n => e q o h fun ps z => by
  subst z
  cases n
theorem Keep.same (s : Same H H') : Keep H H' := fun q o h _ => s q o h
theorem Keep.but {p : Addr} (b : But p H H') (hp : ∃ x r, H p = some (.lst (.ref x :: r))) : Keep H H' := fun q o h n => b q o h fun z => by
  obtain ⟨x, r, hp⟩ := hp
  rw [z, hp] at h
  cases h
  cases n
theorem orch_ref {p b : Addr} {n : Nat} (o : Orch H p b n) : ∃ x r, H p = some (.lst (.ref x :: r)) := by
  obtain ⟨ns, t, l, h1, _⟩ := o
  exact ⟨_, _, h1⟩
theorem orch_extN {p b : Addr} {n : Nat} (o : Orch H p b n) (e : ExtN H H') : Orch H' p b n := by
  obtain ⟨ns, t, l, h1, h2, h3⟩ := o
  exact ⟨ns, t, l, e _ _ h1 (fun _ z => nomatch z), e _ _ h2 (fun _ z => nomatch z), h3⟩
theorem tabs_butN {T : List (Addr × Str)} {p : Addr} {xs : List V} (t : Tabs T H) (b : But p H H') (hp : H p = some (.lst xs)) : Tabs T H' := fun x hx => by
  obtain ⟨ps, h1, h2, h3⟩ := t x hx
  have n1 : x.1 ≠ p := fun z => by
    rw [z, hp] at h1
    cases h1
  refine ⟨ps, b _ _ h1 n1, h2, fun pos cv hc => ?_⟩
  obtain ⟨c, e1, e2⟩ := h3 pos cv hc
  have n2 : c ≠ p := fun z => by
    rw [z, hp] at e2
    have e2 := Option.some.inj e2
    cases e2
  exact ⟨c, e1, b _ _ e2 n2⟩
theorem tabs_orchN {T : List (Addr × Str)} {p b : Addr} {n : Nat} (t : Tabs T H) (B : But p H H') (o : Orch H p b n) : Tabs T H' := by
  obtain ⟨ns, x, y, hp, _⟩ := o
  exact tabs_butN t B hp
/-- things that stay -/
def Fix (A : List (Addr × HO)) (H : Hp) : Prop := ∀ a ∈ A, H a.1 = some a.2 ∧ refL a.2 = false
theorem Fix.nil : Fix [] H := fun a h => absurd h List.not_mem_nil
theorem Fix.cons {A : List (Addr × HO)} {a : Addr} {o : HO} (h : H a = some o) (n : refL o = false) (f : Fix A H) : Fix ((a, o) :: A) H := fun x hx => by
  rcases List.mem_cons.mp hx with e | e
  · rw [e]
    exact ⟨h, n⟩
  · exact f x e
theorem Fix.keep {A : List (Addr × HO)} (f : Fix A H) (k : Keep H H') : Fix A H' := fun a ha => ⟨k _ _ (f a ha).1 (f a ha).2, (f a ha).2⟩
theorem Fix.get {A : List (Addr × HO)} (f : Fix A H) {a : Addr} {o : HO} (h : (a, o) ∈ A) : H a = some o := (f _ h).1
theorem Fix.app {A B : List (Addr × HO)} (f : Fix A H) (g : Fix B H) : Fix (A ++ B) H := fun a ha => by
  rcases List.mem_append.mp ha with e | e
  · exact f a e
  · exact g a e
/-- what the reader told: a kind and a part, or None -/
def Ent (H : Hp) (v : V) : Option (Str × Str) → Prop
  | none => v = .non
  | some k => ∃ t, v = .ref t ∧ H t = some (.tup [.str k.1, .str k.2])
def Res (H : Hp) : List V → List (Option (Str × Str)) → Prop
  | [], [] => True
  | v :: r, k :: ks => Ent H v k ∧ Res H r ks
  | _, _ => False
theorem Ent.keep {v : V} {k : Option (Str × Str)} (e : Ent H v k) (q : Keep H H') : Ent H' v k := by
  cases k with
  | none => exact e
  | some k =>
    obtain ⟨t, rfl, h⟩ := e
    exact ⟨t, rfl, q _ _ h rfl⟩
theorem Res.keep (q : Keep H H') : ∀ {vs : List V} {ks : List (Option (Str × Str))}, Res H vs ks → Res H' vs ks
  | [], [], _ => trivial
  | _ :: _, _ :: _, ⟨a, b⟩ => ⟨a.keep q, Res.keep q b⟩
theorem Res.snoc {v : V} {k : Option (Str × Str)} (e : Ent H v k) : ∀ {vs : List V} {ks : List (Option (Str × Str))}, Res H vs ks → Res H (vs ++ [v]) (ks ++ [k])
  | [], [], _ => ⟨e, trivial⟩
  | _ :: _, _ :: _, ⟨a, b⟩ => ⟨a, Res.snoc e b⟩
theorem Res.length : ∀ {vs : List V} {ks : List (Option (Str × Str))}, Res H vs ks → vs.length = ks.length
  | [], [], _ => rfl
  | _ :: _, _ :: _, ⟨_, b⟩ => congrArg (· + 1) (Res.length b)
def entD : Option (Str × Str) → PyData
  | none => .none
  | some k => .tuple [.str k.1, .str k.2]
theorem Ent.dp {K : PySem.W.Frag} {v : V} {k : Option (Str × Str)} (e : Ent H v k) : Dp K H v (entD k) := by
  cases k with
  | none =>
    have e : v = .non := e
    rw [e]
    exact .non
  | some k =>
    obtain ⟨t, rfl, h⟩ := e
    exact Dp.tup (SqT.of h) (.cons (.str _) (.cons (.str _) .nil))
theorem Res.dp {K : PySem.W.Frag} : ∀ {vs : List V} {ks : List (Option (Str × Str))}, Res H vs ks → DpAll K H vs (ks.map entD)
  | [], [], _ => .nil
  | _ :: _, _ :: _, ⟨a, b⟩ => .cons a.dp (Res.dp b)
/-- between two calls of the reader -/
structure St (T : List (Addr × Str)) (p b h : Addr) (A : List (Addr × HO)) (n : Nat) (H : Hp) (vs : List V) (ks : List (Option (Str × Str))) : Prop where
  tabs : Tabs T H
  orch : Orch H p b n
  at' : H h = some (.lst vs)
  hp : h ≠ p
  hb : h ≠ b
  fix : Fix A H
  res : Res H vs ks
  first : ∃ x r, vs = .ref x :: r
variable {T : List (Addr × Str)} {p b h : Addr} {A : List (Addr × HO)} {n m : Nat} {vs : List V} {ks : List (Option (Str × Str))}
theorem St.ext (s : St T p b h A n H vs ks) (e : ExtN H H') (t : Tabs T H') : St T p b h A n H' vs ks :=
  ⟨t, orch_extN s.orch e, e _ _ s.at' (fun _ z => nomatch z), s.hp, s.hb, s.fix.keep (.ext e), s.res.keep (.ext e), s.first⟩
theorem St.but (s : St T p b h A n H vs ks) (B : But p H H') (O : Orch H' p b m) : St T p b h A m H' vs ks :=
  ⟨tabs_orchN s.tabs B s.orch, O, B _ _ s.at' s.hp, s.hp, s.hb, s.fix.keep (.but B (orch_ref s.orch)), s.res.keep (.but B (orch_ref s.orch)), s.first⟩
theorem St.add {v : V} {k : Option (Str × Str)} (s : St T p b h A n H vs ks) (e : Ent H v k) : St T p b h A n (upd H h (.lst (vs ++ [v]))) (vs ++ [v]) (ks ++ [k]) := by
  obtain ⟨x, r, ev⟩ := s.first
  have B : But h H (upd H h (.lst (vs ++ [v]))) := but_at
  have kp : Keep H (upd H h (.lst (vs ++ [v]))) := .but B ⟨x, r, by rw [s.at', ev]⟩
  refine ⟨tabs_butN s.tabs B s.at', s.orch.keep (fun u hu => B _ _ hu (fun z => s.hp z.symm)) (fun u hu => B _ _ hu (fun z => s.hb z.symm)), upd_same, s.hp, s.hb, s.fix.keep kp, (s.res.keep kp).snoc (e.keep kp), x, r ++ [v], by rw [ev]; rfl⟩
theorem St.begin {t h : Addr} {k : Str × Str} (hT : Tabs T H) (O : Orch H p b n) (F : Fix A H) (e : Ent H (.ref t) (some k)) (hh : H h = none) : St T p b h A n (upd H h (.lst [.ref t])) [.ref t] [some k] := by
  have S := same_new (o := .lst [.ref t]) hh
  obtain ⟨u, hu⟩ := O.pn
  obtain ⟨u2, hu2⟩ := O.bn
  exact ⟨hT.ext S, O.same S, upd_same, (ne_of_none hu hh).symm, (ne_of_none hu2 hh).symm, F.keep (.same S), ⟨e.keep (.same S), trivial⟩, t, [], rfl⟩
end
end OB
/-! The law's own call, its promise asked only where no repr is under way. -/
namespace OB
open PySem PySem.Spec PyProof.Rows L2 LamX
section
variable {P : Program} {w : World} {K : PySem.W.Frag} {mg mb : Str → Option Value} {CX : CXT} {k : Nat} {fa a : Addr} {cs : List (Addr × Addr)} {fd : FuncData} {x : Str} {sp : Sp} {s₁ : Shared} {vs : List Value} {ns : List Int}
/-- what is tracked as the law begins: its script, where it is no part of the text's own objects, and the tables of its lambdas -/
def top (K : PySem.W.Frag) (a : Addr) (vs : List Value) (ns : List Int) (T : List Addr) : Hp := fun b =>
  if b = a then (if K.lookup a = none then some (.frz { cls := .type "list", data := .seq vs.toArray } (.lst (ns.map V.int))) else none) else if b ∈ T then some (.tbl #[]) else none
theorem top_some {T : List Addr} {b : Addr} {u : HO} (h : top K a vs ns T b = some u) :
    (b = a ∧ K.lookup a = none ∧ u = .frz { cls := .type "list", data := .seq vs.toArray } (.lst (ns.map V.int))) ∨ (b ≠ a ∧ b ∈ T ∧ u = .tbl #[]) := by
  unfold top at h
  by_cases e : b = a
  · rw [if_pos e] at h
    by_cases n : K.lookup a = none
    · rw [if_pos n] at h
      exact .inl ⟨e, n, (Option.some.inj h).symm⟩
    · rw [if_neg n] at h
      cases h
  · rw [if_neg e] at h
    by_cases m : b ∈ T
    · rw [if_pos m] at h
      exact .inr ⟨e, m, (Option.some.inj h).symm⟩
    · rw [if_neg m] at h
      cases h
theorem top_none {T : List Addr} {b : Addr} (h1 : b = a → K.lookup a ≠ none) (h2 : b ∉ T) : top K a vs ns T b = none := by
  cases e : top K a vs ns T b with
  | none => rfl
  | some u =>
    rcases top_some e with ⟨q, n, _⟩ | ⟨_, m, _⟩
    · exact absurd n (h1 q)
    · exact absurd m h2
theorem law_callG (KX : K.In s₁.heap) (hns : s₁.heap.Ns mainGlobals mg) (hb : s₁.heap.Ns builtinsNs mb) (hbb : ∀ x : Str, x ≠ "__name__" → mb x = bootBuiltins x) (hlim : s₁.heap.NoLimit) (hg : s₁.gens = #[])
    (hT : ∀ p ∈ cs, s₁.heap.get? p.2 = some { cls := .none, data := .fields #[] }) (nT : ∀ p ∈ cs, K.lookup p.2 = none) (C : ∀ p ∈ cs, PySem.W.CodeHd s₁.heap p.1 p.2)
    (hbm : ∃ (bm : Addr) (ob : Obj), mg "__builtins__" = some (.ref bm) ∧ bm ≠ builtinsNs ∧ s₁.heap.get? bm = some ob ∧ ob.cls = .type "module" ∧ ob.dict = some builtinsNs ∧ ob.data = .plain)
    (ha : s₁.heap.get? a = some { cls := .type "list", data := .seq vs.toArray }) (hi : IntsAre vs ns) (hl : ns.length ≤ sizeLine) (hr : Room k callerA)
    (F : ∀ base : Heap, K.In base → base.Ns mainGlobals mg → (∀ p ∈ cs, TabB base mg p.1 p.2) → FnG P w K mg base CX k fa fd [x] sp) (hbind : ∀ (s : Shared) (u : Value), BindsTo s fd ⟨[u], []⟩ [(x, u)])
    (hsp : ∀ H : Hp, (∀ p ∈ cs, H p.2 = some (.tbl #[])) → SqL K H a (ns.map V.int) → sp [.ref a] H (fun v _ => v = .bl true) fun _ _ _ => False)
    (hCX : ∀ H e s', CX [] H s₁ (fun _ _ _ => False) e s' → False) :
    codeAny (model P w) callerA (.call (.ref fa) ⟨[.ref a], []⟩) (fun r s' => r = .ok (.ret (.bool true)) ∧ OldK s₁.heap s'.heap ∧ s'.os = s₁.os ∧ AllBare s'.gens) s₁ := by
  have rv := vals_ints hi
  obtain ⟨T, eT⟩ : ∃ T, T = cs.map (·.2) := ⟨_, rfl⟩
  have inT : ∀ p ∈ cs, p.2 ∈ T := fun p hp => eT ▸ List.mem_map.mpr ⟨p, hp, rfl⟩
  have ofT : ∀ b ∈ T, ∃ p ∈ cs, p.2 = b := fun b h => List.mem_map.mp (eT ▸ h)
  have tab : ∀ b ∈ T, s₁.heap.get? b = some { cls := .none, data := .fields #[] } := fun b h => by
    obtain ⟨p, hp, rfl⟩ := ofT b h
    exact hT p hp
  have aT : a ∉ T := fun z => by
    have q := (tab a z).symm.trans ha
    have q := congrArg Obj.data (Option.some.inj q)
    cases q
  obtain ⟨H, eH⟩ : ∃ H, H = top K a vs ns T := ⟨_, rfl⟩
  have some_ : ∀ {b u}, H b = some u → (b = a ∧ K.lookup a = none ∧ u = .frz { cls := .type "list", data := .seq vs.toArray } (.lst (ns.map V.int))) ∨ (b ≠ a ∧ b ∈ T ∧ u = .tbl #[]) := fun h => top_some (by rw [eH] at h; exact h)
  have hH : ∀ p ∈ cs, H p.2 = some (.tbl #[]) := fun p hp => by
    have ne : p.2 ≠ a := fun z => aT (z ▸ inT p hp)
    rw [eH]
    unfold top
    rw [if_neg ne, if_pos (inT p hp)]
  have hok : HOk P w H s₁.heap := fun b u z => by
    rcases some_ z with ⟨rfl, _, rfl⟩ | ⟨_, m, rfl⟩
    · exact ⟨ha, by rw [List.length_map]; exact hl, vs, _, rv, ha⟩
    · exact tab b m
  have hS : SqL K H a (ns.map V.int) := by
    cases hk : K.lookup a with
    | none =>
      refine .inl (.inr ⟨{ cls := .type "list", data := .seq vs.toArray }, ?_⟩)
      rw [eH]
      unfold top
      rw [if_pos rfl, if_pos hk]
    | some o =>
      have e := (KX a o hk).symm.trans ha
      cases e
      exact .inr ⟨_, vs.toArray, _, hk, rfl, rfl, rfl, by rw [List.size_toArray, hi.length]; exact hl, by simpa using rv⟩
  -- what is no list and no empty table is not tracked
  have bare : ∀ {b : Addr} {o : Obj}, s₁.heap.get? b = some o → (∀ vs n, o.data ≠ .seq vs n) → o.data ≠ .fields #[] → H b = none := fun {b o} e h1 h2 => by
    cases q : H b with
    | none => rfl
    | some u =>
      rcases some_ q with ⟨rfl, _, _⟩ | ⟨_, m, _⟩
      · cases e.symm.trans ha
        exact (h1 _ _ rfl).elim
      · cases e.symm.trans (tab b m)
        exact (h2 rfl).elim
  have under : ∀ {b : Addr} {o : Obj}, s₁.heap.get? b = some o → H b = none → (hidT s₁.heap H).get? b = some o := fun e n => hidT_get e n
  have names : ∀ {b : Addr} {m : Str → Option Value}, s₁.heap.Ns b m → (hidT s₁.heap H).Ns b m := fun {b m} ⟨o, es, ep, e, d, r⟩ =>
    ⟨o, es, ep, under e (bare e (fun vs n z => by rw [d] at z; cases z) fun z => by rw [d] at z; cases z), d, r⟩
  have hKb : K.In (hidT s₁.heap H) := fun b o e => under (KX b o e) (by
    cases q : H b with
    | none => rfl
    | some u =>
      rcases some_ q with ⟨rfl, n, _⟩ | ⟨_, m, _⟩
      · rw [n] at e
        cases e
      · obtain ⟨p, hp, rfl⟩ := ofT b m
        rw [nT p hp] at e
        cases e)
  have hM : L2.Mod K mg (hidT s₁.heap H) := ⟨hKb, names hns, ⟨mb, names hb, hbb⟩, let ⟨mc, h1, h2⟩ := hlim; ⟨mc, names h1, h2⟩⟩
  have TB : ∀ p ∈ cs, TabB (hidT s₁.heap H) mg p.1 p.2 := fun p hp => by
    have hTp := hT p hp
    refine ⟨?_, ?_, fun z => ?_⟩
    · obtain ⟨o, us, file, tf, flags, tg, inF, text, tt, e1, r1, r2, r3, rest⟩ := C p hp
      exact ⟨o, us, file, tf, flags, tg, inF, text, tt, under e1 (bare e1 (fun vs n z => by rw [r2] at z; cases z) fun z => by
        rw [r2] at z
        cases z
        simp at r3), r1, r2, r3, rest⟩
    · obtain ⟨bm, ob, b1, b2, b3, b4, b5, b6⟩ := hbm
      refine ⟨bm, ob, b1, b2, fun q => ?_, fun q => ?_, under b3 (bare b3 (fun vs n z => by rw [b6] at z; cases z) fun z => by rw [b6] at z; cases z), b4, b5, b6⟩
      · obtain ⟨o, es, ep, e, hd, _⟩ := hns
        rw [q, e] at b3
        cases b3
        rw [hd] at b6
        cases b6
      · rw [q, hTp] at b3
        cases b3
        cases b6
    · obtain ⟨o, es, ep, e, hd, _⟩ := hns
      rw [z, hTp] at e
      cases e
      cases hd
  have e0 : Env0 P w K mg (hidT s₁.heap H) callerA [] s₁ H := ⟨rfl, hM, fun b o e => of_hidT e, Nat.le_of_eq (hidT_size _ _), trivial, fun b hb => absurd (show b ∈ ([] : List Addr) from hb) (by simp), hok, .of_eq hg⟩
  refine codeAny_mono ((F _ hKb (names hns) TB).run callerA [] s₁ H ⟨[.ref a], []⟩ [.ref a] [.ref a] _ _ rfl hr e0 (hbind s₁ (.ref a)) (.cons rfl .nil) (hsp H hH hS)) fun r s' h => ?_
  match r, h with
  | .error e, h => exact (hCX H e s' h).elim
  | .ok (.ret u), h =>
    obtain ⟨v, H', os, bs, un, hok', r', q⟩ := h
    have q : v = .bl true := q
    subst q
    obtain rfl : u = Value.bool true := r'
    have key : ∀ b o, b ∉ T → s₁.heap.get? b = some o → s'.heap.get? b = some o := fun b o nb e => by
      cases q : H b with
      | none => exact un.keep b o e q (by intro z; exact absurd (show b ∈ ([] : List Addr) from z) (by simp)) (by simp)
      | some u =>
        rcases some_ q with ⟨rfl, _, rfl⟩ | ⟨_, m, _⟩
        · obtain ⟨e1, _⟩ := hok b _ q
          obtain ⟨e2, _⟩ := hok' b _ (un.frzs b _ _ q)
          rw [e] at e1
          cases e1
          exact e2
        · exact absurd m nb
    have grown : ∀ p ∈ cs, ∃ more : Array Value, s'.heap.get? p.2 = some { cls := .none, data := .fields more } := fun p hp => by
      obtain ⟨more, z⟩ := un.tbls p.2 #[] (hH p hp)
      exact ⟨_, hok' p.2 _ z⟩
    refine ⟨rfl, ⟨fun b o e => ?_, fun b o e => ?_⟩, os, bs⟩
    · by_cases m : b ∈ T
      · obtain ⟨p, hp, rfl⟩ := ofT b m
        obtain ⟨more, hm⟩ := grown p hp
        rw [hT p hp] at e
        cases e
        exact .inr (.inl ⟨((C p hp).tab (hT p hp)).isCodeTable, rfl, #[], more, rfl, by rw [Array.empty_append]; exact hm⟩)
      · exact .inl (key b o m e)
    · by_cases m : b ∈ T
      · obtain ⟨p, hp, rfl⟩ := ofT b m
        obtain ⟨more, hm⟩ := grown p hp
        exact ⟨_, hm⟩
      · exact ⟨o, key b o m e⟩
/-- what is known of the law's promise at the head's heap -/
def LawG (l : PySem.W.OpenLaw) (w : World) (K : PySem.W.Frag) (CX : CXT) (k n : Nat) (x : Str) (mg : Str → Option Value) (fa : Addr) (h : Heap) : Prop :=
  ∃ (fd : FuncData) (cs : List (Addr × Addr)) (sp : Sp), ((∀ p ∈ cs, h.get? p.2 = some { cls := .none, data := .fields #[] }) ∧ (∀ p ∈ cs, K.lookup p.2 = none) ∧ (∀ p ∈ cs, PySem.W.CodeHd h p.1 p.2)) ∧ (∀ (s : Shared) (u : Value), BindsTo s fd ⟨[u], []⟩ [(x, u)]) ∧
    (∀ (H : Hp) (a : Addr) (ns : List Int), ns.length ≤ n → (∀ z ∈ ns, Builtin.Int.intBits z ≤ 1048576) → (∀ p ∈ cs, H p.2 = some (.tbl #[])) → SqL K H a (ns.map V.int) → sp [.ref a] H (fun v _ => v = .bl true) fun _ _ _ => False) ∧
    ∀ base : Heap, K.In base → base.Ns mainGlobals mg → (∀ p ∈ cs, TabB base mg p.1 p.2) → FnG l.prog w K mg base CX k fa fd [x] sp
end
theorem walk_G {l : PySem.W.OpenLaw} {n k : Nat} {q : Program} {loose : List Str} {XP : (Str → Option Value) → Heap → Prop} {YP : World → Heap → Prop} {d : DefRec} {K : Params → PySem.W.Frag} {CX : World → CXT} {x : Str}
    (hn : l.most = some n) (hn2 : n ≤ sizeLine) (hdf : d.params.defaults = []) (hr : Room k callerA) (hY : ∀ (w : World) (h : Heap), YP w h → (K w.params).In h)
    (F : ∀ (w : World) (mg : Str → Option Value) (fa : Addr) (h : Heap), YP w h → (K w.params).In h → h.Ns mainGlobals mg → mg d.name = some (.ref fa) → LawG l w (K w.params) (CX w) k n x mg fa h)
    (hCX : ∀ (w : World) (H : Hp) (s : Shared) (e : Value) (s' : Shared), CX w [] H s (fun _ _ _ => False) e s' → False) :
    PySem.W.WalkO q loose XP YP l.row.toRowW d [] (fun f vs => PySem.call f vs) := by
  refine Att.attach_callB hn hdf fun w s₀ s₁ mg mb fa o pm cd doc a vs ns G Y ho hd hcd hmg hobj hints hlen hbits hg => ?_
  have KX := hY w _ Y
  obtain ⟨fd, cs, sp, ⟨hT, nT, C⟩, hb, hsp, hF⟩ := F w mg fa _ Y KX G.T.g hmg
  exact law_callG KX G.T.g G.T.b G.T.builtins G.T.nolimit hg hT nT C G.T.bmain hobj hints (Nat.le_trans hlen hn2) hr hF hb (fun H hH hS => hsp H a ns hlen hbits hH hS) fun H e s' => hCX w H s₁ e s'
end OB
/-! Own errors with two fields, raised. -/
namespace OB
open PySem PySem.Spec PyProof.Rows L2
/-- __init__(self, f, g): self.f = f; self.g = g of an own error -/
def spInit2 (K : PySem.W.Frag) (f g : Str) : Sp := fun vs H Q _ => ∃ (a C : Addr) (v u : V), vs = [.ref a, v, u] ∧ OexC K C ∧ PySem.W.findIn K (.ref C) f = some none ∧ PySem.W.findIn K (.ref C) g = some none ∧ H a = some (exo a C none) ∧
  ∀ dx, H dx = none → dx ≠ a → Q .non (upd (upd H dx (exd dx [(g, u), (f, v)])) a (exo a C (some dx)))
section
variable {P : Program} {w : World} {K : PySem.W.Frag} {mg : Str → Option Value} {base : Heap}
theorem ok_init2 {qual : Str} {st : Stmt} {fI : Addr} {fd : FuncData} {f g : Str} {p1 p2 p3 p4 r1 r2 r3 r4 : Pos} (F : Fun K "__init__" qual st fI fd) (S : FnScope ["self", f, g] ["self", f, g] (defScope st)) (hfg : ¬ f = g)
    (hb : defBody st = [.Assign [.Attribute (.Name "self" p1) f p2] (.Name f p3) p4, .Assign [.Attribute (.Name "self" r1) g r2] (.Name g r3) r4])
    (hv : Vis (defScope st) f) (hw : Vis (defScope st) g) (hs : Vis (defScope st) "self") (hd : (f == ("__debug__" : Str)) = false := by decide) (hcd : (f == ("__classdict__" : Str)) = false := by decide)
    (hd2 : (g == ("__debug__" : Str)) = false := by decide) (hcd2 : (g == ("__classdict__" : Str)) = false := by decide)
    (hsw : ∀ env : Env, swapsWith (.Name f p3) (some (.Attribute (.Name "self" p1) f p2)) p4.line env = pure false := by intro _; rfl)
    (hsw2 : ∀ env : Env, swapsWith (.Name g r3) (some (.Attribute (.Name "self" r1) g r2)) r4.line env = pure false := by intro _; rfl) :
    FnOk P w K mg base CX0 1 fI fd ["self", f, g] (spInit2 K f g) := by
  refine F.ok S (fun vs H Q E h => ?_) (fun cdv A outer s H vs Q E hr h => ?_)
  · obtain ⟨a, C, v, u, rfl, _⟩ := h
    rfl
  · obtain ⟨a, C, v, u, rfl, T, no, no2, ha, k⟩ := h
    rw [hb]
    refine ⟨_, pss_cons (ps_ost (pe_var (i := 0) rfl hs) (pe_var (i := 1) rfl hv hd hcd) (hsw _)) (pss_one (ps_ost (pe_var (i := 0) rfl hs) (pe_var (i := 2) rfl hw hd2 hcd2) (hsw2 _))), ?_⟩
    refine ⟨v, rfl, .ref a, rfl, a, C, rfl, T, no, .inl ⟨ha, fun dx n ne => ?_⟩⟩
    refine ⟨u, rfl, .ref a, rfl, a, C, rfl, T, no2, ?_⟩
    refine .inr ⟨dx, [(f, v)], upd_same, by rw [upd_ne ne, upd_same], (by show 1 ≤ 900; decide), ?_⟩
    have e : upd (upd (upd H dx (exd dx [(f, v)])) a (exo a C (some dx))) dx (exd dx ((g, u) :: [(f, v)])) = upd (upd H dx (exd dx [(g, u), (f, v)])) a (exo a C (some dx)) := by
      funext b
      by_cases h1 : b = a
      · rw [h1, upd_ne ne.symm, upd_same, upd_same]
      · by_cases h2 : b = dx
        · rw [h2, upd_same, upd_ne ne, upd_same]
        · rw [upd_ne h2, upd_ne h1, upd_ne h2, upd_ne h1, upd_ne h2]
    rw [e]
    exact k dx n ne
/-- an own error class with two fields, as the top leaves it -/
structure Err2 (P : Program) (w : World) (K : PySem.W.Frag) (mg : Str → Option Value) (base : Heap) (x f g : Str) (C fI : Addr) (fd : FuncData) : Prop where
  T : OexC K C
  iC : PySem.W.findIn K (.ref C) "__init__" = some (some (.ref fI))
  tI : PySem.W.typeIn K (.ref fI) = some (.type "function")
  F : FnOk P w K mg base CX0 1 fI fd ["self", f, g] (spInit2 K f g)
  b : Binds K fd ["self", f, g] []
  gl : mg x = some (.ref C)
  no : PySem.W.findIn K (.ref C) f = some none
  no2 : PySem.W.findIn K (.ref C) g = some none
end
/-- raise X(e, e2) -/
def tRaise2 (K : PySem.W.Frag) (C : Addr) (f g : Str) (W : WX) (te te2 : TE) : TS := fun _ σ H => tMkO C (spInit2 K f g) [] (tCons te (tCons te2 tNil)) σ H fun cls d H' => W cls d σ H'
theorem raise2_of {K : PySem.W.Frag} {C : Addr} {f g : Str} {W : WX} {σ : L2.St} {H1 : Hp} {v u : V} (T : OexC K C) (no : PySem.W.findIn K (.ref C) f = some none) (no2 : PySem.W.findIn K (.ref C) g = some none) (h : ∀ d, H1 d = none → W (.ref C) (some d) σ (upd H1 d (.xd [(g, u), (f, v)]))) :
    tNil σ H1 fun xs H2 => (v :: u :: xs).length ≤ 1000 ∧ ∀ a, H2 a = none → spInit2 K f g (.ref a :: ((v :: u :: xs) ++ [])) (upd H2 a (exo a C none))
      (fun z H3 => z = .non ∧ ∃ (d : Addr) (fs : List (Str × V)), H3 a = some (exo a C (some d)) ∧ H3 d = some (exd d fs) ∧ H2 d = none ∧ W (.ref C) (some d) σ (upd (del H3 a) d (.xd fs))) (fun _ _ _ => False) := by
  refine ⟨by show 2 ≤ 1000; decide, fun a ha => ⟨a, C, v, u, rfl, T, no, no2, upd_same, fun dx nd ne => ?_⟩⟩
  rw [upd_ne ne] at nd
  refine ⟨rfl, dx, [(g, u), (f, v)], upd_same, ?_, nd, ?_⟩
  · rw [upd_ne ne, upd_same]
  · rw [del_back ha ne]
    exact h dx nd
theorem ps_raise2 {X : Cx} {W : WX} {x f g : Str} {C fI : Addr} {fd : FuncData} {e e2 : Expr} {te te2 : TE} {p p2 pos : Pos} (hc : X.calm = true) (tk : Takes X W) (R : Err2 X.prog X.w X.K X.mg X.base x f g C fI fd) (hr : Room 2 X.A) (hg : Gl X x) (he : PE X e te) (he2 : PE X e2 te2)
    (hx : Passes CX0 X (fun _ _ _ => False) := by exact pass0) (hs2 : starEach [e2] X.env = [(false, eval e2 X.env)] := by rfl) (hs : starEach [e, e2] X.env = (false, eval e X.env) :: starEach [e2] X.env := by rfl) (hdb : (x == ("__debug__" : Str)) = false := by decide)
    (hpl : (backTo p2 (starEach [e2] X.env)).any (·.1) = false := by rfl) :
    PS X (.Raise (some (.Call (.Name x p) [e, e2] [] p2)) none pos) (tRaise2 X.K C f g W te te2) :=
  ps_raise (pos := pos) hc tk (pmk_oex (p := p) (pos := p2) R.T R.iC R.tI R.F hr R.b .nil hx hg R.gl (pa_cons he (pa_cons he2 pa_nil hs2) hs) hdb hs hpl)
end OB
/-! == and != of an own object with any value, by the class's own __eq__, with both answers. -/
namespace OB
open PySem PySem.Spec PyProof.Rows L2
section
variable {X : Cx} {n : Nat} {A : Around} {pins : List (Addr × Obj)} {σ : L2.St} {H : Hp} {s : Shared}
theorem sub_run {CX : CXT} {f : Addr} {fd : FuncData} {ps : List Str} {sp : Sp} {E : XK} {Q : VK} {us : List Value} {vs : List V} (F : FnOk X.prog X.w X.K X.mg X.base CX n f fd ps sp) (hb : L2.Binds X.K fd ps []) (hx : Passes CX X E)
    (sb : Sub X n A) (I : Inv X pins σ H s) (r : Vals vs us) (h : sp vs H Q E) : wpAny (model X.prog X.w) A (call (.ref f) us) (EP X pins σ Q) X.xe s := by
  have e0 : Env0 X.prog X.w X.K X.mg X.base A X.stack s H := by
    have e := I.env0
    exact ⟨by rw [sb.fr]; exact e.frames, e.mod, e.bs, e.bsz, e.funs, e.frf, e.hok, e.bare⟩
  have hl := F.len _ _ _ _ h
  have hl2 : us.length = ps.length := by rw [← r.length]; exact hl
  refine wpAny_call (codeAny_mono (F.run A X.stack s H ⟨us, []⟩ us vs Q E sb.room e0 (by
    have := hb s us I.kIn (by simpa using hl2)
    simpa using this) r h) fun r s' hq => ?_)
  cases r with
  | error e => exact hx pins σ H s e s' I hq
  | ok fl =>
    cases fl with
    | ret w =>
      obtain ⟨z, H', I', rz, q⟩ := I.after hq
      exact ⟨z, H', I', rz, q⟩
    | next => exact False.elim hq
    | brk => exact False.elim hq
    | cont => exact False.elim hq
end
/-- of the two the left one is asked first -/
def NotFirst (K : PySem.W.Frag) (C : Addr) (y : V) (H : Hp) : Prop := (∃ b dy gs, y = .ref b ∧ H b = some (.ins C dy gs)) ∨ (∃ b xs, y = .ref b ∧ SqT K H b xs ∧ PySem.W.subIn K (.type "tuple") (.ref C) = some false)
section
variable {X : Cx} {pins : List (Addr × Obj)} {σ : L2.St} {H : Hp} {s : Shared}
theorem nf_looks {C : Addr} {y : V} {v : Value} (I : Inv X pins σ H s) (ry : RelV y v) (h : NotFirst X.K C y H) : ∃ tb, PySem.W.Looks (model X.prog X.w) s.heap (typeOf v) tb ∧ PySem.W.notFirst X.K C tb = true := by
  rcases h with ⟨b, dy, gs, rfl, hb⟩ | ⟨b, xs, rfl, hb, hs⟩
  · cases (show v = Value.ref b from ry)
    obtain ⟨mB, J, _⟩ := ins_get I.hok hb
    obtain ⟨od, J, _⟩ := J.look
    exact ⟨.ref C, J.type, by simp [PySem.W.notFirst]⟩
  · cases (show v = Value.ref b from ry)
    obtain ⟨its, r, ⟨o, ho, hc, _⟩, z⟩ := I.tuple hb
    refine ⟨.type "tuple", hc ▸ (PySem.W.Looks.ld (part := none) ho).andThen .now, ?_⟩
    unfold PySem.W.notFirst
    rw [hs]
    simp
end
section
variable {prog : Program} {w : World} {A : Around} {E : Value → Shared → Prop} {s : Shared} {K : PySem.W.Frag} {x C L f : Addr} {h₀ : Heap} {m : Str → Option Value} {ox : Obj} {od : Option Obj} {name : Str} {b tb : Value}
open PySem.W PySem.Builtin in
theorem ifBound_bi {M : Model} {id : String} {args : List Value} {Q : Option Value → Shared → Prop} (X : K.In s.heap) (I : InstAt s.heap x ox C od) (hs : findIn K (.ref C) name = some (some (.builtin id)))
    (hb : ∀ self, bindSpecial (.builtin id) self = pure (.builtin id, [self])) (h : wpAny M A (call (.builtin id) (.ref x :: args)) (fun v => Q (some v)) E s) : wpAny M A (callSpecialIfBound? (.ref x) name args) Q E s := by
  simp only [callSpecialIfBound?, bindSpecialIfBound?]
  refine wpAny_holding (wpAny_bind (wpAny_bind (wpAny_bind (I.type.here ((looks_findIn X hs).here ?_)))))
  refine wpAny_bind (wpAny_askSetting (wpAny_ite ?_))
  have fin : wpAny M A (call (.builtin id) ([.ref x] ++ args) >>= fun v => pure (some v)) Q E s := wpAny_bind (wpAny_mono h (fun v s' h' => wpAny_pure h') fun _ _ h' => h')
  split
  · exact wpAny_bind ((Looks.of_pure (hb _)).here (wpAny_pure (by exact fin)))
  · exact wpAny_tryCatch (wpAny_bind ((Looks.of_pure (hb _)).here (wpAny_pure (by exact fin))))
open PySem.W PySem.Builtin in
theorem cmp_ne {Q : Value → Shared → Prop} (hu : A.units + 1 < cLine) (hu1 : A.in1.units < cLine) (F : Fr h₀ L s.heap m) (X₀ : K.In h₀) (I : InstAt s.heap x ox C od) (hb : Looks (model prog w) s.heap (typeOf b) tb) (hn : notFirst K C tb = true)
    (hne : findIn K (.ref C) "__ne__" = some (some (.builtin "object.__ne__"))) (hm : mroIn K C (.type "object") = some true)
    (hs : findIn K (.ref C) "__eq__" = some (some (.ref f))) (hf : isFn K (.ref f) = true)
    (h : wpAny (model prog w) A.in1 (call (.ref f) [.ref x, b]) (fun v s' => ∃ k, v = .bool k ∧ Q (.bool (!k)) s') E s) : wpAny (model prog w) A (richCompare .NotEq (.ref x) b) Q E s := by
  have X := X₀.keeps F.keep
  have body : wpAny (model prog w) A (call (.builtin "object.__ne__") [.ref x, b]) (fun v s' => ∃ k, v = .bool k ∧ Q v s') E s := by
    refine wpAny_call (codeAny_call_builtin PySem.F.slot_object_ne.plain PySem.F.entry_object_ne (check_slot (i := "object.__ne__") (owner := "object") (n := "__ne__") (by decide +kernel) (by decide +kernel) (I.type.andThen (looks_mroIn X hm)) (PySem.F.args_object_ne_2 _ _) ?_))
    unfold Builtin.«object.__ne__»
    refine wpAny_bind (m := slotArgs "__ne__" 1 _) (wpAny_pure ?_)
    refine wpAny_bind (m := cRoomFor _ _) (wpAny_cRoomFor hu1 ?_)
    refine wpAny_bind (m := callSpecialIfBound? (.ref x) (Str.ofString "__eq__") _) (ifBound_K X I hs hf (wpAny_mono h (fun r s' hq => ?_) fun _ _ y => y))
    obtain ⟨k, rfl, q⟩ := hq
    refine wpAny_bind (m := truthy (.bool k)) (wpAny_truthy_bool ?_)
    exact wpAny_pure ⟨!k, rfl, q⟩
  have one : wpAny (model prog w) A (tryCompare (.ref x) (cmpInfo .NotEq).2.1 b) (fun r s' => ∃ v, r = some v ∧ Q v s') E s := by
    unfold tryCompare
    refine wpAny_bind (ifBound_bi X I hne PySem.F.slot_object_ne.bind (wpAny_mono body (fun v s' hv => ?_) fun _ _ e => e))
    obtain ⟨k, rfl, q⟩ := hv
    exact wpAny_pure ⟨_, rfl, q⟩
  unfold richCompare
  simp only [oneThing_ref]
  refine wpAny_holding (wpAny_bind (wpAny_cRoomFor (Nat.lt_of_succ_lt hu) ?_))
  refine wpAny_bind (I.type.here (wpAny_bind (hb.here ?_)))
  split
  · rename_i q
    have e : subIn K tb (.ref C) = some false := by
      rcases Bool.or_eq_true_iff.mp hn with e | e
      · rw [beq_iff_eq.mp e] at q; simp at q
      · exact beq_iff_eq.mp e
    refine wpAny_bind ((looks_subIn X e).here ?_)
    simp only [Bool.false_eq_true, if_false]
    refine wpAny_bind (wpAny_mono one (fun r s' z => ?_) fun _ _ e => e)
    obtain ⟨v, rfl, hq⟩ := z
    exact wpAny_pure hq
  · refine wpAny_bind (wpAny_pure ?_)
    simp only [Bool.false_eq_true, if_false]
    refine wpAny_bind (wpAny_mono one (fun r s' z => ?_) fun _ _ e => e)
    obtain ⟨v, rfl, hq⟩ := z
    exact wpAny_pure hq
end
/-- a class's own ==: where its def stands, and that != is the usual one -/
structure OwnEqC (K : PySem.W.Frag) (C f : Addr) : Prop where
  eq : PySem.W.findIn K (.ref C) "__eq__" = some (some (.ref f))
  fn : PySem.W.isFn K (.ref f) = true
  ne : PySem.W.findIn K (.ref C) "__ne__" = some (some (.builtin "object.__ne__"))
  ob : PySem.W.mroIn K C (.type "object") = some true
def rEqO (K : PySem.W.Frag) (C : Addr) (sp : Sp) (E : XK) : R2 := fun x y H Q => ∃ a dx fs, x = .ref a ∧ H a = some (.ins C dx fs) ∧ NotFirst K C y H ∧ sp [x, y] H (fun v H' => ∃ b, v = .bl b ∧ Q (.bl b) H') E
def rNeO (K : PySem.W.Frag) (C : Addr) (sp : Sp) (E : XK) : R2 := fun x y H Q => ∃ a dx fs, x = .ref a ∧ H a = some (.ins C dx fs) ∧ NotFirst K C y H ∧ sp [x, y] H (fun v H' => ∃ b, v = .bl b ∧ Q (.bl (!b)) H') E
section
variable {X : Cx} {n : Nat} {CX : CXT} {C f : Addr} {fd : FuncData} {ps : List Str} {sp : Sp} {E : XK}
theorem op_eqO (F : FnOk X.prog X.w X.K X.mg X.base CX n f fd ps sp) (O : OwnEqC X.K C f) (hb : L2.Binds X.K fd ps []) (hx : Passes CX X E) (hr : Room n X.A) : OpR X (compareOp .Eq) (rEqO X.K C sp E) := by
  intro pins s σ H x y v u Q I rx ry hq
  obtain ⟨a, dx, fs, rfl, ha, nf, h⟩ := hq
  cases (show v = Value.ref a from rx)
  obtain ⟨mA, J, _⟩ := ins_get I.hok ha
  obtain ⟨od, J, _⟩ := J.look
  obtain ⟨m, hF⟩ := I.fr
  obtain ⟨tb, L, nf⟩ := nf_looks I ry nf
  show wpAny (model X.prog X.w) X.A (richCompare .Eq (.ref a) u) (EP X pins σ Q) X.xe s
  refine PySem.W.cmp_K (op := .Eq) hr.units0 hF I.ok.mod.kin J L nf O.eq O.fn ?_
  refine wpAny_mono (sub_run F hb hx ⟨hr, rfl⟩ I (Paired.cons (show L2.RelV (.ref a) (.ref a) from rfl) (.cons ry .nil)) h) (fun r s' q => ?_) fun _ _ z => z
  obtain ⟨z, H', I', rz, b, rfl, q⟩ := q
  cases rz
  exact ⟨.bl b, H', I', rfl, q⟩
theorem op_neO (F : FnOk X.prog X.w X.K X.mg X.base CX n f fd ps sp) (O : OwnEqC X.K C f) (hb : L2.Binds X.K fd ps []) (hx : Passes CX X E) (hr : Room (n + 1) X.A) : OpR X (compareOp .NotEq) (rNeO X.K C sp E) := by
  intro pins s σ H x y v u Q I rx ry hq
  obtain ⟨a, dx, fs, rfl, ha, nf, h⟩ := hq
  cases (show v = Value.ref a from rx)
  obtain ⟨mA, J, _⟩ := ins_get I.hok ha
  obtain ⟨od, J, _⟩ := J.look
  obtain ⟨m, hF⟩ := I.fr
  obtain ⟨tb, L, nf⟩ := nf_looks I ry nf
  show wpAny (model X.prog X.w) X.A (richCompare .NotEq (.ref a) u) (EP X pins σ Q) X.xe s
  refine cmp_ne (by have := hr.units; omega) hr.in1.units0 hF I.ok.mod.kin J L nf O.ne O.ob O.eq O.fn ?_
  refine wpAny_mono (sub_run F hb hx ⟨hr.in1, rfl⟩ I (Paired.cons (show L2.RelV (.ref a) (.ref a) from rfl) (.cons ry .nil)) h) (fun r s' q => ?_) fun _ _ z => z
  obtain ⟨z, H', I', rz, b, rfl, q⟩ := q
  cases rz
  exact ⟨b, rfl, .bl (!b), H', I', rfl, q⟩
end
end OB
/-! Static methods off a class, str of an own object by its own __str__, making by keywords alone. -/
namespace OB
open PySem PySem.Spec PyProof.Rows L2 ClX
/-- C.m is a static method: its record at p, its def at g -/
structure CStat (K : PySem.W.Frag) (C : Addr) (mc : Value) (m : Str) (p g : Addr) : Prop where
  at_ : PySem.W.findCls K (.ref C) mc m = some (.get (.builtin "staticmethod.__get__") (.ref p) .none (.ref C))
  rc : ∃ rest, PySem.W.recIn K p "staticmethod" = some (.ref g :: rest)
  kp : PySem.W.keepIn K (.ref g) = true
/-- e.m(..), e the class at C -/
def tSMeth (C : Addr) (sp : Sp) (E : XK) (ta : TE) (t : TA) : TE := fun σ H Q => ta σ H fun x H1 => x = .ref C ∧ t σ H1 fun vs H2 => sp vs H2 Q E
def tSMethK (C : Addr) (sp : Sp) (gV : List V → List V → List V) (E : XK) (ta : TE) (tk : TA) : TE := fun σ H Q => ta σ H fun x H1 => x = .ref C ∧ tk σ H1 fun zs H2 => sp (gV [] zs) H2 Q E
section
variable {X : Cx} {pins : List (Addr × Obj)} {σ : L2.St} {H : Hp} {s : Shared} {C p g : Addr} {mc : Value} {m : Str} {A : Around} {E : Value → Shared → Prop}
theorem getmethsm_ok {pl : Sem Bool} {Q : Value × List Value → Shared → Prop} (I : Inv X pins σ H s) (r : CRead X.K C mc) (k : CStat X.K C mc m p g)
    (h : ∀ s', Inv X pins σ H s' → Q (.ref g, []) s') : wpAny (model X.prog X.w) A (getMethod (.ref C) m pl) Q E s := by
  obtain ⟨rest, hp⟩ := k.rc
  exact PySem.W.method_cls I.kIn r.ga (PySem.W.cls_bind I.kIn r.rd k.at_ (wpAny_call (PySem.W.sm_get (s := { s with toks := s.toks + 1 }) I.kIn hp (PySem.W.handed_on rfl (h _ (I.tok _))))))
end
section
variable {X : Cx} {CX : CXT} {k : Nat} {C p g : Addr} {fd : FuncData} {ps ks : List Str} {mc : Value} {sp : Sp} {E : XK} {o e : Expr} {es : List Expr} {kws : List Keyword} {m : Str} {pos apos : Pos} {ta : TE} {t tk : TA} {pl : Sem Bool} {gg : List Value → List Value → List Value} {gV : List V → List V → List V}
theorem pe_smeth (he : PE X o ta) (r : CRead X.K C mc) (c : CStat X.K C mc m p g) (F : FnOk X.prog X.w X.K X.mg X.base CX k g fd ps sp) (hr : Room k X.A) (hb : L2.Binds X.K fd ps []) (hx : Passes CX X E) (ha : PA X (e :: es) t)
    (hst : starEach (e :: es) X.env = (false, eval e X.env) :: starEach es X.env := by rfl) (hpl : (backTo pos (starEach es X.env)).any (·.1) = false := by rfl)
    (ht : eval (.Call (.Attribute o m apos) (e :: es) [] pos) X.env = (do
      let ov ← eval o X.env
      standAt apos.atName
      let (f, first) ← holding [ov] (getMethod ov m pl)
      callWith pos f first (backTo pos (starEach (e :: es) X.env)) (backToKw pos (keywordEach [] X.env))) := by rfl) :
    PE X (.Call (.Attribute o m apos) (e :: es) [] pos) (tSMeth C sp E ta t) := by
  refine ⟨fun pins s σ H Q I h => ?_⟩
  refine PySem.W.methodCall_KW (pl := pl) (thn (he.run pins s σ H _ I h) fun u s1 ⟨x, H1, I1, rx, ex, q⟩ => ?_) ht
  subst ex
  obtain rfl : u = Value.ref C := rx
  refine getmethsm_ok I1 r c fun s2 I2 => ?_
  refine PySem.W.callWith_K (h₀ := X.base) (first := []) I.ok.mod.kin c.kp (thn (ha.run pos pins s2 σ H1 _ I2 q) fun us s3 ⟨vs, H2, I3, rv, q2⟩ => ⟨I3.kIn, ?_⟩) hst hpl
  exact run_fn F hr hb .nil hx I3 rv (by rw [List.append_nil]; exact q2)
theorem pe_smethK (he : PE X o ta) (r : CRead X.K C mc) (c : CStat X.K C mc m p g) (F : FnOk X.prog X.w X.K X.mg X.base CX k g fd ps sp) (hr : Room k X.A) (hb : KBinds X.K fd ps ks gg gV) (hx : Passes CX X E) (hkw : PK X kws tk)
    (hall : (backToKw pos (keywordEach kws X.env)).all (·.1.isSome) = true := by rfl) (hks : (backToKw pos (keywordEach kws X.env)).filterMap (·.1) = ks := by rfl)
    (hpl : ((backTo pos (starEach [] X.env)).any (·.1) || (backToKw pos (keywordEach kws X.env)).any (·.1.isNone)) = false := by rfl)
    (ht : eval (.Call (.Attribute o m apos) [] kws pos) X.env = (do
      let ov ← eval o X.env
      standAt apos.atName
      let (f, first) ← holding [ov] (getMethod ov m pl)
      callWith pos f first (backTo pos (starEach [] X.env)) (backToKw pos (keywordEach kws X.env))) := by rfl) :
    PE X (.Call (.Attribute o m apos) [] kws pos) (tSMethK C sp gV E ta tk) := by
  refine ⟨fun pins s σ H Q I h => ?_⟩
  refine PySem.W.methodCall_KW (pl := pl) (thn (he.run pins s σ H _ I h) fun u s1 ⟨x, H1, I1, rx, ex, q⟩ => ?_) ht
  subst ex
  obtain rfl : u = Value.ref C := rx
  refine getmethsm_ok I1 r c fun s2 I2 => ?_
  refine PySem.W.callWith_KW0 (h₀ := X.base) I.ok.mod.kin c.kp hall ?_ hpl
  refine thn (hkw.run pos pins s2 σ H1 _ I2 q) fun ws s3 ⟨zs, H2, I3, rz, q2⟩ => ⟨I3.kIn, ?_⟩
  rw [hks]
  exact run_fnk (us := []) F hr hb hx I3 .nil rz q2
end
/-- how keywords alone bind, from how they bind at all -/
theorem kbn {K : PySem.W.Frag} {fd : FuncData} {ps ks : List Str} {g : List Value → List Value → List Value} {gV : List V → List V → List V} {n : Nat} (h : KBinds K fd ps ks g gV) (hl : ∀ us ws, us.length = n → ws.length = ks.length → (g us ws).length = ps.length) : KBn K fd ps n ks g gV :=
  ⟨fun s us ws X h1 h2 => h.to s us ws X (hl us ws h1 h2), h.rel⟩
/-- a class's own __str__ -/
structure OwnStrC (K : PySem.W.Frag) (C f : Addr) : Prop where
  st : PySem.W.findIn K (.ref C) "__str__" = some (some (.ref f))
  fn : PySem.W.isFn K (.ref f) = true
section
variable {prog : Program} {w : World} {A : Around} {E : Value → Shared → Prop} {s : Shared} {K : PySem.W.Frag} {x C f : Addr} {ox : Obj} {od : Option Obj}
open PySem.W PySem.Builtin PySem.Builtin.Str in
theorem str_own {Q : Value → Shared → Prop} (hu : A.in1.in1.units < cLine) (X : K.In s.heap) (I : InstAt s.heap x ox C od) (hs : findIn K (.ref C) "__str__" = some (some (.ref f))) (hf : isFn K (.ref f) = true)
    (h : wpAny (model prog w) A.in1.in1 (call (.ref f) [.ref x]) (StrBack Q) E s) : wpAny (model prog w) A (call (.type "str") [.ref x]) Q E s := by
  refine callType_codes (T := "str") (Bi := Builtin.«object.__init__») (Q₁ := fun r s₁ => ∃ y u, r = .str y u ∧ Q r s₁) PySem.F.called_str (PySem.F.typeCall_str_1 _) PySem.F.entry_object_init ?_ ?_
  · refine codeAny_of_tree ?_
    show wpAny _ A.in1.in1 (do checkBuiltinCall "str.__new__" ⟨[.type "str", .ref x], []⟩; again (.builtin "str.__new__" ⟨[.type "str", .ref x], []⟩)) _ _ s
    refine wpAny_bind (wpAny_of_eq (PySem.F.newCall_str_1 _) (wpAny_pure ⟨plainId_quiet (by decide +kernel) _, codeAny_builtin PySem.F.entry_str_new ?_⟩))
    rw [Around.under_plainId (by decide +kernel) _]
    rw [str_new_tree]
    refine wpAny_bind (wpAny_pure ?_)
    refine wpAny_bind (wpAny_of_eq isSubtype_str_str ?_)
    have key : wpAny (model prog w) A.in1.in1 (PySem.Builtin.Str.strOf (.ref x)) (fun r s₁ => ∃ y u, r = .str y u ∧ Q r s₁) E s := by
      unfold PySem.Builtin.Str.strOf
      rw [show isExactStr (.ref x) = false from rfl]
      refine wpAny_bind (m := cRoomFor _ _) (wpAny_cRoomFor hu ?_)
      refine wpAny_bind (m := callSpecial? (.ref x) (Str.ofString "__str__")) (special_fn X I hs (beq_iff_eq.mp hf) (wpAny_mono h (fun r s' z => ?_) fun _ _ y => y))
      cases r <;> first | exact z.elim | exact wpAny_pure ⟨_, _, rfl, z⟩
    exact wpAny_bind (wpAny_mono key (fun r s₁ hr => wpAny_pure hr) fun _ _ y => y)
  · rintro obj s₁ ⟨y, u, rfl, hq⟩
    exact ⟨typeIs_str _ _ _, PySem.F.args_object_init_2 _ _, object_init_meets PySem.F.called_str.init.lookup PySem.F.called_str.made (by decide) prog w A.in1 _ s₁ ⟨typeIs_str _ _ _, rfl, hq⟩⟩
end
/-- str(o), o an instance of the class at C -/
def rStrO (C : Addr) (sp : Sp) (E : XK) : List V → Hp → VK → Prop := fun xs H Q => ∃ a dx fs, xs = [.ref a] ∧ H a = some (.ins C dx fs) ∧ sp [.ref a] H (fun v H' => ∃ z, v = .str z ∧ Q (.str z) H') E
section
variable {X : Cx} {n : Nat} {CX : CXT} {C f : Addr} {fd : FuncData} {ps : List Str} {sp : Sp} {E : XK}
theorem call_strO (F : FnOk X.prog X.w X.K X.mg X.base CX n f fd ps sp) (O : OwnStrC X.K C f) (hb : L2.Binds X.K fd ps []) (hx : Passes CX X E) (hr : Room (n + 2) X.A) : CallR X (.type "str") (rStrO C sp E) := by
  intro pins s σ H xs us Q I r h
  obtain ⟨a, dx, fs, rfl, ha, h⟩ := h
  rw [Vals.ref1 r]
  obtain ⟨mA, J, _⟩ := ins_get I.hok ha
  obtain ⟨od, J, _⟩ := J.look
  refine str_own hr.in1.in1.units0 I.kIn J O.st O.fn ?_
  refine wpAny_mono (sub_run F hb hx ⟨hr.in1.in1, rfl⟩ I (Paired.cons (show L2.RelV (.ref a) (.ref a) from rfl) .nil) h) (fun r s' q => ?_) fun _ _ z => z
  obtain ⟨z, H', I', rz, y, rfl, q⟩ := q
  obtain ⟨t, rfl⟩ := (show ∃ t, r = Value.str y t from rz)
  exact ⟨.str y, H', I', ⟨_, rfl⟩, q⟩
end
end OB
/-! An own class, as the top leaves it; what an object of it is when it is asked for its kind. -/
namespace OB
open PySem PySem.Spec PyProof.Rows L2 ClX
structure OwnC (K : PySem.W.Frag) (mg : Str → Option Value) (x : Str) (C fI : Addr) : Prop where
  cl : Cls K C
  g : mg x = some (.ref C)
  made : Mk K C fI
  ha : PySem.W.findIn K (.ref C) "__class__" = some (some (.builtin "object.__class__"))
  hn : PySem.W.specialIn K (.builtin "object.__class__") "__get__" = some (some (.builtin "getset_descriptor.__get__"))
  ht : PySem.W.takesIn K (.builtin "object.__class__") = some true
  hm : PySem.W.mroIn K C (.type "object") = some true
  self : PySem.W.kitOne K (.ref C) (.ref C) = some true
  no : ∀ n ∈ ["NoneType", "int", "bool", "str", "list", "tuple", "dict"], PySem.W.kitOne K (.type n) (.ref C) = some false
  sT : PySem.W.subIn K (.type "tuple") (.ref C) = some false
section
variable {K : PySem.W.Frag} {mg : Str → Option Value} {x : Str} {C fI : Addr}
theorem OwnC.ty (Z : OwnC K mg x C fI) {H : Hp} {a dx : Addr} {fs : List (Str × V)} (e : H a = some (.ins C dx fs)) : TyX K H (.ref a) (.ref C) := .base (.ins e Z.cl Z.ha Z.hn Z.ht Z.hm)
/-- a value is no object of the class -/
def NotO (K : PySem.W.Frag) (C : Addr) (H : Hp) (y : V) : Prop := ∃ t, TyX K H y t ∧ PySem.W.kitOne K t (.ref C) = some false
theorem OwnC.non (Z : OwnC K mg x C fI) {H : Hp} : NotO K C H .non := ⟨_, .base .non, Z.no _ (by decide)⟩
theorem OwnC.int (Z : OwnC K mg x C fI) {H : Hp} (i : Int) : NotO K C H (.int i) := ⟨_, .base (.int i), Z.no _ (by decide)⟩
theorem OwnC.bl (Z : OwnC K mg x C fI) {H : Hp} (i : Bool) : NotO K C H (.bl i) := ⟨_, .base (.bl i), Z.no _ (by decide)⟩
theorem OwnC.str (Z : OwnC K mg x C fI) {H : Hp} (i : Str) : NotO K C H (.str i) := ⟨_, .base (.str i), Z.no _ (by decide)⟩
theorem OwnC.lst (Z : OwnC K mg x C fI) {H : Hp} {a : Addr} {xs : List V} (e : H a = some (.lst xs)) : NotO K C H (.ref a) := ⟨_, .base (.lst e), Z.no _ (by decide)⟩
theorem OwnC.tup (Z : OwnC K mg x C fI) {H : Hp} {a : Addr} {xs : List V} (e : H a = some (.tup xs)) : NotO K C H (.ref a) := ⟨_, .base (.tup e), Z.no _ (by decide)⟩
theorem OwnC.dK (Z : OwnC K mg x C fI) {H : Hp} {a : Addr} {xs : List (Key × V)} (e : H a = some (.dK xs)) : NotO K C H (.ref a) := ⟨_, .base (.dK e), Z.no _ (by decide)⟩
end
end OB
/-! A call by keywords alone that may raise. -/
namespace OB
open PySem PySem.Spec PyProof.Rows L2
section
variable {X : Cx} {CX : CXT} {k : Nat} {f : Addr} {fd : FuncData} {ps ks : List Str} {sp : Sp} {E : L2.St → XK} {x : Str} {p pos : Pos} {e : Expr} {es : List Expr} {kws : List Keyword} {t tk : TA} {g : List Value → List Value → List Value} {gV : List V → List V → List V}
def tCallKS (sp : Sp) (gV : List V → List V → List V) (E : L2.St → XK) (t tk : TA) : TE := fun σ H Q => t σ H fun vs H1 => tk σ H1 fun zs H2 => sp (gV vs zs) H2 Q (E σ)
theorem run_fnkS {pins : List (Addr × Obj)} {σ : L2.St} {H : Hp} {s : Shared} {Q : VK} {us ws : List Value} {vs zs : List V} {E : XK} (F : FnOk X.prog X.w X.K X.mg X.base CX k f fd ps sp) (hr : Room k X.A) (hb : KBinds X.K fd ps ks g gV) (hx : PassesAt CX X σ E)
    (I : Inv X pins σ H s) (r : Vals vs us) (rz : Vals zs ws) (h : sp (gV vs zs) H Q E) : wpAny (model X.prog X.w) X.A (call (.ref f) us (ks.zip ws)) (EP X pins σ Q) X.xe s := by
  have r2 := hb.rel r rz
  have hl : (g us ws).length = ps.length := r2.length ▸ F.len _ _ _ _ h
  refine wpAny_call (codeAny_mono (F.run X.A X.stack s H ⟨us, ks.zip ws⟩ (g us ws) (gV vs zs) Q E hr I.env0 (hb.to s us ws I.kIn hl) r2 h) fun res s' hq => ?_)
  match res, hq with
  | .error _, hq => exact hx pins H s _ s' I hq
  | .ok (.ret _), hq => exact I.after hq
theorem pe_callKoS (F : FnOk X.prog X.w X.K X.mg X.base CX k f fd ps sp) (hr : Room k X.A) (hg : Gl X x) (hm : X.mg x = some (.ref f)) (hk : PySem.W.keepIn X.K (.ref f) = true) (hb : KBinds X.K fd ps ks g gV) (hx : ∀ σ, PassesAt CX X σ (E σ))
    (hkw : PK X kws tk) (hall : (backToKw pos (keywordEach kws X.env)).all (·.1.isSome) = true := by rfl) (hks : (backToKw pos (keywordEach kws X.env)).filterMap (·.1) = ks := by rfl)
    (hdb : (x == ("__debug__" : Str)) = false := by decide)
    (hpl : ((backTo pos (starEach [] X.env)).any (·.1) || (backToKw pos (keywordEach kws X.env)).any (·.1.isNone)) = false := by rfl) :
    PE X (.Call (.Name x p) [] kws pos) (tCallKS sp gV E tNil tk) := by
  refine ⟨fun pins s σ H Q I h => wpAny_Call_Name_kw (ld_glob I hg hm ?_ hdb)⟩
  refine PySem.W.callWith_KW0 (h₀ := X.base) I.ok.mod.kin hk hall ?_ hpl
  refine thn (hkw.run pos pins s σ H _ I h) fun ws s2 ⟨zs, H2, I2, rz, q2⟩ => ⟨I2.kIn, ?_⟩
  rw [hks]
  exact run_fnkS (us := []) F hr hb (hx σ) I2 .nil rz q2
end
/-- some of a list, by their places -/
def pm {α : Type} : List Nat → List α → List α
  | [], _ => []
  | i :: r, l => match l[i]? with
    | some x => x :: pm r l
    | none => pm r l
theorem pm_vals {vs : List V} {us : List Value} (h : Vals vs us) : ∀ is, Vals (pm is vs) (pm is us)
  | [] => .nil
  | i :: r => by
    unfold pm
    cases e : vs[i]? with
    | none =>
      have e2 : us[i]? = none := by
        rw [List.getElem?_eq_none_iff] at e ⊢
        rw [← h.length]
        exact e
      rw [e2]
      exact pm_vals h r
    | some x =>
      obtain ⟨u, hu, ru⟩ := h.get e
      rw [hu]
      exact .cons ru (pm_vals h r)
/-- keywords alone, in any order -/
def kg {α : Type} (is : List Nat) : List α → List α → List α
  | [], ws => pm is ws
  | _ :: _, _ => []
theorem kg_vals {is : List Nat} {vs : List V} {us : List Value} {zs : List V} {ws : List Value} (h : Vals vs us) (r : Vals zs ws) : Vals (kg is vs zs) (kg is us ws) := by
  cases h with
  | nil => exact pm_vals r is
  | cons _ _ => exact .nil
/-- .. behind the object itself -/
def kg1 {α : Type} (is : List Nat) : List α → List α → List α
  | [x], ws => x :: pm is ws
  | _, _ => []
theorem kg1_vals {is : List Nat} {vs : List V} {us : List Value} {zs : List V} {ws : List Value} (h : Vals vs us) (r : Vals zs ws) : Vals (kg1 is vs zs) (kg1 is us ws) := by
  cases h with
  | nil => exact .nil
  | cons a b =>
    cases b with
    | nil => exact .cons a (pm_vals r is)
    | cons _ _ => exact .nil
end OB
/-! repr of a text; numbers as items of texts. -/
namespace OB
open PySem PySem.Spec PyProof.Rows L2
section
variable {X : Cx}
def rReprS : List V → Hp → VK → Prop := fun xs H Q => ∃ z : Str, xs = [.str z] ∧ z.length ≤ 1000000 ∧ (∀ c ∈ z.cps.toList, c < 16 ^ 8) ∧ Q (.str (reprText z)) H
theorem call_reprS : CallR X (.builtin "repr") rReprS := by
  intro pins s σ H xs us Q I r h
  obtain ⟨z, rfl, hz, hc, q⟩ := h
  obtain ⟨u, rfl, t, rfl⟩ := vals1 r
  refine PySem.P.repr_of_str ⟨.str _, H, I.tok _, ⟨_, rfl⟩, q⟩ ?_
  have := PySem.StrLaws.reprText_len z hc
  rw [sizeLine_eq]
  omega
end
/-- how a number from 0 on is written -/
def ds (n : Nat) : Str := toString (n : Int)
/-- what the small ones are like -/
theorem ds_small : ∀ n < 256, Txt.removeprefix (ds n) "-" = ds n ∧ Txt.isascii (ds n) = true ∧ Txt.isdigit (ds n) = true ∧ (ds n).length ≤ 3 ∧ (Txt.startswith (ds n) "0" = true → n = 0) ∧ PySem.intText? (ds n) = some (n : Int) ∧ ds n ≠ "-" ∧ (∀ c ∈ (ds n).cps.toList, c ≠ 32 ∧ c < 256) := by decide +kernel
end OB
/-! repr of nested data of None, truths, ints, texts, lists and tuples: a bound of its length that is reckoned part by part. -/
namespace OB
open PySem PySem.Spec PyProof.Rows L2
mutual
/-- a bound for the length of the text -/
def sz : PyData → Nat
  | .none => 4
  | .bool _ => 5
  | .int _ => 1921
  | .str x => 10 * x.length + 2
  | .list xs => szAll xs + 2
  | .tuple xs => szAll xs + 2
  | .dict _ => 0
def szAll : List PyData → Nat
  | [] => 0
  | x :: xs => sz x + 2 + szAll xs
end
mutual
/-- ints that are not too great, texts of signs; no dict -/
def nice : PyData → Bool
  | .none | .bool _ => true
  | .int i => decide (i.natAbs.log2 < 1920)
  | .str x => x.cps.toList.all fun c => decide (c < 1114112)
  | .list xs | .tuple xs => niceAll xs
  | .dict _ => false
def niceAll : List PyData → Bool
  | [] => true
  | x :: xs => nice x && niceAll xs
end
mutual
theorem nice_show : ∀ d, nice d = true → d.showable = true
  | .none, _ => by simp [PyData.showable]
  | .bool _, _ => by simp [PyData.showable]
  | .int _, h => by simpa [nice, PyData.showable] using h
  | .str _, _ => by simp [PyData.showable]
  | .list xs, h => by
    have := niceAll_show xs (by simpa [nice] using h)
    simpa [PyData.showable] using this
  | .tuple xs, h => by
    have := niceAll_show xs (by simpa [nice] using h)
    simpa [PyData.showable] using this
  | .dict _, h => by simp [nice] at h
theorem niceAll_show : ∀ ds, niceAll ds = true → PyData.showableAll ds = true
  | [], _ => by simp [PyData.showableAll]
  | x :: xs, h => by
    have h : nice x = true ∧ niceAll xs = true := by simpa [niceAll] using h
    have h1 := nice_show x h.1
    have h2 := niceAll_show xs h.2
    simp [PyData.showableAll, h1, h2]
end
mutual
theorem shown_sz : ∀ d, nice d = true → d.shown.length ≤ sz d
  | .none, _ => by decide +kernel
  | .bool b, _ => by cases b <;> decide +kernel
  | .int i, h => int_text_len_1921 (by simpa [nice] using h)
  | .str x, h => PySem.StrLaws.reprText_len x fun c hc => by
    have h : (x.cps.toList.all fun c => decide (c < 1114112)) = true := h
    have := of_decide_eq_true (List.all_eq_true.mp h c hc)
    have : (1114112 : Nat) < 16 ^ 8 := by decide
    omega
  | .list xs, h => by
    have a := shownAll_sz xs (by simpa [nice] using h)
    have b := list_len (PyData.shownAll xs)
    show (listText (PyData.shownAll xs)).length ≤ szAll xs + 2
    omega
  | .tuple xs, h => by
    have a := shownAll_sz xs (by simpa [nice] using h)
    have b := fmt_text (PyData.shownAll xs)
    show (tupleText (PyData.shownAll xs)).length ≤ szAll xs + 2
    omega
  | .dict _, h => by simp [nice] at h
theorem shownAll_sz : ∀ ds, niceAll ds = true → piled (PyData.shownAll ds) ≤ szAll ds
  | [], _ => Nat.le_refl _
  | x :: xs, h => by
    have h : nice x = true ∧ niceAll xs = true := by simpa [niceAll] using h
    have h1 := shown_sz x h.1
    have h2 := shownAll_sz xs h.2
    show piled (x.shown :: PyData.shownAll xs) ≤ sz x + 2 + szAll xs
    rw [piled_cons]
    omega
end
theorem nice_ints : ∀ ns : List Int, (∀ n ∈ ns, n.natAbs.log2 < 1920) → niceAll (ns.map PyData.int) = true
  | [], _ => by simp [niceAll]
  | n :: r, h => by
    have h1 := h n List.mem_cons_self
    have h2 := nice_ints r fun x hx => h x (List.mem_cons_of_mem _ hx)
    simp [niceAll, nice, h1, h2]
theorem sz_ints : ∀ ns : List Int, szAll (ns.map PyData.int) = 1923 * ns.length
  | [] => rfl
  | n :: r => by
    have := sz_ints r
    show 1921 + 2 + szAll (r.map PyData.int) = _
    rw [List.length_cons]
    omega
section
variable {X : Cx}
/-- repr of nested data -/
def rReprN (K : PySem.W.Frag) : List V → Hp → VK → Prop := fun xs H Q => ∃ (a : Addr) (d : PyData), xs = [.ref a] ∧ Dp K H (.ref a) d ∧ nice d = true ∧ d.canLay0 = true ∧ d.depth ≤ 60 ∧ sz d ≤ 16000000 ∧ Q (.str d.shown) H
theorem call_reprN (hgd : X.A.guards = some []) (hu : X.A.units + 64 < cLine) : CallR X (.builtin "repr") (rReprN X.K) := by
  intro pins s σ H xs us Q I r h
  obtain ⟨a, d, rfl, hd, hn, hl, hdp, hz, q⟩ := h
  refine call_reprD hgd hu pins s σ H _ us Q I r ⟨a, d, rfl, hd, nice_show d hn, hl, hdp, ?_, q⟩
  have := shown_sz d hn
  rw [sizeLine_eq]
  omega
end
end OB
/-! sorted(set(x)) of a list or a tuple of ints, doubles among them. -/
namespace OB
open PySem PySem.Spec PyProof.Rows L2 SrtO Builtin
section
variable {P : Program} {w : World} {A : Around} {E : Value → Shared → Prop} {s : Shared}
abbrev setObj (w : World) : Obj := { cls := .type "set", dict := none, data := .set #[] 0 (.fresh 0 0 (!w.params.followText "set-order")) }
set_option maxHeartbeats 6400000 in
/-- set(x), x a list of ints -/
theorem set_of_list {l : Addr} {items : Array Value} (ns : List Int) {Q : Value → Shared → Prop} (hh : A.handled = none) (hl : s.heap.IsList l items) (hit : IntsAre items.toList ns) (hb : ns.length + 1 < scanBound)
    (h : ∀ (h' : Heap) (tk c : Nat), SetR w h' s.heap.objs.size (fun j => decide (j ∈ ns)) c → c ≤ ns.length → (∀ b o, s.heap.get? b = some o → h'.get? b = some o) → Q (.ref s.heap.objs.size) { s with heap := h', toks := tk }) :
    wpAny (model P w) A (call (.type "set") [.ref l]) Q E s := by
  have sz : items.size = ns.length := by
    have q := IntsAre.length hit
    rwa [Array.length_toList] at q
  obtain ⟨c, tl, hmro⟩ := F.called_set.mro
  have f1 := F.called_set.made
  have f2 := F.called_set.sub
  refine wpAny_call (codeAny_of_tree ?_)
  show wpAny _ _ (callAny (.type "set") _) _ _ _
  refine wpAny_pure ⟨Code.quiet_builtin _ (by decide +kernel), codeAny_builtin F.entry_type_call ?_⟩
  rw [Around.under_plain (weight_type_call_type "set" [.ref l] []) rfl]
  have f3 := F.called_set.notType
  have f4 := F.called_set.canCreate
  have f5 := F.typeCall_set_1 (.ref l)
  repeat (any_goals (first | assumption | wp_step))
  refine codeAny_mono (code_set_led1 (.ref l) (E := E) (Q₁ := fun z t => z = .ref s.heap.objs.size ∧ t = { s with heap := s.heap.push (setObj w) }) ⟨rfl, rfl⟩) fun r s₁ hr => ?_
  cases r with
  | error e => exact hr
  | ok fl =>
    cases fl with
    | ret obj =>
      obtain ⟨rfl, rfl⟩ := hr
      have hS : (s.heap.push (setObj w)).get? s.heap.objs.size = some (setObj w) := Heap.get?_push_size _ rfl
      have hT : Shared.TypeIs { s with heap := s.heap.push (setObj w) } (.ref s.heap.objs.size) "set" := ⟨_, hS, rfl⟩
      have f6 := F.called_set.init.lookup
      have f7 := F.called_set.init.bind (.ref s.heap.objs.size)
      repeat (any_goals (first | assumption | wp_step))
      refine codeAny_mono (codeAny_call_builtin (R := wants (fun r t => r = .none ∧ ∃ h' tk c, t = { s with heap := h', toks := tk } ∧ SetR w h' s.heap.objs.size (fun j => decide (j ∈ ns)) c ∧ c ≤ ns.length ∧
          (∀ b o, s.heap.get? b = some o → h'.get? b = some o)) E) F.called_set.init.plain F.entry_set_init (check_set_init_1 hT ?_)) fun r₂ s₂ hr₂ => ?_
      · have hlt : l < s.heap.objs.size := by
          obtain ⟨o, e, _⟩ := hl
          exact Heap.lt_size e
        have hl1 : (s.heap.push (setObj w)).IsList l items := hl.push _
        have n1 := F.sub_list_set
        have n2 := F.sub_list_frozenset
        have n3 : (Value.type "list" == Value.type "dict") = false := by decide
        obtain ⟨ol, e0, cl, nl, dl⟩ := id hl1
        unfold Builtin.«set.__init__» noKeywords Builtin.Frozenset.updateFrom
        generalize hPI : pyIter = PI
        obtain ⟨oc, od, dt, os⟩ := ol
        simp only at cl dl
        subst cl dl
        wp_walk
        subst hPI
        refine wpAny_pyIter_list hl1 ?_
        refine wpAny_bind (wpAny_runValue ?_)
        have ne : l ≠ (s.heap.push (setObj w)).objs.size := by
          rw [Heap.size_push]
          exact Nat.ne_of_lt (Nat.lt_succ_of_lt hlt)
        have hSf : s.heap.objs.size ∉ [(s.heap.push (setObj w)).objs.size, l] := by
          rw [Heap.size_push]
          simp only [List.mem_cons, List.mem_singleton, List.not_mem_nil, or_false, not_or]
          exact ⟨Nat.ne_of_lt (Nat.lt_succ_self _), Nat.ne_of_gt hlt⟩
        have hval : ∀ (i : Nat) (v : Value), items[i]? = some v → ∃ k t, ns[i]? = some k ∧ v = .int k t := fun i v hv => by
          have hi : i < ns.length := by
            rw [← sz]
            exact (Array.getElem?_eq_some_iff.mp hv).1
          obtain ⟨t, e⟩ := PyProof.Rows.IntsAre.int_at hit i v (by rw [Array.getElem?_toList]; exact hv)
          refine ⟨ns[i], t, List.getElem?_eq_getElem hi, ?_⟩
          rw [e, List.getD_eq_getElem?_getD, List.getElem?_eq_getElem hi] <;> rfl
        have h3 : A.in1.in1.in1.handled = none := by simp [hh]
        refine set_update_ints ((Walks.list h3 _ l ne items).toS) s.heap.objs.size hSf ns sz hb hval (items.size - 0) 0 _ (by omega) (Nat.zero_le _) ⟨⟨_, Heap.get?_push_size _ rfl, rfl, rfl⟩, (hl1.push _)⟩ ⟨0, Nat.le_refl 0, setR_new_at (Heap.get?_push_of_some _ hS)⟩ ?_
        intro t c' hm hc' hS'
        obtain ⟨h', g2, d', tk', os'⟩ := t
        have eg : g2 = s.gens := hm.gens
        have ed : d' = s.drawn := hm.drawn
        have eo : os' = s.os := hm.os
        subst eg ed eo
        rw [sz] at hc'
        refine wpAny_pure (wpAny_pure ⟨rfl, h', tk', c', rfl, hS', hc', fun b o e => ?_⟩)
        have b0 : b < s.heap.objs.size := Heap.lt_size e
        refine hm.heap b o ?_ (Heap.get?_push_of_some _ (Heap.get?_push_of_some _ e))
        rw [Heap.size_push]
        simp only [List.mem_cons, List.mem_singleton, List.not_mem_nil, or_false, not_or]
        exact ⟨Nat.ne_of_lt b0, Nat.ne_of_lt (Nat.lt_succ_of_lt b0)⟩
      · cases r₂ with
        | error e => exact hr₂
        | ok fl₂ =>
          cases fl₂ with
          | ret r =>
            obtain ⟨rfl, h', tk, c', rfl, k1, k2, k3⟩ := hr₂
            repeat (any_goals (first | assumption | wp_step))
            exact h _ _ _ k1 k2 k3
          | _ => exact hr₂.elim
    | _ => exact hr.elim
/-- sorted(x), x a set of ints -/
theorem sorted_of_set {a : Addr} {S : Int → Bool} {n : Nat} {Q : Value → Shared → Prop} (R : SetR w s.heap a S n) (hh : A.handled = none)
    (hQ : ∀ s' p (out : Array Value) (c : Nat) (ns : List Int), (∀ b o, s.heap.get? b = some o → s'.heap.get? b = some o) → s'.gens = s.gens → s'.os = s.os → s.heap.objs.size ≤ p →
      s'.heap.get? p = some (seqObj "list" out c) → IntsAre out.toList ns → ns.Pairwise (· < ·) → (∀ k, k ∈ ns ↔ S k = true) → ns.length ≤ sizeLine → Q (.ref p) s') :
    wpAny (model P w) A (call (.builtin "sorted") [.ref a]) Q E s := by
  obtain ⟨o, es, ep, t, ho, hex, hd, g, nd, hm, hb, hf, hn, hr, hl⟩ := R
  refine Calls.call_function_entry kind_sorted plain_sorted entry_sorted (args_sorted1 _) ?_
  unfold Builtin.«sorted»
  refine wpAny_bind (m := checkCount "sorted" 1 1 _) (wpAny_pure ?_)
  refine wpAny_bind (collect_set (A := A.in1) hh ⟨o, ho, hex.1, hd⟩ hf hb hr hl fun s1 vs k1 hz g1 o1 pm => ?_)
  have vl : vs.length = n := by rw [pm.length_eq, List.length_map, Array.length_toList]; exact hn
  have sl : vs.length ≤ sizeLine := by
    rw [vl, ← hn]
    have : scanBound ≤ sizeLine := by decide +kernel
    omega
  have hI : IntsAre vs (vs.map Builtin.Re.reRawOf) := ints_of vs fun v hv => by
    obtain ⟨e, he, q⟩ := List.mem_map.mp (pm.mem_iff.mp hv)
    obtain ⟨k, tk, h1, _⟩ := g e he
    exact ⟨k, tk, by rw [← q]; exact h1⟩
  have pk : (vs.map Builtin.Re.reRawOf).Perm (es.toList.map keyOf) := by
    have q := pm.map Builtin.Re.reRawOf
    rwa [List.map_map] at q
  refine wpAny_bind (wpAny_newList ?_ sl)
  have hoL : (s1.heap.push (seqObj "list" vs.toArray 0)).get? s1.heap.objs.size = some (seqObj "list" vs.toArray 0) := Heap.get?_push_size _ rfl
  refine wpAny_bind (wpAny_holding (wpAny_call_entry slot_list_sort ⟨_, hoL, rfl⟩ entry_list_sort (list_sort_ord swo_int hoL sl (fun h2 => ints_sortable hI h2) fun out a1 a2 => ⟨_, rfl, ?_⟩) (args_list_sort _)))
  obtain ⟨i1, i2, i3⟩ := ints_out hI a1 a2
  obtain ⟨c, hc⟩ := sortedHeap_at (vs := vs) (out := out.toArray) hoL
  have pn : (out.map iv).Perm (es.toList.map keyOf) := i2.trans pk
  refine wpAny_pure ⟨_, rfl, hQ _ s1.heap.objs.size out.toArray c (out.map iv) (fun b u e => ?_) g1 o1 hz hc (by simpa using i1) (lt_of_le_nodup _ i3 (pn.nodup_iff.mpr nd)) (fun k => by rw [pn.mem_iff, ← hm k]) ?_⟩
  · have q := k1 b u e
    have hlt := Heap.lt_size q
    show (sortedHeap (s1.heap.push (seqObj "list" vs.toArray 0)) s1.heap.objs.size vs out.toArray).get? b = some u
    rw [sortedHeap_old (Nat.ne_of_lt hlt) (by rw [size_push']; exact Nat.lt_succ_of_lt hlt)]
    exact Heap.get?_push_of_some _ q
  · rw [i2.length_eq, List.length_map]
    exact sl
end
theorem sorted_set_ep {X : Cx} {pins : List (Addr × Obj)} {σ : L2.St} {H : Hp} {s : Shared} {a : Addr} {S : Int → Bool} {n : Nat} {Q : VK} (hc : X.calm = true) (I : Inv X pins σ H s) (R : SetR X.w s.heap a S n)
    (h : ∀ (ms : List Int) (q : Addr), ms.Pairwise (· < ·) → (∀ k, k ∈ ms ↔ S k = true) → H q = none → Q (.ref q) (upd H q (.lst (ms.map V.int)))) : wpAny (model X.prog X.w) X.A (call (.builtin "sorted") [.ref a]) (EP X pins σ Q) X.xe s := by
  refine sorted_of_set R (I.ok.hd hc) fun s' p out c ms k2 g o hp hg hi hs hm hl2 => ?_
  have hz : (ms.map V.int).length ≤ sizeLine := by rw [List.length_map]; exact hl2
  have hn : H p = none := I.hok.fresh hp
  have J : Inv X pins σ (upd H p (.lst (ms.map V.int))) { s with heap := s'.heap, gens := s'.gens, drawn := s'.drawn, toks := s'.toks } :=
    I.call (ch := []) (Un.laid k2 hp hn) (I.hok.laid k2 hp ⟨hz, out.toList, c, vals_of_ints hi, hg⟩) (by rw [g]; exact I.bare) (fun _ z => nomatch z)
  have e : s' = { s with heap := s'.heap, gens := s'.gens, drawn := s'.drawn, toks := s'.toks } := by
    cases s'
    cases s
    cases o
    rfl
  rw [e]
  exact ⟨.ref p, _, J, rfl, h ms p hs hm hn⟩
/-- the unlike ints of x, ascending -/
def tSortedSet (K : PySem.W.Frag) (ta : TE) : TE := fun σ H Q => ta σ H fun x H1 => ∃ (p : Addr) (ns : List Int), x = .ref p ∧ (SqL K H1 p (ns.map V.int) ∨ SqT K H1 p (ns.map V.int)) ∧ ns.length ≤ 2000 ∧
  ∀ (ms : List Int) (q : Addr), ms.Pairwise (· < ·) → (∀ k, k ∈ ms ↔ k ∈ ns) → H1 q = none → Q (.ref q) (upd H1 q (.lst (ms.map V.int)))
theorem pe_sortedSet {X : Cx} {a : Expr} {ta : TE} {p p2 q pos : Pos} (hg : Gl X "sorted") (hm : X.mg "sorted" = none) (hg2 : Gl X "set") (hm2 : X.mg "set" = none) (ha : PE X a ta) (hc : X.calm = true := by rfl)
    (na : starEach [a] X.env = (false, eval a X.env) :: starEach [] X.env := by rfl) : PE X (.Call (.Name "sorted" p) [.Call (.Name "set" p2) [a] [] q] [] pos) (tSortedSet X.K ta) := by
  refine ⟨fun pins s σ H Q I h => ?_⟩
  refine Call_ (ld_blt I hg hm boot_sorted ?_)
  refine PyProof.Rows.callWith_builtin1 (PyProof.Rows.args_cons ?_ rfl) rfl rfl
  refine Call_ (ld_blt I hg2 hm2 boot_set ?_)
  refine PyProof.Rows.callWith_type1 (PyProof.Rows.args_cons (thn (ha.run pins s σ H _ I h) fun v s1 ⟨x, H1, I1, r1, q1⟩ => PyProof.Rows.args_nil ?_) na) na rfl
  obtain ⟨l, ns, rfl, hq, hl, q1⟩ := q1
  cases r1
  have fin : ∀ (h' : Heap) (tk c : Nat), SetR X.w h' s1.heap.objs.size (fun j => decide (j ∈ ns)) c → (∀ b o, s1.heap.get? b = some o → h'.get? b = some o) →
      wpAny (model X.prog X.w) X.A (call (.builtin "sorted") [.ref s1.heap.objs.size]) (EP X pins σ Q) X.xe { s1 with heap := h', toks := tk } := by
    intro h' tk c R k
    have I2 : Inv X pins σ H1 { s1 with heap := h', toks := tk } := I1.kept fun b o e => k b o e
    exact sorted_set_ep hc I2 R fun ms q hs hm hn => q1 ms q hs (fun k => by rw [hm k, decide_eq_true_eq]) hn
  rcases hq with hq | hq
  · obtain ⟨its, r, pl, hz⟩ := I1.list hq
    exact set_of_list ns (I1.ok.hd hc) pl.isList (by simpa using ints_of_vals r) (by unfold scanBound; omega) fun h' tk c R1 hcn k => PyProof.Rows.args_nil (fin h' tk c R1 k)
  · obtain ⟨its, r, pt, hz⟩ := I1.tuple hq
    exact call_set_tupI ns (I1.ok.hd hc) (show s1.heap.IsTuple l its.toArray from pt) (ints_of_vals r) (by unfold scanBound; omega) fun h' tk c R1 hcn k => PyProof.Rows.args_nil (fin h' tk c R1 k)
end OB
namespace K53
open PySem PySem.Spec PyProof.Rows L2 OB SkE
def top (i : Nat) : Stmt := PySem.Challenge.pw_oneflip_k53_stores_made_and_texts_bent.main.body.getD i (.Pass ⟨0, 0, 0, 0⟩)
abbrev s_init_BadWord : Stmt := inClass (top 2) 0
abbrev s_init_BadBits : Stmt := inClass (top 3) 0
abbrev s_init_BadStore : Stmt := inClass (top 4) 0
abbrev s_init_BadDeed : Stmt := inClass (top 5) 0
abbrev s_init_BadText : Stmt := inClass (top 6) 0
abbrev s_is_integer : Stmt := top 9
abbrev s_is_within : Stmt := top 10
abbrev s_is_list : Stmt := top 11
abbrev s_are_unlike : Stmt := top 12
abbrev s_is_lot : Stmt := top 13
abbrev s_lot_of : Stmt := top 14
abbrev s_need_word : Stmt := top 15
abbrev s_need_lot : Stmt := top 16
abbrev s_items_of : Stmt := top 19
abbrev s_integer_of : Stmt := top 20
abbrev s_item_at : Stmt := top 21
abbrev s_integer_at : Stmt := top 22
abbrev s_need_end : Stmt := top 23
abbrev s_flipped : Stmt := top 25
abbrev s_flipped_often : Stmt := top 26
abbrev s_differing : Stmt := top 27
abbrev s__bits_of : Stmt := top 28
abbrev s_Store_init : Stmt := inClass (top 33) 0
abbrev s_Store_eq : Stmt := inClass (top 33) 1
abbrev s_Store_str : Stmt := inClass (top 33) 2
abbrev s_Store_read : Stmt := inClass (top 33) 3
abbrev s_most_rows : Stmt := top 34
abbrev s_need_store : Stmt := top 35
abbrev s_need_word_in : Stmt := top 36
abbrev s_need_values : Stmt := top 37
abbrev s_need_deed : Stmt := top 38
abbrev s_values_in : Stmt := top 39
abbrev s_is_open : Stmt := top 40
abbrev s_rows_in : Stmt := top 41
abbrev s_word_for : Stmt := top 42
abbrev s_mend_plan : Stmt := top 43
abbrev s_deed_plan : Stmt := top 44
abbrev s_done_in : Stmt := top 45
abbrev s_open_bit : Stmt := top 46
abbrev s__is_value : Stmt := top 47
abbrev s__is_gift : Stmt := top 48
abbrev s__has_open : Stmt := top 49
abbrev s__numbers_in : Stmt := top 50
abbrev s__rows_of : Stmt := top 51
abbrev s__word_of_cells : Stmt := top 52
abbrev s__word_of_rows : Stmt := top 53
abbrev s__mended : Stmt := top 54
abbrev s_counting_in : Stmt := top 56
abbrev s_is_plain : Stmt := top 57
abbrev s_shows_whole : Stmt := top 58
abbrev s__is_phase : Stmt := top 59
abbrev s__open_places : Stmt := top 60
abbrev s__counts : Stmt := top 61
abbrev s__is_steering : Stmt := top 62
abbrev s__counting_of : Stmt := top 63
abbrev s__is_plain : Stmt := top 64
abbrev s__law_shed : Stmt := top 66
abbrev s__law_hang : Stmt := top 67
abbrev s__law_pick : Stmt := top 68
abbrev s__law_heard : Stmt := top 69
abbrev s__law_is_in : Stmt := top 70
abbrev s__law_made_right : Stmt := top 71
abbrev s__law_number : Stmt := top 72
abbrev s__law_due : Stmt := top 73
abbrev s__law_bent : Stmt := top 74
abbrev s_law : Stmt := top 75
theorem sc_init_BadWord : FnScope ["self", "part"] ["self", "part"] (defScope s_init_BadWord) := ⟨rfl, rfl, rfl, by decide +kernel, rfl, by decide +kernel, by decide +kernel⟩
theorem sc_init_BadBits : FnScope ["self", "part"] ["self", "part"] (defScope s_init_BadBits) := ⟨rfl, rfl, rfl, by decide +kernel, rfl, by decide +kernel, by decide +kernel⟩
theorem sc_init_BadStore : FnScope ["self", "part"] ["self", "part"] (defScope s_init_BadStore) := ⟨rfl, rfl, rfl, by decide +kernel, rfl, by decide +kernel, by decide +kernel⟩
theorem sc_init_BadDeed : FnScope ["self", "part"] ["self", "part"] (defScope s_init_BadDeed) := ⟨rfl, rfl, rfl, by decide +kernel, rfl, by decide +kernel, by decide +kernel⟩
theorem sc_init_BadText : FnScope ["self", "line", "item"] ["self", "line", "item"] (defScope s_init_BadText) := ⟨rfl, rfl, rfl, by decide +kernel, rfl, by decide +kernel, by decide +kernel⟩
/-- what the module leaves as it is, and its own constants -/
structure Blt (mg : Str → Option Value) : Prop where
  g_MOST_BIT : ∃ t, mg "MOST_BIT" = some (.int 20000 t)
  g_MOST_DIGITS : ∃ t, mg "MOST_DIGITS" = some (.int 140 t)
  g_MOST_CELLS : ∃ t, mg "MOST_CELLS" = some (.int 256 t)
  g_MOST_SIZE : ∃ t, mg "MOST_SIZE" = some (.int 48 t)
  g_MOST_ROWS : ∃ t, mg "MOST_ROWS" = some (.int 8 t)
  n_abs : mg "abs" = none
  n_all : mg "all" = none
  n_bool : mg "bool" = none
  n_enumerate : mg "enumerate" = none
  n_int : mg "int" = none
  n_isinstance : mg "isinstance" = none
  n_len : mg "len" = none
  n_list : mg "list" = none
  n_min : mg "min" = none
  n_range : mg "range" = none
  n_repr : mg "repr" = none
  n_set : mg "set" = none
  n_sorted : mg "sorted" = none
  n_str : mg "str" = none
  n_sum : mg "sum" = none
  n_tuple : mg "tuple" = none
section
variable {P : Program} {w : World} {K : PySem.W.Frag} {mg : Str → Option Value} {base : Heap}
/-! ### checks -/
theorem sc_is_integer : FnScope ["value"] ["value"] (defScope s_is_integer) := ⟨rfl, rfl, rfl, by decide +kernel, rfl, by decide +kernel, by decide +kernel⟩
theorem ok_is_integer {f : Addr} {fd : FuncData} (F : Fun K "is_integer" "is_integer" s_is_integer f fd) (T : Blt mg) : FnOk P w K mg base CX0 1 f fd ["value"] (spIsInt K) := by
  refine F.ok sc_is_integer (fun vs H Q E h => ?_) (fun cdv A outer s H vs Q E hr h => ?_)
  · obtain ⟨x, b, rfl, _⟩ := h
    rfl
  · obtain ⟨x, b, rfl, ⟨n, b1, b2, ty, e1, e2, e3⟩, k⟩ := h
    refine ⟨_, (pss_one (ps_ret (pe_and (pe_callB call_isi (by rfl) T.n_isinstance (by decide +kernel) (pa_cons (pv 0) (pa_cons (pe_bltn (v := .ty "int") (by rfl) T.n_int (by decide +kernel) rfl) pa_nil))) (pe_one (pe_not (pe_callB call_isi (by rfl) T.n_isinstance (by decide +kernel) (pa_cons (pv 0) (pa_cons (pe_bltn (v := .ty "bool") (by rfl) T.n_bool (by decide +kernel) rfl) pa_nil)))))))), ?_⟩
    refine ⟨x, rfl, x, .ty "int", .type n, .type "int", b1, rfl, .ty _, ty, kit_ty e1, b1, rfl, ?_⟩
    refine iteB (fun c => ?_) (fun c => ?_)
    · refine ⟨x, rfl, x, .ty "bool", .type n, .type "bool", b2, rfl, .ty _, ty, kit_ty e2, b2, rfl, ?_⟩
      rw [c] at e3
      rw [show (!b2) = b by rw [e3, Bool.true_and]]
      exact k
    · rw [c] at e3
      rw [show false = b by rw [e3, Bool.false_and]]
      exact k
theorem sc_is_within : FnScope ["value", "least", "most"] ["value", "least", "most"] (defScope s_is_within) := ⟨rfl, rfl, rfl, by decide +kernel, rfl, by decide +kernel, by decide +kernel⟩
theorem within_end {lo hi : Option Int} {x : V} {b : Bool} {Q : VK} {H : Hp} (hI : IsI K H x b) (k : Q (.bl (b && inB lo hi x)) H) (hb : b = true) : ∃ i, x = .int i ∧ Q (.bl (loOk lo i && hiOk hi i)) H := by
  subst hb
  obtain ⟨i, rfl⟩ := isI_true hI
  exact ⟨i, rfl, k⟩
theorem ok_is_within {f f1 : Addr} {fd fd1 : FuncData} (F : Fun K "is_within" "is_within" s_is_within f fd) (D_is_integer : Df K mg "is_integer" s_is_integer ["value"] f1 fd1) (T : Blt mg) : FnOk P w K mg base CX0 2 f fd ["value", "least", "most"] (spWithin K) := by
  have G_is_integer : FnOk P w K mg base CX0 1 f1 fd1 ["value"] (spIsInt K) := ok_is_integer D_is_integer.F T
  refine F.ok sc_is_within (fun vs H Q E h => ?_) (fun cdv A outer s H vs Q E hr h => ?_)
  · obtain ⟨x, lo, hi, b, rfl, _⟩ := h
    rfl
  · obtain ⟨x, lo, hi, b, rfl, hI, k⟩ := h
    refine ⟨_, (pss_cons (ps_if (pt_not (pt_val (pe_call G_is_integer (hr.mono (by decide)) (by rfl) D_is_integer.g D_is_integer.F.kp D_is_integer.b .nil pass0 (pa_cons (pv 0) pa_nil)))) (pss_one (ps_ret pe_bl)) pss_nil)
  (pss_one (ps_ret (pe_and (pe_or (pe_cmpR op_isN (pv 1) pe_non (nomark _)) (pe_one (pe_cmpR op_le (pv 1) (pv 0) (nomark _)))) (pe_one (pe_or (pe_cmpR op_isN (pv 2) pe_non (nomark _)) (pe_one (pe_cmpR op_le (pv 0) (pv 2) (nomark _))))))))), ?_⟩
    refine ⟨x, rfl, x, b, rfl, hI, b, rfl, ?_⟩
    cases b with
    | false => exact iteT k
    | true =>
      obtain ⟨i, rfl, k'⟩ := within_end hI k rfl
      clear k
      have k := k'
      clear k'
      refine iteF ?_
      refine ⟨_, rfl, rfl, _, rfl, ?_⟩
      cases lo with
      | none =>
        refine iteT ?_
        refine ⟨_, rfl, iteT ?_⟩
        refine ⟨_, rfl, rfl, _, rfl, ?_⟩
        cases hi with
        | none => exact iteT k
        | some h => exact iteF ⟨_, rfl, _, rfl, _, _, rfl, rfl, k⟩
      | some l =>
        refine iteF ?_
        refine ⟨_, rfl, _, rfl, _, _, rfl, rfl, _, rfl, ?_⟩
        refine iteB (fun c => ?_) (fun c => ?_)
        · refine ⟨_, rfl, rfl, _, rfl, ?_⟩
          have e : loOk (some l) i = true := c
          rw [e, Bool.true_and] at k
          cases hi with
          | none => exact iteT k
          | some h => exact iteF ⟨_, rfl, _, rfl, _, _, rfl, rfl, k⟩
        · have e : loOk (some l) i = false := c
          rw [e, Bool.false_and] at k
          exact k
end
end K53
namespace K53
open PySem PySem.Spec PyProof.Rows L2 OB SkE
section
variable {P : Program} {w : World} {K : PySem.W.Frag} {mg : Str → Option Value} {base : Heap}
theorem cut60 (ns : List Int) : cutV (ns.map V.int) none (some 60) = (ns.take 60).map V.int := by
  unfold cutV
  have a : HT.sIx (ns.map V.int).length 0 none = 0 := rfl
  rw [a, List.drop_zero, Nat.sub_zero, List.map_take]
  have e : HT.sIx (ns.map V.int).length (ns.map V.int).length (some 60) = min 60 (ns.map V.int).length := HT.sIx_nat _ _ 60
  rw [e]
  by_cases h : (ns.map V.int).length ≤ 60
  · rw [Nat.min_eq_right h, List.take_length, List.take_of_length_le h]
  · rw [Nat.min_eq_left (by omega)]
theorem take_more {α : Type} {l : List α} {i : Nat} {x : α} (h : l[i]? = some x) : l.take (i + 1) = l.take i ++ [x] := by
  rw [List.take_add_one, h]
  rfl
theorem sc__law_shed : FnScope ["script", "cell"] ["script"] (defScope s__law_shed) := ⟨rfl, rfl, rfl, by decide +kernel, rfl, by decide +kernel, by decide +kernel⟩
abbrev N__law_shed : List Str := ["script", "cell"]
theorem ok__law_shed {f : Addr} {fd : FuncData} (F : Fun K "_law_shed" "_law_shed" s__law_shed f fd) (T : Blt mg) : FnOk P w K mg base CX0 1 f fd ["script"] (spLot K) := by
  refine F.ok sc__law_shed (fun vs H Q E h => ?_) (fun cdv A outer s H vs Q E hr h => ?_)
  · obtain ⟨a, ns, rfl, _⟩ := h
    rfl
  · obtain ⟨a, ns, rfl, hS, hl, k⟩ := h
    refine ⟨_, (pss_one (ps_ret (pe_lst (pa_cons (pe_lc (own := [("cell", 1)]) (g := (gName 1)) (tt := tYes) rfl sc__law_shed.nd (pi_list (pe_slice sl_list (pv 0) po_none (po_some pe_int))) (blkOk_by (N := N__law_shed) (own := [("cell", 1)]) (sc := defScope s__law_shed) (by decide +kernel)) (fun _ _ _ _ _ => (pg_name (i := 1) sc__law_shed.nd rfl (Or.inl rfl))) (fun _ _ _ _ _ => pts_nil) (fun _ _ _ _ _ => (pe_callTy call_int1 (by rfl) T.n_int (by decide +kernel) (pa_cons (pv 1) pa_nil)))) (pa_cons pe_int (pa_cons pe_int pa_nil)))))), ?_⟩
    refine ⟨_, rfl, _, rfl, a, _, rfl, hS, fun c hc => ?_⟩
    have e1 : cutV (ns.map V.int) none (some 60) = (ns.take 60).map V.int := cut60 ns
    rw [e1]
    have S0 : Same H (upd H c (.lst ((ns.take 60).map V.int))) := same_new hc
    refine ⟨c, rfl, ⟨_, .inl (.inl upd_same)⟩, fun b hb => ?_⟩
    have ncb : c ≠ b := ne_of_none upd_same hb
    refine lc_list (K := K) (a := c) (xs := (ns.take 60).map V.int) (fun i H' => Same (upd H c (.lst ((ns.take 60).map V.int))) H' ∧ H' b = some (.lst (((ns.take 60).map V.int).take i)))
      ⟨same_new hb, upd_same⟩ (fun i H' _ h => h.1.seq (.inl (.inl upd_same))) ?_ ?_
    · rintro i y H' hy ⟨S1, h1⟩
      obtain ⟨z, hz, rfl⟩ : ∃ z, (ns.take 60)[i]? = some z ∧ y = V.int z := by
        rw [List.getElem?_map] at hy
        cases e : (ns.take 60)[i]? with
        | none => rw [e] at hy; cases hy
        | some z => rw [e] at hy; exact ⟨z, rfl, (Option.some.inj hy).symm⟩
      refine ⟨rfl, _, rfl, .inl ⟨_, rfl, _, h1, ?_, ?_, ?_⟩⟩
      · refine small1000 ?_
        rw [List.length_take, List.length_map, List.length_take]
        omega
      · intro q o e
        have nb : q ≠ b := ne_of_none e hb
        rw [upd_ne nb]
        exact S1 q o e
      · rw [upd_same, ← List.map_take, ← List.map_take, take_more hz, List.map_append]
        rfl
    · rintro H' ⟨S1, h1⟩
      rw [List.take_length] at h1
      refine ⟨(by show 3 ≤ sizeLine; decide), fun p hp => ?_⟩
      have S2 : Same H H' := S0.trans S1
      have hb0 : H b = none := S0.free hb
      refine k p b _ (S2.free hp) hb0 ⟨ns.take 60, 0, 0, upd_same, ?_, Int.le_refl _, Int.le_refl _⟩ (S2.trans (same_new hp))
      rw [upd_ne (ne_of_none h1 hp)]
      exact h1
theorem sc__law_hang : FnScope ["shed", "many", "left", "turn", "cell", "mixed"] ["shed", "many"] (defScope s__law_hang) := ⟨rfl, rfl, rfl, by decide +kernel, rfl, by decide +kernel, by decide +kernel⟩
theorem ok__law_hang {f : Addr} {fd : FuncData} (F : Fun K "_law_hang" "_law_hang" s__law_hang f fd) (T : Blt mg) : FnOk P w K mg base CX0 1 f fd ["shed", "many"] spDraw := by
  refine F.ok sc__law_hang (fun vs H Q E h => ?_) (fun cdv A outer s H vs Q E hr h => ?_)
  · obtain ⟨p, b, n, many, rfl, _⟩ := h
    rfl
  · obtain ⟨p, b, n, many, rfl, O, hn, hm, hm2, k⟩ := h
    obtain ⟨ns, t, l, hp, hb, ht, htn⟩ := id O
    have npb : p ≠ b := O.ne
    refine ⟨_, (pss_cons (ps_if (pt_cmpR op_gt (pe_ix ix_list (pv 0) pe_int (fun _ _ => rfl)) pe_int (nomark _)) (pss_cons (ps_set (i := 2) sc__law_hang.nd rfl (Or.inl rfl) (pe_callTy call_int1 (by rfl) T.n_int (by decide +kernel) (pa_cons (pe_ix ix_list (pv 0) pe_int (fun _ _ => rfl)) pa_nil)))
  (pss_cons (ps_asg (pe_op op_fdivW (pv 2) (pv 1)) (pg_sub (pv 0) pe_int set_list))
  (pss_one (ps_ret (pe_op op_mod (pe_callTy call_int1 (by rfl) T.n_int (by decide +kernel) (pa_cons (pv 2) pa_nil)) (pv 1)))))) pss_nil)
  (pss_cons (ps_set (i := 3) sc__law_hang.nd rfl (Or.inl rfl) (pe_ix ix_list (pv 0) pe_int (fun _ _ => rfl)))
  (pss_cons (ps_asg (pe_op op_add (pv 3) pe_int) (pg_sub (pv 0) pe_int set_list))
  (pss_cons (ps_set (i := 4) sc__law_hang.nd rfl (Or.inl rfl) (pe_op op_add (pe_op op_mul pe_int (pv 3)) pe_int))
  (C8.pss_cut (ps_if (pt_cmpR (op_neD hr.units) (pe_ix ix_list (pv 0) pe_int (fun _ _ => rfl)) (pe_lst pa_nil) (nomark _)) (pss_one (ps_set (i := 4) sc__law_hang.nd rfl (Or.inl rfl) (pe_ix ix_list (pe_ix ix_list (pv 0) pe_int (fun _ _ => rfl)) (pe_op op_mod (pe_callTy call_int1 (by rfl) T.n_int (by decide +kernel) (pa_cons (pv 3) pa_nil)) (pe_callB call_len_seq (by rfl) T.n_len (by decide +kernel) (pa_cons (pe_ix ix_list (pv 0) pe_int (fun _ _ => rfl)) pa_nil))) (fun _ _ => rfl)))) pss_nil)
  (pss_cons (ps_if (PW.pt (pw_and (pt_cmpR op_lt (pv 3) (pe_callB call_len_seq (by rfl) T.n_len (by decide +kernel) (pa_cons (pe_ix ix_list (pv 0) pe_int (fun _ _ => rfl)) pa_nil)) (nomark _)) (pw_and1 (pt_cmpR op_ge (pe_callB call_abs (by rfl) T.n_abs (by decide +kernel) (pa_cons (pv 4) pa_nil)) (pe_op op_pow pe_int pe_int) (nomark _))))) (pss_cons (ps_set (i := 2) sc__law_hang.nd rfl (Or.inl rfl) (pe_op op_add (pe_op op_mul pe_int (pe_op op_sub (pe_callB call_abs (by rfl) T.n_abs (by decide +kernel) (pa_cons (pe_callTy call_int1 (by rfl) T.n_int (by decide +kernel) (pa_cons (pv 4) pa_nil)) pa_nil)) (pe_op op_pow pe_int pe_int))) (pe_callTy call_int1 (by rfl) T.n_int (by decide +kernel) (pa_cons (pe_cmpR op_lt (pv 4) pe_int (nomark _)) pa_nil))))
  (pss_cons (ps_asg (pe_op op_fdivW (pv 2) (pv 1)) (pg_sub (pv 0) pe_int set_list))
  (pss_one (ps_ret (pe_op op_mod (pe_callTy call_int1 (by rfl) T.n_int (by decide +kernel) (pa_cons (pv 2) pa_nil)) (pv 1)))))) pss_nil)
  (pss_cons (ps_set (i := 5) sc__law_hang.nd rfl (Or.inl rfl) (pe_op op_mod (pe_callTy call_int1 (by rfl) T.n_int (by decide +kernel) (pa_cons (pe_op op_pow (pe_op op_add (pe_op op_add (pe_op op_mod (pe_callTy call_int1 (by rfl) T.n_int (by decide +kernel) (pa_cons (pv 4) pa_nil)) pe_int) (pe_op op_mul pe_int (pv 3))) pe_int) pe_int) pa_nil)) pe_int))
  (pss_cons (ps_set (i := 5) sc__law_hang.nd rfl (Or.inl rfl) (pe_op op_mod (pe_callTy call_int1 (by rfl) T.n_int (by decide +kernel) (pa_cons (pe_op op_pow (pe_op op_add (pe_op op_add (pe_op op_mul (pv 5) (pe_op op_add (pe_op op_mul pe_int (pv 3)) pe_int)) (pe_op op_mul (pe_op op_mul pe_int (pv 3)) (pv 3))) pe_int) pe_int) pa_nil)) pe_int))
  (pss_one (ps_ret (pe_op op_mod (pe_callTy call_int1 (by rfl) T.n_int (by decide +kernel) (pa_cons (pe_op op_fdiv (pv 5) pe_int) pa_nil)) (pv 1)))))))))))), ?_⟩
    -- quay[2] > 0
    refine ⟨_, rfl, p, _, _, _, rfl, rfl, SqL.of hp, rfl, _, _, rfl, rfl, _, rfl, ?_⟩
    refine ite2 (fun c => ?_) (fun c => ?_)
    · -- left = int(quay[2]); quay[2] = left // many; return int(left) % many
      refine ⟨_, rfl, p, _, _, _, rfl, rfl, SqL.of hp, rfl, .inl ⟨_, rfl, ?_⟩⟩
      refine ⟨_, rfl, _, rfl, _, _, rfl, rfl, wide_div hm hm2 (by decide) (by decide), _, rfl, p, _, _, _, rfl, rfl, hp, rfl, ?_⟩
      refine ⟨_, rfl, .inl ⟨_, rfl, _, rfl, _, _, rfl, rfl, hm, ?_⟩⟩
      refine k _ _ (Int.emod_nonneg _ (by omega)) (Int.emod_lt_of_pos _ hm) ⟨ns, t, _, upd_same, ?_, ht, by omega⟩ but_at
      rw [upd_ne npb.symm]
      exact hb
    · -- turn = quay[1]; quay[1] = turn + 1; cell = A * turn + B
      refine ⟨_, rfl, p, _, _, _, rfl, rfl, SqL.of hp, rfl, ?_⟩
      refine ⟨_, rfl, _, _, rfl, rfl, _, rfl, p, _, _, _, rfl, rfl, hp, rfl, ?_⟩
      refine ⟨_, rfl, _, _, rfl, rfl, .inl ⟨by decide, by decide⟩, _, _, rfl, rfl, ?_⟩
      -- quay[0] != []
      refine ⟨fun σ' H' => ∃ c0 : Int, σ' = [some (.ref p), some (.int many), none, some (.int t), some (.int c0), none] ∧ H' p = some (.lst [.ref b, .int (t + 1), .int l]) ∧ H' b = some (.lst (ns.map V.int)) ∧ But p H H', ?_, ?_⟩
      rotate_left
      · rintro σ' H' ⟨c0, rfl, hp2, hb2, S2⟩
        have ht2 : t ≤ 1000000 := by omega
        have fin : ∀ r : Int, 0 ≤ r → r < many → Q (.int r) H' := fun r h1 h2 => k r H' h1 h2 ⟨ns, t + 1, l, hp2, hb2, by omega, by omega⟩ S2
        have end_ : ∀ x : Int, Q (.int (x % many)) H' := fun x => fin _ (Int.emod_nonneg _ (by omega)) (Int.emod_lt_of_pos _ hm)
        refine ⟨_, rfl, _, rfl, p, _, _, _, rfl, rfl, SqL.of hp2, rfl, b, _, rfl, .inl (SqL.of hb2), _, _, rfl, rfl, _, rfl, ?_⟩
        refine ite2 (fun c1 => ?_) (fun c1 => ?_)
        · refine ⟨_, rfl, _, rfl, _, _, rfl, rfl, ⟨by decide, by decide, by decide⟩, _, _, rfl, rfl, _, rfl, ?_⟩
          refine ite2 (fun c2 => ?_) (fun c2 => ?_)
          · refine ⟨_, rfl, .inl ⟨_, rfl, _, rfl, _, _, rfl, rfl, ⟨by decide, by decide, by decide⟩, _, _, rfl, rfl, _, _, rfl, rfl, .inl ⟨by decide, by decide⟩, ?_⟩⟩
            refine ⟨_, rfl, _, _, rfl, rfl, .inr ⟨_, rfl, _, _, rfl, rfl, ?_⟩⟩
            refine ⟨_, rfl, _, rfl, _, _, rfl, rfl, wide_div hm hm2 (by decide) (by decide), _, rfl, p, _, _, _, rfl, rfl, hp2, rfl, ?_⟩
            refine ⟨_, rfl, .inl ⟨_, rfl, _, rfl, _, _, rfl, rfl, hm, ?_⟩⟩
            refine k _ _ (Int.emod_nonneg _ (by omega)) (Int.emod_lt_of_pos _ hm) ⟨ns, t + 1, _, upd_same, ?_, by omega, by omega⟩ (S2.trans but_at)
            rw [upd_ne npb.symm]
            exact hb2
          · refine ⟨_, rfl, .inl ⟨_, rfl, _, _, rfl, rfl, (by show (0 : Int) < _; decide), _, rfl, _, _, rfl, rfl, .inl ⟨by decide, by decide⟩, _, _, rfl, rfl, _, _, rfl, rfl, _, _, rfl, rfl, ⟨by decide, by decide, mix1 (by decide) (by decide) ht ht2 (by decide) (by decide) (by decide) (by decide)⟩, .inl ⟨_, rfl, _, _, rfl, rfl, (by show (0 : Int) < _; decide), ?_⟩⟩⟩
            refine ⟨_, rfl, _, rfl, _, _, rfl, rfl, .inl ⟨by decide, by decide⟩, _, _, rfl, rfl, _, _, rfl, rfl, .inl (mod_lim (by decide) (by decide)), _, rfl, _, _, rfl, rfl, .inl ⟨by decide, by decide⟩, _, rfl, _, _, rfl, rfl, .inr ⟨by omega, by omega⟩, _, _, rfl, rfl, _, _, rfl, rfl, _, _, rfl, rfl,
              ⟨by decide, by decide, mix2 (by decide) (by decide) ht ht2 (by decide) (by decide) (by decide) (by decide) (by decide) (by decide)⟩, .inl ⟨_, rfl, _, _, rfl, rfl, (by show (0 : Int) < _; decide), ?_⟩⟩
            exact ⟨_, rfl, _, _, rfl, rfl, ⟨by decide, by decide⟩, .inl ⟨_, rfl, _, rfl, _, _, rfl, rfl, hm, end_ _⟩⟩
        · refine ⟨_, rfl, .inl ⟨_, rfl, _, _, rfl, rfl, (by show (0 : Int) < _; decide), _, rfl, _, _, rfl, rfl, .inl ⟨by decide, by decide⟩, _, _, rfl, rfl, _, _, rfl, rfl, _, _, rfl, rfl, ⟨by decide, by decide, mix1 (by decide) (by decide) ht ht2 (by decide) (by decide) (by decide) (by decide)⟩, .inl ⟨_, rfl, _, _, rfl, rfl, (by show (0 : Int) < _; decide), ?_⟩⟩⟩
          refine ⟨_, rfl, _, rfl, _, _, rfl, rfl, .inl ⟨by decide, by decide⟩, _, _, rfl, rfl, _, _, rfl, rfl, .inl (mod_lim (by decide) (by decide)), _, rfl, _, _, rfl, rfl, .inl ⟨by decide, by decide⟩, _, rfl, _, _, rfl, rfl, .inr ⟨by omega, by omega⟩, _, _, rfl, rfl, _, _, rfl, rfl, _, _, rfl, rfl,
            ⟨by decide, by decide, mix2 (by decide) (by decide) ht ht2 (by decide) (by decide) (by decide) (by decide) (by decide) (by decide)⟩, .inl ⟨_, rfl, _, _, rfl, rfl, (by show (0 : Int) < _; decide), ?_⟩⟩
          exact ⟨_, rfl, _, _, rfl, rfl, ⟨by decide, by decide⟩, .inl ⟨_, rfl, _, rfl, _, _, rfl, rfl, hm, end_ _⟩⟩
      refine ⟨_, rfl, p, _, _, _, rfl, rfl, SqL.of upd_same, rfl, Nat.zero_le _, fun l0 hl0 => ?_⟩
      have hp1 : (upd (upd H p (.lst [.ref b, .int (t + 1), .int l])) l0 (.lst [])) p = some (.lst [.ref b, .int (t + 1), .int l]) := by
        rw [upd_ne (ne_of_none upd_same hl0), upd_same]
      have hb1 : (upd (upd H p (.lst [.ref b, .int (t + 1), .int l])) l0 (.lst [])) b = some (.lst (ns.map V.int)) := by
        have e : (upd H p (.lst [.ref b, .int (t + 1), .int l])) b = some (.lst (ns.map V.int)) := by
          rw [upd_ne npb.symm]
          exact hb
        rw [upd_ne (ne_of_none e hl0)]
        exact e
      have S1 : But p H (upd (upd H p (.lst [.ref b, .int (t + 1), .int l])) l0 (.lst [])) := but_at.trans (But.of (same_new hl0))
      refine ⟨.list (ns.map PyData.int), .list [], Dp.lst (SqL.of hb1) (dp_ints ns), Dp.lst (SqL.of upd_same) .nil, shaped_ints ns, shaped_ints [], _, rfl, ?_⟩
      rw [eqv_nil]
      refine ite2 (fun c => ?_) (fun c => ?_)
      · have c : ns ≠ [] := by simpa using c
        have hl : 0 < ns.length := List.length_pos_iff.mpr c
        have hl2 : (0 : Int) < ((ns.map V.int).length : Nat) := by
          rw [List.length_map]
          omega
        have h1 := Int.emod_nonneg t (show (((ns.map V.int).length : Nat) : Int) ≠ 0 by omega)
        have h2 := Int.emod_lt_of_pos t hl2
        obtain ⟨j, hj⟩ : ∃ j : Nat, t % (((ns.map V.int).length : Nat) : Int) = (j : Int) := ⟨_, (Int.toNat_of_nonneg h1).symm⟩
        have hj2 : j < ns.length := by
          rw [List.length_map] at hj h2
          omega
        have hx : (ns.map V.int)[j]? = some (V.int ns[j]) := by
          rw [List.getElem?_map, List.getElem?_eq_getElem hj2]
          rfl
        refine ⟨_, rfl, p, _, _, _, rfl, rfl, SqL.of hp1, rfl, ?_⟩
        refine ⟨_, rfl, .inl ⟨_, rfl, _, rfl, p, _, _, _, rfl, rfl, SqL.of hp1, rfl, b, _, rfl, .inl (SqL.of hb1), _, _, rfl, rfl, hl2, ?_⟩⟩
        exact ⟨b, _, _, V.int ns[j], rfl, rfl, SqL.of hb1, at_of hj hx, ns[j], rfl, hp1, hb1, S1⟩
      · exact ⟨_, rfl, hp1, hb1, S1⟩

/-- one of some things, drawn -/
def spOne : Sp := fun vs H Q _ => ∃ (p b l : Addr) (n : Nat) (xs : List V), vs = [.ref p, .ref l] ∧ Orch H p b n ∧ n < 1000000 ∧ H l = some (.lst xs) ∧ l ≠ p ∧ 0 < xs.length ∧ xs.length ≤ 1000 ∧
  ∀ (j : Nat) (x : V) (H' : Hp), xs[j]? = some x → Orch H' p b (n + 1) → But p H H' → Q x H'

theorem sc__law_pick : FnScope ["shed", "some"] ["shed", "some"] (defScope s__law_pick) := ⟨rfl, rfl, rfl, by decide +kernel, rfl, by decide +kernel, by decide +kernel⟩
theorem ok__law_pick {f f1 : Addr} {fd fd1 : FuncData} (F : Fun K "_law_pick" "_law_pick" s__law_pick f fd) (T : Blt mg) (D__law_hang : Df K mg "_law_hang" s__law_hang ["shed", "many"] f1 fd1) : FnOk P w K mg base CX0 2 f fd ["shed", "some"] spOne := by
  have G__law_hang : FnOk P w K mg base CX0 1 f1 fd1 ["shed", "many"] spDraw := ok__law_hang D__law_hang.F T
  refine F.ok sc__law_pick (fun vs H Q E h => ?_) (fun cdv A outer s H vs Q E hr h => ?_)
  · obtain ⟨p, b, l, n, xs, rfl, _⟩ := h
    rfl
  · obtain ⟨p, b, l, n, xs, rfl, O, hn, hl, nlp, h0, h1, k⟩ := h
    refine ⟨_, (pss_one (ps_ret (pe_ix ix_list (pv 1) (pe_call G__law_hang (hr.mono (by decide)) (by rfl) D__law_hang.g D__law_hang.F.kp D__law_hang.b .nil pass0 (pa_cons (pv 0) (pa_cons (pe_callB call_len_seq (by rfl) T.n_len (by decide +kernel) (pa_cons (pv 1) pa_nil)) pa_nil))) (fun _ _ => rfl)))), ?_⟩
    refine ⟨_, rfl, _, rfl, _, rfl, l, xs, rfl, .inl (SqL.of hl), p, b, n, _, rfl, O, hn, by omega, ?_, fun r H' r0 r1 O' B' => ?_⟩
    · show (xs.length : Int).natAbs < 2 ^ 9000
      rw [Int.natAbs_natCast]
      exact Nat.lt_of_le_of_lt h1 (by decide)
    · obtain ⟨j, rfl⟩ := Int.eq_ofNat_of_zero_le r0
      have hj : j < xs.length := by omega
      exact ⟨l, xs, _, xs[j], rfl, rfl, SqL.of (B' l _ hl nlp), atI_nat (List.getElem?_eq_getElem hj), k j _ H' (List.getElem?_eq_getElem hj) O' B'⟩

end
end K53
/-! Texts of numbers: what the program's integer_of tells of any text. -/
namespace MT
open PySem PySem.Spec PyProof.Rows L2
abbrev cs (s : Str) : List Nat := s.cps.toList
def dig (c : Nat) : Bool := decide (48 ≤ c) && decide (c ≤ 57)
def digs (l : List Nat) : Bool := !l.isEmpty && l.all dig
def worth (l : List Nat) : Nat := l.foldl (fun n c => n * 10 + (c - 48)) 0
theorem len_cs (s : Str) : (cs s).length = s.length := by
  show s.cps.toList.length = s.cps.size
  simp
theorem str_ext {s t : Str} (h : cs s = cs t) : s = t := by
  cases s; cases t
  exact congrArg Str.mk (Array.toList_inj.mp h)
theorem ascii_dig : ∀ c < 128, Unicode.isDigit c = dig c := by decide +kernel
theorem digit_iff (s : Str) : (Txt.isascii s && Txt.isdigit s) = digs (cs s) := by
  unfold Txt.isascii Txt.isdigit digs
  have e1 : decide (s.length > 0) = !(cs s).isEmpty := by
    rw [← len_cs]
    cases cs s <;> simp
  rw [e1]
  rw [← Array.all_toList, ← Array.all_toList]
  show ((cs s).all (fun x => decide (x < 128)) && (!(cs s).isEmpty && (cs s).all Unicode.isDigit)) = _
  generalize cs s = l
  rw [Bool.and_left_comm]
  refine congrArg (fun b => (!l.isEmpty) && b) ?_
  induction l with
  | nil => rfl
  | cons a r ih =>
    simp only [List.all_cons]
    rw [← ih]
    by_cases h : a < 128
    · rw [ascii_dig a h, decide_eq_true h]
      cases dig a <;> cases (r.all fun x => decide (x < 128)) <;> cases r.all Unicode.isDigit <;> rfl
    · have : dig a = false := by
        unfold dig
        rw [decide_eq_false (show ¬ a ≤ 57 by omega), Bool.and_false]
      rw [this, decide_eq_false h]
      rfl
theorem digs_all {l : List Nat} (h : digs l = true) : ∀ c ∈ l, 48 ≤ c ∧ c ≤ 57 := by
  unfold digs at h
  rw [Bool.and_eq_true] at h
  intro c hc
  have := List.all_eq_true.mp h.2 c hc
  unfold dig at this
  rw [Bool.and_eq_true] at this
  exact ⟨of_decide_eq_true this.1, of_decide_eq_true this.2⟩
theorem digs_ne {l : List Nat} (h : digs l = true) : l ≠ [] := by
  rintro rfl
  cases h
theorem worth_is (l : List Nat) : NumText.digitsVal l = worth l := rfl
theorem int_pos (s : Str) (h : digs (cs s) = true) (hl : s.length ≤ 4300) : PySem.intText? s = some (worth (cs s) : Int) := PySem.intText_digits (digs_all h) (digs_ne h) hl
theorem int_neg (s : Str) {l : List Nat} (e : cs s = 45 :: l) (h : digs l = true) (hl : s.length ≤ 4300) : PySem.intText? s = some (-(worth l : Int)) := PySem.intText_neg e (digs_all h) (digs_ne h) hl
/-- the text behind a '-' -/
def behind (l : List Nat) : List Nat := match l with | 45 :: r => r | l => l
theorem drop_minus (s : Str) : cs (Txt.removeprefix s "-") = behind (cs s) := by
  have hm : ("-" : Str) = ⟨#[45]⟩ := by decide +kernel
  rw [hm]
  obtain ⟨⟨l⟩⟩ := s
  cases l with
  | nil => rfl
  | cons a r =>
    unfold Txt.removeprefix Builtin.Str.subAt
    have e1 : (#[45] : Array Nat).size = 1 := rfl
    have ex : ((⟨a :: r⟩ : Array Nat).extract 0 (0 + (⟨#[45]⟩ : Str).length) == #[45]) = decide (a = 45) := by
      show ((⟨a :: r⟩ : Array Nat).extract 0 1 == #[45]) = _
      have : (⟨a :: r⟩ : Array Nat).extract 0 1 = #[a] := by
        apply Array.toList_inj.mp
        simp
      rw [this]
      show (([a] : List Nat) == [45]) = _
      by_cases h : a = 45
      · subst h; rfl
      · rw [decide_eq_false h]
        exact beq_false_of_ne (by simpa using h)
    rw [ex]
    by_cases h : a = 45
    · subst h
      rw [decide_eq_true rfl, if_pos rfl]
      unfold Txt.affix
      show cs (if (r.length + 1 - 1 == r.length + 1) = true then _ else _) = r
      rw [if_neg (by rw [beq_false_of_ne (by omega)]; decide)]
      show ((⟨45 :: r⟩ : Array Nat).extract 1 (r.length + 1)).toList = r
      simp
    · rw [decide_eq_false h, if_neg (by decide)]
      show a :: r = behind (a :: r)
      unfold behind
      split
      · rename_i z
        exact absurd (List.cons.inj z).1 h
      · rfl
theorem starts_zero (s : Str) : Txt.startswith s "0" = decide ((cs s).head? = some 48) := by
  have hm : ("0" : Str) = ⟨#[48]⟩ := by decide +kernel
  rw [hm]
  obtain ⟨⟨l⟩⟩ := s
  cases l with
  | nil => rfl
  | cons a r =>
    unfold Txt.startswith Builtin.Str.subAt
    have ex : ((⟨a :: r⟩ : Array Nat).extract 0 (0 + (⟨#[48]⟩ : Str).length) == #[48]) = decide (a = 48) := by
      show ((⟨a :: r⟩ : Array Nat).extract 0 1 == #[48]) = _
      have : (⟨a :: r⟩ : Array Nat).extract 0 1 = #[a] := by
        apply Array.toList_inj.mp
        simp
      rw [this]
      show (([a] : List Nat) == [48]) = _
      by_cases h : a = 48
      · subst h; rfl
      · rw [decide_eq_false h]
        exact beq_false_of_ne (by simpa using h)
    rw [ex]
    show (decide (0 + 1 ≤ r.length + 1) && decide (a = 48)) = _
    rw [decide_eq_true (by omega), Bool.true_and]
    show decide (a = 48) = decide (some a = some 48)
    exact decide_eq_decide.mpr (by simp)
/-- what integer_of tells -/
def intOf (s : Str) : Option Int :=
  let d := behind (cs s)
  if digs d = true ∧ d.length ≤ 140 ∧ (d.head? = some 48 → s = "0") then some (if (cs s).head? = some 45 then -(worth d : Int) else (worth d : Int)) else none
theorem in_digits (c : Nat) : (!(Builtin.Str.occurrences ("0123456789" : Str) ⟨#[c]⟩ 0 ("0123456789" : Str).length 1).isEmpty) = dig c := by
  rw [StrLaws.found_one, show ("0123456789" : Str).cps.toList = [48, 49, 50, 51, 52, 53, 54, 55, 56, 57] by decide +kernel]
  unfold dig
  rw [← Bool.decide_and]
  refine decide_eq_decide.mpr ?_
  simp
  omega
end MT
/-! A text times a number. -/
namespace OB
open PySem PySem.Spec PyProof.Rows L2
theorem mul_len (x : Str) (n : Nat) : (Txt.mul x (n : Int)).length ≤ x.length * n := by
  unfold Txt.mul
  by_cases h1 : (n : Int) < 1
  · rw [if_pos h1]
    show (0 : Nat) ≤ _
    omega
  · rw [if_neg h1]
    by_cases h2 : (((n : Int) == 1 || x.length == 0) = true)
    · rw [if_pos h2]
      exact Nat.le_mul_of_pos_right _ (by omega)
    · rw [if_neg h2, Int.toNat_natCast]
      have gen : ∀ (m : Nat) (a : Array Nat), ((List.replicate m x.cps).foldl (· ++ ·) a).size = a.size + x.cps.size * m := by
        intro m
        induction m with
        | zero => intro a; simp
        | succ m ih =>
          intro a
          rw [List.replicate_succ, List.foldl_cons, ih, Array.size_append, Nat.mul_succ]
          omega
      show ((List.replicate n x.cps).foldl (· ++ ·) #[]).size ≤ x.cps.size * n
      rw [gen]
      simp
theorem op_mulS {X : Cx} : OpR X (binaryOp .Mult) (fun x y H Q => ∃ (a : Str) (n : Nat), x = .str a ∧ y = .int (n : Int) ∧ a.length * n ≤ 1000000 ∧ n ≤ 1000000 ∧ ∀ z, z = Txt.mul a (n : Int) → Q (.str z) H) := by
  intro pins s σ H x y v u Q I rx ry h
  obtain ⟨a, n, rfl, rfl, hz, hn, q⟩ := h
  obtain ⟨t, rfl⟩ := rx
  obtain ⟨t', rfl⟩ := ry
  refine SB.mul ⟨?_, fun h1 h2 h3 => ?_, fun h1 h2 => ?_⟩ fun t' k => ⟨.str _, H, I.tok _, ⟨_, rfl⟩, q _ rfl⟩
  · rw [decide_eq_false (show ¬ (n : Int) < -(2 ^ 63) by omega), decide_eq_false (show ¬ (n : Int) ≥ 2 ^ 63 by omega)]
    rfl
  · have h4 : (2 ^ 63 - 1 : Int) / (n : Int) < (a.length : Int) := h3
    rw [Int.ediv_lt_iff_lt_mul (by omega)] at h4
    have : ((a.length * n : Nat) : Int) ≤ 1000000 := by omega
    rw [Int.natCast_mul] at this
    omega
  · unfold Builtin.Str.tooLong
    have : a.length * n ≤ sizeLine := by rw [sizeLine_eq]; omega
    rw [Int.toNat_natCast]
    exact decide_eq_false (by omega)
end OB
/-! Texts of numbers from 0 on: what is canonical, and that only the number's own text is. -/
namespace MN
open PySem PySem.Spec PyProof.Rows L2 MT OB PySem.NumText
def num (s : Str) : Option Nat := if digs (cs s) = true ∧ s.length ≤ 140 ∧ ((cs s).head? = some 48 → s = "0") then some (worth (cs s)) else none
def inR (s : Str) (lo hi : Int) : Bool := match num s with
  | some n => decide (lo ≤ (n : Int)) && decide ((n : Int) ≤ hi)
  | none => false
theorem cs_ds (n : Nat) : cs (ds n) = (Nat.toDigits 10 n).map Char.toNat := PySem.W.KIN.signs_num n
theorem back : ∀ c, 48 ≤ c → c ≤ 57 → (Char.ofNat c).toNat = c := fun c h1 h2 => (show ∀ d < 58, 48 ≤ d → (Char.ofNat d).toNat = d by decide) c (by omega) h1
theorem num_text {s : Str} {n : Nat} (h : num s = some n) : s = ds n := by
  unfold num at h
  split at h
  · rename_i c
    obtain ⟨hd, hl, hz⟩ := c
    have e := (Option.some.inj h).symm
    subst e
    refine str_ext ?_
    rw [cs_ds]
    have al := digs_all hd
    have ne := digs_ne hd
    have key : Nat.toDigits 10 (worth (cs s)) = (cs s).map Char.ofNat := by
      refine NumText.toDigits_digitsVal ((cs s).length - 1) (cs s) ?_ al ?_
      · have := List.length_pos_iff.mpr ne
        omega
      · by_cases z : (cs s).head? = some 48
        · left
          rw [hz z]
          decide +kernel
        · right
          cases e : cs s with
          | nil => exact absurd e ne
          | cons c r =>
            refine ⟨c, r, rfl, ?_⟩
            have h1 := al c (by rw [e]; exact List.mem_cons_self)
            have h2 : c ≠ 48 := fun y => z (by rw [e, y]; rfl)
            omega
    rw [key, List.map_map]
    have : ∀ c ∈ cs s, (Char.toNat ∘ Char.ofNat) c = c := fun c hc => back c (al c hc).1 (al c hc).2
    rw [List.map_congr_left this, List.map_id']
  · cases h
theorem toD_dig (n : Nat) : digs ((Nat.toDigits 10 n).map Char.toNat) = true := by
  unfold digs
  rw [Bool.and_eq_true]
  constructor
  · have := toDigits_len_ge 10 n
    cases e : Nat.toDigits 10 n with
    | nil => rw [e] at this; simp at this
    | cons a r => rfl
  · rw [List.all_eq_true]
    intro c hc
    obtain ⟨d, hd, rfl⟩ := List.mem_map.mp hc
    have := Nat.isDigit_of_mem_toDigits (by decide) (by decide) hd
    unfold Char.isDigit at this
    simp at this
    have h1 : (48 : UInt32).toNat ≤ d.val.toNat := this.1
    have h2 : d.val.toNat ≤ (57 : UInt32).toNat := this.2
    unfold dig
    rw [Bool.and_eq_true]
    exact ⟨decide_eq_true h1, decide_eq_true h2⟩
theorem worth_toD (n : Nat) : worth ((Nat.toDigits 10 n).map Char.toNat) = n := PySem.W.KIN.val_back n
theorem head_pos (n : Nat) (h : ((Nat.toDigits 10 n).map Char.toNat).head? = some 48) : n = 0 := by
  induction n using Nat.strongRecOn with
  | ind n ih =>
    by_cases c : n < 10
    · clear ih
      exact (show ∀ m < 10, ((Nat.toDigits 10 m).map Char.toNat).head? = some 48 → m = 0 by decide) n c h
    · have hd : Nat.toDigits 10 n = Nat.toDigits 10 (n / 10) ++ [Nat.digitChar (n % 10)] := by
        rw [Nat.toDigits_of_base_le (by decide) (by omega)]
      have ne : Nat.toDigits 10 (n / 10) ≠ [] := fun e => by
        have := toDigits_len_ge 10 (n / 10)
        rw [e] at this
        simp at this
      rw [hd, List.map_append, List.head?_append] at h
      have hs : ∃ x, ((Nat.toDigits 10 (n / 10)).map Char.toNat).head? = some x := by
        cases e : Nat.toDigits 10 (n / 10) with
        | nil => exact absurd e ne
        | cons a r => exact ⟨_, rfl⟩
      obtain ⟨x, hx⟩ := hs
      rw [hx] at h
      have h : some x = some 48 := h
      rw [← hx] at h
      have := ih (n / 10) (by omega) h
      omega
theorem num_ds {n : Nat} (h : (ds n).length ≤ 140) : num (ds n) = some n := by
  unfold num
  rw [if_pos, cs_ds, worth_toD]
  refine ⟨by rw [cs_ds]; exact toD_dig n, h, fun z => ?_⟩
  rw [cs_ds] at z
  rw [head_pos n z]
  decide +kernel
theorem worth_pos {l : List Nat} (h : digs l = true) (h0 : l.head? ≠ some 48) : 0 < worth l := by
  cases l with
  | nil => cases h
  | cons c r =>
    have := digs_all h c List.mem_cons_self
    have h2 : c ≠ 48 := fun y => h0 (by rw [y]; rfl)
    exact NumText.digitsVal_pos (by omega)
theorem behind_not {l : List Nat} (h : l.head? ≠ some 45) : behind l = l := by
  unfold behind
  split
  · exact absurd rfl h
  · rfl
theorem int_num {s : Str} {lo hi : Int} (h0 : 0 ≤ lo) : (match intOf s with | some v => decide (lo ≤ v) && decide (v ≤ hi) | none => false) = inR s lo hi := by
  by_cases z : (cs s).head? = some 45
  · have nn : num s = none := by
      unfold num
      rw [if_neg]
      rintro ⟨h1, _, _⟩
      cases e : cs s with
      | nil => rw [e] at z; cases z
      | cons a r =>
        rw [e] at z h1
        have := digs_all h1 a List.mem_cons_self
        have := Option.some.inj z
        omega
    unfold inR
    rw [nn]
    unfold intOf
    simp only
    split
    · rename_i v hv
      split at hv
      · rename_i c
        have e := Option.some.inj hv
        obtain ⟨h1, h2, h3⟩ := c
        have : 0 < worth (behind (cs s)) := worth_pos h1 fun y => by
          have e0 := h3 y
          rw [e0] at z
          exact absurd z (by decide +kernel)
        rw [decide_eq_false (show ¬ lo ≤ v by omega)]
        rfl
      · cases hv
    · rfl
  · unfold intOf inR num
    simp only [behind_not z, len_cs, if_neg z]
    by_cases c : digs (cs s) = true ∧ s.length ≤ 140 ∧ ((cs s).head? = some 48 → s = "0")
    · rw [if_pos c, if_pos c]
    · rw [if_neg c, if_neg c]
theorem inR_ds {n : Nat} {lo hi : Int} (h : (ds n).length ≤ 140) : inR (ds n) lo hi = (decide (lo ≤ (n : Int)) && decide ((n : Int) ≤ hi)) := by
  unfold inR
  rw [num_ds h]
theorem inR_ex {s : Str} {lo hi : Int} (h : inR s lo hi = true) : ∃ n : Nat, s = ds n ∧ num s = some n ∧ lo ≤ (n : Int) ∧ (n : Int) ≤ hi := by
  unfold inR at h
  cases e : num s with
  | none => rw [e] at h; cases h
  | some n =>
    rw [e] at h
    have h : (decide (lo ≤ (n : Int)) && decide ((n : Int) ≤ hi)) = true := h
    rw [Bool.and_eq_true] at h
    exact ⟨n, num_text e, rfl, of_decide_eq_true h.1, of_decide_eq_true h.2⟩
theorem int_of_num {s : Str} {n : Nat} (h : num s = some n) : intOf s = some (n : Int) := by
  unfold num at h
  split at h
  · rename_i c
    obtain ⟨hd, hl, hz⟩ := c
    have e := (Option.some.inj h).symm
    subst e
    have z : ¬ (cs s).head? = some 45 := fun z => by
      cases e : cs s with
      | nil => rw [e] at z; cases z
      | cons a r =>
        rw [e] at z hd
        have := digs_all hd a List.mem_cons_self
        have := Option.some.inj z
        omega
    unfold intOf
    simp only [behind_not z, len_cs, if_neg z]
    rw [if_pos ⟨hd, hl, hz⟩]
  · cases h
theorem int_ok {s : Str} (D : digs (behind (cs s)) = true) (hl : (behind (cs s)).length ≤ 140) (h3 : (behind (cs s)).head? = some 48 → s = "0") (sl : s.length ≤ 4300) : ∃ v, intOf s = some v ∧ PySem.intText? s = some v := by
  by_cases hm : (cs s).head? = some 45
  · obtain ⟨l, el⟩ : ∃ l, cs s = 45 :: l := by
      cases e : cs s with
      | nil => rw [e] at hm; cases hm
      | cons a r =>
        rw [e] at hm
        cases hm
        exact ⟨r, rfl⟩
    have bl : behind (cs s) = l := by rw [el]; rfl
    refine ⟨-(worth l : Int), ?_, MT.int_neg s el (bl ▸ D) sl⟩
    unfold intOf
    simp only
    rw [if_pos ⟨D, hl, h3⟩, if_pos hm, bl]
  · refine ⟨(worth (cs s) : Int), ?_, MT.int_pos s (by rw [behind_not hm] at D; exact D) sl⟩
    unfold intOf
    simp only
    rw [if_pos ⟨D, hl, h3⟩, if_neg hm, behind_not hm]
theorem inR_of {s : Str} {n : Nat} {lo hi : Int} (h : num s = some n) (h1 : lo ≤ (n : Int)) (h2 : (n : Int) ≤ hi) : inR s lo hi = true := by
  unfold inR
  rw [h]
  show (decide (lo ≤ (n : Int)) && decide ((n : Int) ≤ hi)) = true
  rw [decide_eq_true h1, decide_eq_true h2]
  rfl
theorem mem_sum {α : Type} {f : α → Nat} : ∀ {l : List α} {y : α}, y ∈ l → f y ≤ (l.map f).sum
  | a :: r, y, h => by
    rw [List.map_cons, List.sum_cons]
    rcases List.mem_cons.mp h with rfl | h
    · omega
    · have := mem_sum (f := f) h
      omega
theorem split_short {z y : Str} (h : y ∈ Txt.split z " ") : y.length ≤ z.length := by
  have w := PyProof.Rows.split_weight z " " (by decide +kernel)
  have := mem_sum (f := (·.length)) h
  have := List.length_pos_of_mem h
  omega
/-- each sign is below 256 -/
def asc (s : Str) : Prop := ∀ c ∈ cs s, c < 256
theorem in_join {y : Str} {c : Nat} (hc : c ∈ cs y) : ∀ {l : List Str}, y ∈ l → c ∈ cs (Str.join " " l)
  | [a], h => by
    rw [List.mem_singleton.mp h] at hc
    exact hc
  | a :: b :: r, h => by
    show c ∈ TL.tl (a ++ " " ++ Str.join " " (b :: r))
    rw [TL.tl_append, TL.tl_append, List.mem_append, List.mem_append]
    rcases List.mem_cons.mp h with rfl | h
    · exact .inl (.inl hc)
    · exact .inr (in_join hc h)
theorem split_asc {z y : Str} (hz : asc z) (h : y ∈ Txt.split z " ") : asc y := fun c hc => by
  refine hz c ?_
  have := in_join hc h
  rw [StrLaws.join_split z " "] at this
  exact this
theorem asc_join : ∀ l : List Str, (∀ y ∈ l, asc y) → asc (Txt.join " " l)
  | [], _ => by
    have e : cs (Txt.join " " []) = [] := by decide +kernel
    intro c hc
    rw [e] at hc
    exact absurd hc List.not_mem_nil
  | [a], h => by
    rw [TL.join_eq]
    exact h a List.mem_cons_self
  | a :: b :: r, h => by
    have ih := asc_join (b :: r) fun y hy => h y (List.mem_cons_of_mem _ hy)
    rw [TL.join_eq] at ih ⊢
    intro c hc
    have hc : c ∈ TL.tl (a ++ " " ++ Str.join " " (b :: r)) := hc
    rw [TL.tl_append, TL.tl_append, List.mem_append, List.mem_append] at hc
    rcases hc with (hc | hc) | hc
    · exact h a List.mem_cons_self c hc
    · have e : TL.tl (" " : Str) = [32] := by decide +kernel
      rw [e, List.mem_singleton] at hc
      omega
    · exact ih c hc
theorem join_len (k : Nat) : ∀ l : List Str, (∀ y ∈ l, y.length ≤ k) → (Txt.join " " l).length ≤ l.length * (k + 1)
  | [], _ => by
    rw [List.length_nil, Nat.zero_mul]
    exact Nat.le_of_eq (show (Txt.join " " []).length = 0 by decide +kernel)
  | [a], h => by
    have := h a List.mem_cons_self
    rw [TL.join_eq]
    show a.length ≤ 1 * (k + 1)
    omega
  | a :: b :: r, h => by
    have ih := join_len k (b :: r) fun y hy => h y (List.mem_cons_of_mem _ hy)
    have := h a List.mem_cons_self
    have e3 : (" " : Str).length = 1 := by decide +kernel
    rw [TL.join_eq] at ih ⊢
    show ((a ++ " ") ++ Str.join " " (b :: r)).length ≤ _
    rw [Str.length_append, Str.length_append, e3, List.length_cons, Nat.succ_mul]
    omega
theorem mul_asc {x : Str} {n : Nat} (h : asc x) : asc (Txt.mul x (n : Int)) := by
  unfold Txt.mul
  split
  · intro c hc
    exact absurd hc (by show c ∉ ([] : List Nat); simp)
  · split
    · exact h
    · intro c hc
      have gen : ∀ (m : Nat) (a : Array Nat), (∀ c ∈ a.toList, c < 256) → ∀ c ∈ ((List.replicate m x.cps).foldl (· ++ ·) a).toList, c < 256 := by
        intro m
        induction m with
        | zero => intro a ha; simpa using ha
        | succ m ih =>
          intro a ha
          rw [List.replicate_succ, List.foldl_cons]
          refine ih _ fun c hc => ?_
          rw [Array.toList_append] at hc
          rcases List.mem_append.mp hc with z | z
          · exact ha c z
          · exact h c z
      exact gen _ #[] (by simp) c hc
theorem asc_ds (n : Nat) : asc (ds n) := fun c hc => by
  have := digs_all (toD_dig n) c (by rw [← cs_ds]; exact hc)
  omega
theorem join_split (z : Str) : Txt.join " " (Txt.split z " ") = z := by
  rw [TL.join_eq]
  exact StrLaws.join_split z " "
end MN
/-! Lambdas by generator: what they bind, and that a call's reading grows with what is wanted. -/
namespace OB
open PySem PySem.Spec PyProof.Rows L2 LamX
def MTA (t : TA) : Prop := ∀ σ H (Q1 Q2 : List V → Hp → Prop), (∀ vs H, Q1 vs H → Q2 vs H) → t σ H Q1 → t σ H Q2
def MTE (t : TE) : Prop := ∀ σ H (Q1 Q2 : VK), (∀ v H, Q1 v H → Q2 v H) → t σ H Q1 → t σ H Q2
theorem mta_nil : MTA tNil := fun σ H Q1 Q2 h z => h _ _ z
theorem mta_cons {a : TE} {r : TA} (ha : MTE a) (hr : MTA r) : MTA (tCons a r) := fun σ H Q1 Q2 h z => ha σ H _ _ (fun x H1 z1 => hr σ H1 _ _ (fun xs H2 z2 => h _ _ z2) z1) z
theorem mte_var {i : Nat} : MTE (tVar i) := fun σ H Q1 Q2 h ⟨v, e, z⟩ => ⟨v, e, h _ _ z⟩
theorem mte_c {v : V} : MTE (tC v) := fun σ H Q1 Q2 h z => h _ _ z
theorem mte_lst {t : TA} (ht : MTA t) : MTE (tLst t) := fun σ H Q1 Q2 h z => ht σ H _ _ (fun xs H1 ⟨l, z1⟩ => ⟨l, fun p hp => h _ _ (z1 p hp)⟩) z
theorem mte_tup {t : TA} (ht : MTA t) : MTE (tTup t) := fun σ H Q1 Q2 h z => ht σ H _ _ (fun xs H1 ⟨l, z1⟩ => ⟨l, fun p hp => h _ _ (z1 p hp)⟩) z
def SpMono (sp : Sp) : Prop := ∀ vs H (Q1 Q2 : VK) (E1 E2 : XK), (∀ c d H, E1 c d H → E2 c d H) → (∀ v H, Q1 v H → Q2 v H) → sp vs H Q1 E1 → sp vs H Q2 E2
theorem mono_S {sp : Sp} {t : TA} (hs : SpMono sp) (ht : MTA t) : ∀ σ : L2.St, MonoL fun E H' Q' => tCallS sp (WE fun cls d _ H => E cls d H) t σ H' Q' :=
  fun σ E1 E2 H Q1 Q2 hE hQ z => ht σ H _ _ (fun vs H1 z1 => hs _ _ _ _ _ _ (fun c d H => hE c d H) (fun v H => hQ v H) z1) z
theorem mono_KS {sp : Sp} {gV : List V → List V → List V} {t : TA} (hs : SpMono sp) (ht : MTA t) : ∀ σ : L2.St, MonoL fun E H' Q' => tCallKS sp gV (WE fun cls d _ H => E cls d H) tNil t σ H' Q' :=
  fun σ E1 E2 H Q1 Q2 hE hQ z => ht σ H _ _ (fun vs H1 z1 => hs _ _ _ _ _ _ (fun c d H => hE c d H) (fun v H => hQ v H) z1) z
theorem bind_0 {pr : Arguments} (h : ∀ (q : Str) (body : Expr) (scope : Scope) (cl : List (Str × Addr)) (pm cv ctv : Value), bindArgs (lFn q pr body scope cl .none pm cv ctv) ⟨[], []⟩ = pure []) : ∀ ds : List Value, Vals (([] : List Int).map V.int) ds → LamB pr [] ds := fun ds rd => by
  cases rd
  exact lamB0 h
theorem bind_1 {pr : Arguments} {a : Str} {n : Int} (h : ∀ (d : Value) (q : Str) (body : Expr) (scope : Scope) (cl : List (Str × Addr)) (T : Addr) (pm cv ctv : Value), ∃ k, bindArgs (lFn q pr body scope cl (.ref T) pm cv ctv) ⟨[], []⟩ = seqItems? (.ref T) >>= k ∧ k (some #[d]) = pure [(a, d)]) :
    ∀ ds : List Value, Vals (([n] : List Int).map V.int) ds → LamB pr [a] ds := fun ds rd => by
  cases rd with
  | cons r rr =>
    cases rr
    exact lamB1 (h _)
theorem hu_0 {P1 : Addr} {q1 : Str} : ∀ p ∈ [(P1, q1)], p.1 = P1 → p.2 = q1 := fun p hp _ => congrArg Prod.snd (List.mem_singleton.mp hp)
theorem hu_1 {P1 P2 : Addr} {q1 q2 : Str} (n : P1 ≠ P2) : ∀ p ∈ [(P1, q1), (P2, q2)], p.1 = P1 → p.2 = q1 := fun p hp e => by
  rcases List.mem_cons.mp hp with rfl | hp
  · rfl
  · rw [List.mem_singleton.mp hp] at e
    exact absurd e.symm n
theorem hu_2 {P1 P2 : Addr} {q1 q2 : Str} (n : P1 ≠ P2) : ∀ p ∈ [(P1, q1), (P2, q2)], p.1 = P2 → p.2 = q2 := fun p hp e => by
  rcases List.mem_cons.mp hp with rfl | hp
  · exact absurd e n
  · exact congrArg Prod.snd (List.mem_singleton.mp hp)
end OB
/-! Making an object, a static method, a method, where what is raised passes at the slots. -/
namespace OB
open PySem PySem.Spec PyProof.Rows L2 ClX
def tMakeS (C : Addr) (sp : Sp) (E : L2.St → XK) (t : TA) : TE := fun σ H Q => t σ H fun vs H1 => ∀ x dx, H1 x = none → H1 dx = none → dx ≠ x →
  sp (.ref x :: vs) (upd (upd H1 dx (.own x)) x (.ins C dx [])) (fun v H2 => v = .non ∧ Q (.ref x) H2) (E σ)
def tMethS (C : Addr) (m : Str) (sp : Sp) (E : L2.St → XK) (ta : TE) (t : TA) : TE := fun σ H Q => ta σ H fun x H1 => ∃ a dx fs, x = .ref a ∧ H1 a = some (.ins C dx fs) ∧ fs.lookup m = none ∧
  t σ H1 fun vs H2 => sp (x :: vs) H2 Q (E σ)
def tSMethS (C : Addr) (sp : Sp) (E : L2.St → XK) (ta : TE) (t : TA) : TE := fun σ H Q => ta σ H fun x H1 => x = .ref C ∧ t σ H1 fun vs H2 => sp vs H2 Q (E σ)
section
variable {X : Cx} {CX : CXT} {k : Nat} {C f p g : Addr} {fd : FuncData} {ps ks : List Str} {mc : Value} {sp : Sp} {E : L2.St → XK} {x : Str} {p1 : Pos} {o e : Expr} {es : List Expr} {kws : List Keyword} {m : Str} {pos apos : Pos} {ta : TE} {t tk : TA} {pl : Sem Bool}
theorem run_makeS {pins : List (Addr × Obj)} {σ : L2.St} {H : Hp} {s : Shared} {Q : VK} {us : List Value} {vs : List V} (M : Mk X.K C f) (F : FnOk X.prog X.w X.K X.mg X.base CX k f fd ps sp) (hr : Room (k + 1) X.A) (hb : L2.Binds X.K fd ps [])
    (hx : PassesAt CX X σ (E σ)) (I : Inv X pins σ H s) (r : Vals vs us)
    (h : ∀ x dx, H x = none → H dx = none → dx ≠ x → sp (.ref x :: vs) (upd (upd H dx (.own x)) x (.ins C dx [])) (fun v H2 => v = .non ∧ Q (.ref x) H2) (E σ)) :
    wpAny (model X.prog X.w) X.A (call (.ref C) us) (EP X pins σ Q) X.xe s := by
  have hq := h (s.heap.objs.size + 1) s.heap.objs.size (I.hok.fresh (Nat.le_succ _)) (I.hok.fresh (Nat.le_refl _)) (Nat.ne_of_lt (Nat.lt_succ_self _))
  have I2 := Inv.made (C := C) I
  have r2 : Vals (V.ref (s.heap.objs.size + 1) :: vs) (Value.ref (s.heap.objs.size + 1) :: us) := .cons rfl r
  have hl : (Value.ref (s.heap.objs.size + 1) :: us ++ []).length = ps.length := by
    have e := r2.length
    rw [F.len _ _ _ _ hq] at e
    rw [List.append_nil]
    exact e.symm
  have b := hb _ (Value.ref (s.heap.objs.size + 1) :: us) I2.kIn hl
  rw [List.append_nil] at b
  refine wpAny_call (make_map (f := f) I.kIn M.makes M.init (beq_iff_eq.mp M.fn) (codeAny_mono (F.run _ X.stack _ _ ⟨Value.ref (s.heap.objs.size + 1) :: us, []⟩ (Value.ref (s.heap.objs.size + 1) :: us) _ _ (E σ) (hr.make C us [])
    (I2.env0.make C us []) b r2 hq) fun r s' hq' => ?_))
  cases r with
  | error e => exact hx pins _ _ e s' I2 hq'
  | ok fl =>
    cases fl with
    | ret u =>
      obtain ⟨v, H', I3, rv, ev, q3⟩ := I2.after hq'
      subst ev
      exact ⟨rv, ⟨V.ref (s.heap.objs.size + 1), H', I3, rfl, q3⟩⟩
    | next => exact False.elim hq'
    | brk => exact False.elim hq'
    | cont => exact False.elim hq'
theorem pe_makeS (M : Mk X.K C f) (F : FnOk X.prog X.w X.K X.mg X.base CX k f fd ps sp) (hr : Room (k + 1) X.A) (hg : Gl X x) (hm : X.mg x = some (.ref C)) (hb : L2.Binds X.K fd ps []) (hx : ∀ σ, PassesAt CX X σ (E σ))
    (ha : PA X (e :: es) t) (hdb : (x == ("__debug__" : Str)) = false := by decide) (he : starEach (e :: es) X.env = (false, eval e X.env) :: starEach es X.env := by rfl) (hpl : (backTo pos (starEach es X.env)).any (·.1) = false := by rfl) :
    PE X (.Call (.Name x p1) (e :: es) [] pos) (tMakeS C sp E t) := by
  refine ⟨fun pins s σ H Q I h => ?_⟩
  refine wpAny_Call_Name_kw (ld_glob I hg hm ?_ hdb)
  refine PySem.W.callWith_K (h₀ := X.base) I.ok.mod.kin M.kp (thn (ha.run pos pins s σ H _ I h) fun us s1 ⟨vs, H1, I1, r, q⟩ => ⟨I1.kIn, ?_⟩) he hpl
  exact run_makeS M F hr hb (hx σ) I1 r q
theorem pe_methE (he : PE X o ta) (c : Cls X.K C) (hm : Meth X.K C m f) (F : FnOk X.prog X.w X.K X.mg X.base CX k f fd ps sp) (hr : Room k X.A) (hb : L2.Binds X.K fd ps []) (hx : ∀ σ, PassesAt CX X σ (E σ)) (ha : PA X (e :: es) t)
    (hst : starEach (e :: es) X.env = (false, eval e X.env) :: starEach es X.env := by rfl) (hpl : (backTo pos (starEach es X.env)).any (·.1) = false := by rfl)
    (ht : eval (.Call (.Attribute o m apos) (e :: es) [] pos) X.env = (do
      let ov ← eval o X.env
      standAt apos.atName
      let (f, first) ← holding [ov] (getMethod ov m pl)
      callWith pos f first (backTo pos (starEach (e :: es) X.env)) (backToKw pos (keywordEach [] X.env))) := by rfl) :
    PE X (.Call (.Attribute o m apos) (e :: es) [] pos) (tMethS C m sp E ta t) := by
  refine ⟨fun pins s σ H Q I h => ?_⟩
  refine PySem.W.methodCall_KW (pl := pl) (thn (he.run pins s σ H _ I h) fun u s1 ⟨x, H1, I1, rx, a, dx, fs, ex, ea, l, q⟩ => ?_) ht
  subst ex
  obtain rfl : u = Value.ref a := rx
  refine getmeth_ok I1 ea c hm l ?_
  refine PySem.W.callWith_K (first := [.ref a]) (h₀ := X.base) I.ok.mod.kin hm.kp (thn (ha.run pos pins s1 σ H1 _ I1 q) fun us s2 ⟨vs, H2, I2, r, q2⟩ => ⟨I2.kIn, ?_⟩) hst hpl
  exact run_fnS (us := .ref a :: us) (vs := .ref a :: vs) F hr hb (hx σ) I2 (.cons rfl r) q2
theorem pe_smethS (he : PE X o ta) (r : CRead X.K C mc) (c : CStat X.K C mc m p g) (F : FnOk X.prog X.w X.K X.mg X.base CX k g fd ps sp) (hr : Room k X.A) (hb : L2.Binds X.K fd ps []) (hx : ∀ σ, PassesAt CX X σ (E σ)) (ha : PA X (e :: es) t)
    (hst : starEach (e :: es) X.env = (false, eval e X.env) :: starEach es X.env := by rfl) (hpl : (backTo pos (starEach es X.env)).any (·.1) = false := by rfl)
    (ht : eval (.Call (.Attribute o m apos) (e :: es) [] pos) X.env = (do
      let ov ← eval o X.env
      standAt apos.atName
      let (f, first) ← holding [ov] (getMethod ov m pl)
      callWith pos f first (backTo pos (starEach (e :: es) X.env)) (backToKw pos (keywordEach [] X.env))) := by rfl) :
    PE X (.Call (.Attribute o m apos) (e :: es) [] pos) (tSMethS C sp E ta t) := by
  refine ⟨fun pins s σ H Q I h => ?_⟩
  refine PySem.W.methodCall_KW (pl := pl) (thn (he.run pins s σ H _ I h) fun u s1 ⟨x, H1, I1, rx, ex, q⟩ => ?_) ht
  subst ex
  obtain rfl : u = Value.ref C := rx
  refine getmethsm_ok I1 r c fun s2 I2 => ?_
  refine PySem.W.callWith_K (h₀ := X.base) (first := []) I.ok.mod.kin c.kp (thn (ha.run pos pins s2 σ H1 _ I2 q) fun us s3 ⟨vs, H2, I3, rv, q2⟩ => ⟨I3.kIn, ?_⟩) hst hpl
  exact run_fnS F hr hb (hx σ) I3 rv q2
end
theorem mono_MS {C : Addr} {sp : Sp} {t : TA} (hs : SpMono sp) (ht : MTA t) : ∀ σ : L2.St, MonoL fun E H' Q' => tMakeS C sp (WE fun cls d _ H => E cls d H) t σ H' Q' :=
  fun σ E1 E2 H Q1 Q2 hE hQ z => ht σ H _ _ (fun vs H1 z1 x dx n1 n2 n3 => hs _ _ _ _ _ _ (fun c d H => hE c d H) (fun v H q => ⟨q.1, hQ _ _ q.2⟩) (z1 x dx n1 n2 n3)) z
theorem mono_SS {C : Addr} {sp : Sp} {ta : TE} {t : TA} (hs : SpMono sp) (ha : MTE ta) (ht : MTA t) : ∀ σ : L2.St, MonoL fun E H' Q' => tSMethS C sp (WE fun cls d _ H => E cls d H) ta t σ H' Q' :=
  fun σ E1 E2 H Q1 Q2 hE hQ z => ha σ H _ _ (fun x H0 z0 => ⟨z0.1, ht σ H0 _ _ (fun vs H1 z1 => hs _ _ _ _ _ _ (fun c d H => hE c d H) (fun v H q => hQ _ _ q) z1) z0.2⟩) z
theorem mono_MeS {C : Addr} {m : Str} {sp : Sp} {ta : TE} {t : TA} (hs : SpMono sp) (ha : MTE ta) (ht : MTA t) : ∀ σ : L2.St, MonoL fun E H' Q' => tMethS C m sp (WE fun cls d _ H => E cls d H) ta t σ H' Q' :=
  fun σ E1 E2 H Q1 Q2 hE hQ z => ha σ H _ _ (fun x H0 ⟨a, dx, fs, e1, e2, e3, z0⟩ => ⟨a, dx, fs, e1, e2, e3, ht σ H0 _ _ (fun vs H1 z1 => hs _ _ _ _ _ _ (fun c d H => hE c d H) (fun v H q => hQ _ _ q) z1) z0⟩) z
end OB
/-! Steps of a walk, made short. -/
namespace OB
open PySem PySem.Spec PyProof.Rows L2 LamX
section
variable {x y : V} {i j : Int} {H : Hp} {Q : VK}
theorem st_i0 {g : Int → Int → V} {v : V} (ex : x = .int i) (ey : y = .int j) (ev : g i j = v) (k : Q v H) : rI0 g x y H Q := by
  subst ev
  exact ⟨i, j, ex, ey, k⟩
theorem st_i {C : Int → Int → Prop} {g : Int → Int → V} {v : V} (ex : x = .int i) (ey : y = .int j) (hc : C i j) (ev : g i j = v) (k : Q v H) : rI C g x y H Q := by
  subst ev
  exact ⟨i, j, ex, ey, hc, k⟩
end
theorem st_tC {v : V} {σ : L2.St} {H : Hp} {Q : VK} (k : Q v H) : tC v σ H Q := k
theorem st_tOp {r : R2} {a b : TE} {σ : L2.St} {H : Hp} {Q : VK} (k : a σ H fun x H1 => b σ H1 fun y H2 => r x y H2 Q) : tOp r a b σ H Q := k
theorem ixN_of {n j : Nat} (hj : j < n) : ixN n (j : Int) = some j := by
  unfold ixN
  rw [if_pos (by omega), if_pos (by omega)]
  simp
end OB
namespace K53
open PySem PySem.Spec PyProof.Rows L2 OB SkE
theorem iteT' {b : Bool} {A B : Prop} (h : b = true) (a : A) : if b = true then A else B := by rw [if_pos h]; exact a
theorem iteF' {b : Bool} {A B : Prop} (h : b = false) (a : B) : if b = true then A else B := by rw [if_neg (by rw [h]; decide)]; exact a
/-- a value that is no text -/
def NotS (K : PySem.W.Frag) (H : Hp) (x : V) : Prop := ∃ t, TyX K H x t ∧ PySem.W.kitOne K t (.type "str") = some false
def Raises2 (C : Addr) (ln it : Int) (E : XK) (H : Hp) : Prop := ∀ d, H d = none → E (.ref C) (some d) (upd H d (.xd [(("item" : Str), .int it), (("line" : Str), .int ln)]))
def spItems (K : PySem.W.Frag) (CT : Addr) : Sp := fun vs H Q E => ∃ x : V, vs = [x] ∧ ((NotS K H x ∧ Raises2 CT 0 0 E H) ∨ ∃ z : Str, x = .str z ∧ z.length + 2 ≤ sizeLine ∧ ∀ p, H p = none → Q (.ref p) (upd H p (.lst ((Txt.split z " ").map V.str))))
def oI : Option Int → V
  | none => .non
  | some v => .int v
def spIntOf : Sp := fun vs H Q _ => ∃ z : Str, vs = [.str z] ∧ z.length ≤ 1000000 ∧ Q (oI (MT.intOf z)) H
def spItemAt (CT : Addr) : Sp := fun vs H Q E => ∃ (q : Addr) (ys : List Str) (i : Nat), vs = [.ref q, .int (i : Int)] ∧ H q = some (.lst (ys.map V.str)) ∧ (∀ y, ys[i]? = some y → Q (.str y) H) ∧ (ys[i]? = none → Raises2 CT 0 (ys.length : Int) E H)
def spIntAt (CT : Addr) : Sp := fun vs H Q E => ∃ (q : Addr) (ys : List Str) (i : Nat) (lo hi : Int), vs = [.ref q, .int (i : Int), .int lo, .int hi] ∧ H q = some (.lst (ys.map V.str)) ∧ (∀ y ∈ ys, y.length ≤ 1000000) ∧ 0 ≤ lo ∧
  (∀ y (n : Nat), ys[i]? = some y → MN.num y = some n → lo ≤ (n : Int) → (n : Int) ≤ hi → Q (.int (n : Int)) H) ∧ (∀ y, ys[i]? = some y → MN.inR y lo hi = false → Raises2 CT 0 (i : Int) E H) ∧ (ys[i]? = none → Raises2 CT 0 (ys.length : Int) E H)
def spNeedEnd (CT : Addr) : Sp := fun vs H Q E => ∃ (q : Addr) (ys : List Str) (i : Nat), vs = [.ref q, .int (i : Int)] ∧ H q = some (.lst (ys.map V.str)) ∧ (ys.length ≤ i → Q .non H) ∧ (i < ys.length → Raises2 CT 0 (i : Int) E H)
theorem tyS {K : PySem.W.Frag} {H : Hp} {z : Str} : tyV K "str" (.str z) H := rfl
section
variable {P : Program} {w : World} {K : PySem.W.Frag} {mg : Str → Option Value} {base : Heap}
theorem sc_items_of : FnScope ["text"] ["text"] (defScope s_items_of) := ⟨rfl, rfl, rfl, by decide +kernel, rfl, by decide +kernel, by decide +kernel⟩
abbrev N_items_of : List Str := ["text"]
theorem ok_items_of {f CT fT : Addr} {fd fdT : FuncData} (F : Fun K "items_of" "items_of" s_items_of f fd) (T : Blt mg) (R_BadText : Err2 P w K mg base "BadText" "line" "item" CT fT fdT) : FnOk P w K mg base (L2.CX P w) 3 f fd ["text"] (spItems K CT) := by
  refine F.okX sc_items_of (fun vs H Q E h => ?_) (fun cdv A outer s H vs Q E hr h => ?_)
  · obtain ⟨x, rfl, _⟩ := h
    rfl
  · obtain ⟨x, rfl, h⟩ := h
    refine ⟨_, (pss_cons (ps_if (pt_not (pt_val (pe_callB call_isi (by rfl) T.n_isinstance (by decide +kernel) (pa_cons (pv 0) (pa_cons (pe_bltn (v := .ty "str") (by rfl) T.n_str (by decide +kernel) rfl) pa_nil))))) (pss_one (ps_raise2 rfl (takes_of rfl rfl rfl rfl) R_BadText (hr.mono (by decide)) (by rfl) pe_int pe_int)) pss_nil)
  (pss_one (ps_ret (pe_split (pv 0) pe_str)))), ?_⟩
    rcases h with ⟨⟨t, ty, ht⟩, k⟩ | ⟨z, rfl, hz, k⟩
    · refine ⟨_, rfl, _, .ty "str", t, .type "str", false, rfl, .ty _, ty, ht, false, rfl, iteT ?_⟩
      exact raise2_of (σ := []) (W := fun cls d _ H => E cls d H) R_BadText.T R_BadText.no R_BadText.no2 k
    · refine ⟨_, rfl, _, .ty "str", .type "str", .type "str", true, rfl, .ty _, .base (.str z), kit_ty (by decide +kernel), true, rfl, ?_⟩
      refine iteF ?_
      exact ⟨_, rfl, ⟨_, rfl⟩, z, " ", rfl, rfl, by decide +kernel, hz, k⟩
theorem sc_integer_of : FnScope ["item", "digits"] ["item"] (defScope s_integer_of) := ⟨rfl, rfl, rfl, by decide +kernel, rfl, by decide +kernel, by decide +kernel⟩
abbrev N_integer_of : List Str := ["item", "digits"]
theorem ok_integer_of {f : Addr} {fd : FuncData} (F : Fun K "integer_of" "integer_of" s_integer_of f fd) (T : Blt mg) : FnOk P w K mg base CX0 1 f fd ["item"] spIntOf := by
  obtain ⟨tD, gD⟩ := T.g_MOST_DIGITS
  refine F.ok sc_integer_of (fun vs H Q E h => ?_) (fun cdv A outer s H vs Q E hr h => ?_)
  · obtain ⟨z, rfl, _⟩ := h
    rfl
  · obtain ⟨z, rfl, hz, k⟩ := h
    refine ⟨_, (pss_cons (ps_set (i := 1) sc_integer_of.nd rfl (Or.inl rfl) (pe_bm PySem.F.plainAttrs_str PySem.F.slot_str_removeprefix PySem.F.type_str_removeprefix mt_removeprefix (pv 0) (pa_cons pe_str pa_nil)))
  (pss_cons (ps_if (PW.pt (pw_or (pt_not (PW.pt (pw_and (pt_val (pe_bm0 PySem.F.plainAttrs_str PySem.F.slot_str_isascii PySem.F.type_str_isascii mt_isascii (pv 1))) (pw_and1 (pt_val (pe_bm0 PySem.F.plainAttrs_str PySem.F.slot_str_isdigit PySem.F.type_str_isdigit mt_isdigit (pv 1))))))) (pw_or1 (pt_cmpR op_gt (pe_callB call_len_str (by rfl) T.n_len (by decide +kernel) (pa_cons (pv 1) pa_nil)) (pe_glob (v := .int 140) rfl T.g_MOST_DIGITS.choose_spec ⟨_, rfl⟩) (nomark _))))) (pss_one (ps_ret pe_non)) pss_nil)
  (pss_cons (ps_if (PW.pt (pw_and (pt_val (pe_bm PySem.F.plainAttrs_str PySem.F.slot_str_startswith PySem.F.type_str_startswith mt_startswith (pv 1) (pa_cons pe_str pa_nil))) (pw_and1 (pt_cmpR op_ne (pv 0) pe_str (nomark _))))) (pss_one (ps_ret pe_non)) pss_nil)
  (pss_one (ps_ret (pe_callTy call_int_str (by rfl) T.n_int (by decide +kernel) (pa_cons (pv 0) pa_nil))))))), ?_⟩
    obtain ⟨y, hy⟩ : ∃ y, Txt.removeprefix z "-" = y := ⟨_, rfl⟩
    have ey : MT.cs y = MT.behind (MT.cs z) := by rw [← hy]; exact MT.drop_minus z
    have yl : y.length ≤ z.length := by
      rw [← MT.len_cs, ← MT.len_cs, ey]
      unfold MT.behind
      split
      · rename_i e
        rw [e]
        exact Nat.le_succ _
      · exact Nat.le_refl _
    have hz1 : z.length ≤ sizeLine := by rw [sizeLine_eq]; omega
    have hy1 : y.length ≤ sizeLine := by omega
    refine ⟨_, rfl, tyS, _, _, rfl, rfl, hz1, ?_⟩
    rw [hy]
    have hb : (Txt.isascii y && Txt.isdigit y) = MT.digs (MT.behind (MT.cs z)) := by rw [MT.digit_iff, ey]
    have no : MT.intOf z = none → Q .non H := fun e => by
      rw [e] at k
      exact k
    have none1 : ¬ MT.digs (MT.behind (MT.cs z)) = true → MT.intOf z = none := fun c => by
      unfold MT.intOf
      exact if_neg fun e => c e.1
    refine ⟨_, rfl, tyS, _, rfl, rfl, trivial, ?_⟩
    by_cases D : MT.digs (MT.behind (MT.cs z)) = true
    · rw [D, Bool.and_eq_true] at hb
      rw [hb.1]
      refine ⟨true, rfl, iteT ?_⟩
      refine ⟨_, rfl, tyS, _, rfl, rfl, trivial, ?_⟩
      rw [hb.2]
      refine ⟨true, rfl, iteF ?_⟩
      refine ⟨_, rfl, _, rfl, hy1, _, _, rfl, rfl, _, rfl, ?_⟩
      have yd : y.length = (MT.behind (MT.cs z)).length := by rw [← ey, MT.len_cs]
      refine ite2 (fun c => ?_) (fun c => ?_)
      · rw [decide_eq_true_iff] at c
        exact no (if_neg fun e => by omega)
      · rw [decide_eq_true_iff] at c
        have zl : z.length ≤ 141 := by
          rw [← MT.len_cs] at *
          unfold MT.behind at yd
          split at yd
          · rename_i e
            rw [e, List.length_cons]
            omega
          · omega
        have fin : ((MT.behind (MT.cs z)).head? = some 48 → z = "0") → tRet (tCB (fun xs H Q => ∃ a n, xs = [V.str a] ∧ intText? a = some n ∧ a.length ≤ 640 ∧ Q (V.int n) H) (tCons (tVar 0) tNil)) { nx := fun x H' => Q V.non H', rt := Q } [some (.str z), some (.str y)] H := fun h3 => by
          obtain ⟨v, e1, e2⟩ := MN.int_ok D (by omega) h3 (by omega)
          rw [e1] at k
          exact ⟨_, rfl, _, _, rfl, e2, by omega, k⟩
        refine ⟨_, rfl, tyS, _, _, rfl, rfl, ?_⟩
        rw [MT.starts_zero, ey]
        refine ⟨_, rfl, iteB (fun c => ?_) (fun c => fin fun h => absurd (decide_eq_true h) (by rw [c]; decide))⟩
        refine ⟨_, rfl, rfl, _, rfl, ?_⟩
        by_cases e0 : z = "0"
        · refine iteF' (by rw [e0]; decide) (fin fun _ => e0)
        · refine iteT' (by rw [decide_eq_false (fun h => e0 (V.str.inj h))]; rfl) (no (if_neg fun e => e0 (e.2.2 (of_decide_eq_true c))))
    · have hd : (Txt.isascii y && Txt.isdigit y) = false := by
        rw [hb]
        exact Bool.not_eq_true _ ▸ D
      have out := no (none1 D)
      cases ea : Txt.isascii y with
      | false => exact ⟨false, rfl, iteF (iteT (iteT out))⟩
      | true =>
        rw [ea, Bool.true_and] at hd
        refine ⟨true, rfl, iteT ?_⟩
        refine ⟨_, rfl, tyS, _, rfl, rfl, trivial, ?_⟩
        rw [hd]
        exact ⟨false, rfl, iteT (iteT out)⟩
theorem sc_item_at : FnScope ["items", "at"] ["items", "at"] (defScope s_item_at) := ⟨rfl, rfl, rfl, by decide +kernel, rfl, by decide +kernel, by decide +kernel⟩
abbrev N_item_at : List Str := ["items", "at"]
theorem ok_item_at {f CT fT : Addr} {fd fdT : FuncData} (F : Fun K "item_at" "item_at" s_item_at f fd) (T : Blt mg) (R_BadText : Err2 P w K mg base "BadText" "line" "item" CT fT fdT) : FnOk P w K mg base (L2.CX P w) 3 f fd ["items", "at"] (spItemAt CT) := by
  refine F.okX sc_item_at (fun vs H Q E h => ?_) (fun cdv A outer s H vs Q E hr h => ?_)
  · obtain ⟨q, ys, i, rfl, _⟩ := h
    rfl
  · obtain ⟨q, ys, i, rfl, hq, k1, k2⟩ := h
    refine ⟨_, (pss_cons (ps_if (pt_cmpR op_ge (pv 1) (pe_callB call_len_seq (by rfl) T.n_len (by decide +kernel) (pa_cons (pv 0) pa_nil)) (nomark _)) (pss_one (ps_raise2 rfl (takes_of rfl rfl rfl rfl) R_BadText (hr.mono (by decide)) (by rfl) pe_int (pe_callB call_len_seq (by rfl) T.n_len (by decide +kernel) (pa_cons (pv 0) pa_nil)))) pss_nil)
  (pss_one (ps_ret (pe_ix ix_list (pv 0) (pv 1) (fun _ _ => rfl))))), ?_⟩
    refine ⟨_, rfl, _, rfl, q, _, rfl, .inl (SqL.of hq), _, _, rfl, rfl, _, rfl, ?_⟩
    refine ite2 (fun c => ?_) (fun c => ?_)
    · rw [List.length_map] at c
      refine ⟨_, rfl, q, _, rfl, .inl (SqL.of hq), ?_⟩
      rw [List.length_map]
      exact raise2_of (σ := []) (W := fun cls d _ H => E cls d H) R_BadText.T R_BadText.no R_BadText.no2 (k2 (List.getElem?_eq_none (by have := of_decide_eq_true c; omega)))
    · rw [List.length_map] at c
      have hi : i < ys.length := by rw [decide_eq_true_iff] at c; omega
      refine ⟨_, rfl, _, rfl, q, _, _, V.str ys[i], rfl, rfl, SqL.of hq, atI_nat (by rw [List.getElem?_map, List.getElem?_eq_getElem hi]; rfl), k1 _ (List.getElem?_eq_getElem hi)⟩
theorem sc_integer_at : FnScope ["items", "at", "least", "most", "value"] ["items", "at", "least", "most"] (defScope s_integer_at) := ⟨rfl, rfl, rfl, by decide +kernel, rfl, by decide +kernel, by decide +kernel⟩
abbrev N_integer_at : List Str := ["items", "at", "least", "most", "value"]
theorem ok_integer_at {f f1 f2 f3 f4 CT fT : Addr} {fd fd1 fd2 fd3 fd4 fdT : FuncData} (F : Fun K "integer_at" "integer_at" s_integer_at f fd) (T : Blt mg) (D_integer_of : Df K mg "integer_of" s_integer_of ["item"] f1 fd1) (D_item_at : Df K mg "item_at" s_item_at ["items", "at"] f2 fd2) (D_is_within : Df K mg "is_within" s_is_within ["value", "least", "most"] f3 fd3) (D_is_integer : Df K mg "is_integer" s_is_integer ["value"] f4 fd4) (R_BadText : Err2 P w K mg base "BadText" "line" "item" CT fT fdT) : FnOk P w K mg base (L2.CX P w) 5 f fd ["items", "at", "least", "most"] (spIntAt CT) := by
  have G_integer_of : FnOk P w K mg base CX0 1 f1 fd1 ["item"] spIntOf := ok_integer_of D_integer_of.F T
  have G_item_at : FnOk P w K mg base (L2.CX P w) 3 f2 fd2 ["items", "at"] (spItemAt CT) := ok_item_at D_item_at.F T R_BadText
  have G_is_within : FnOk P w K mg base CX0 2 f3 fd3 ["value", "least", "most"] (spWithin K) := ok_is_within D_is_within.F D_is_integer T
  refine F.okX sc_integer_at (fun vs H Q E h => ?_) (fun cdv A outer s H vs Q E hr h => ?_)
  · obtain ⟨q, ys, i, lo, hi, rfl, _⟩ := h
    rfl
  · obtain ⟨q, ys, i, lo, hi, rfl, hq, hL, h0, k1, k2, k3⟩ := h
    refine ⟨_, (pss_cons (ps_set (i := 4) sc_integer_at.nd rfl (Or.inl rfl) (pe_call G_integer_of (hr.mono (by decide)) (by rfl) D_integer_of.g D_integer_of.F.kp D_integer_of.b .nil pass0 (pa_cons (pe_callS G_item_at (hr.mono (by decide)) (by rfl) D_item_at.g D_item_at.F.kp D_item_at.b (fun σ => passAt (takes_of rfl rfl rfl rfl) σ) (pa_cons (pv 0) (pa_cons (pv 1) pa_nil))) pa_nil)))
  (pss_cons (ps_if (pt_not (pt_val (pe_call G_is_within (hr.mono (by decide)) (by rfl) D_is_within.g D_is_within.F.kp D_is_within.b .nil pass0 (pa_cons (pv 4) (pa_cons (pv 2) (pa_cons (pv 3) pa_nil)))))) (pss_one (ps_raise2 rfl (takes_of rfl rfl rfl rfl) R_BadText (hr.mono (by decide)) (by rfl) pe_int (pv 1))) pss_nil)
  (pss_one (ps_ret (pv 4))))), ?_⟩
    refine ⟨_, rfl, _, rfl, q, ys, i, rfl, hq, fun y hy => ?_, fun hn => k3 hn⟩
    refine ⟨y, rfl, hL y (List.mem_of_getElem? hy), ?_⟩
    have bad : MN.inR y lo hi = false → ∀ r : Ends, tRaise2 K CT "line" "item" (fun cls d x H => E cls d H) (tC (V.int 0)) (tVar 1) r (List.set (L2.start ["items", "at", "least", "most", "value"] [V.ref q, V.int ↑i, V.int lo, V.int hi]) 4 (some (oI (MT.intOf y)))) H := fun c r => by
      refine ⟨_, rfl, ?_⟩
      exact raise2_of (σ := []) (W := fun cls d _ H => E cls d H) R_BadText.T R_BadText.no R_BadText.no2 (k2 y hy c)
    have eq := MN.int_num (s := y) (hi := hi) h0
    cases e : MT.intOf y with
    | none =>
      rw [e] at eq bad
      refine ⟨_, rfl, _, rfl, _, rfl, _, some lo, some hi, false, rfl, isI_non, _, rfl, ?_⟩
      exact iteT (bad eq.symm _)
    | some v =>
      rw [e] at eq bad
      refine ⟨_, rfl, _, rfl, _, rfl, _, some lo, some hi, true, rfl, isI_int _, _, rfl, ?_⟩
      have eq2 : (true && inB (some lo) (some hi) (oI (some v))) = MN.inR y lo hi := eq
      rw [eq2]
      cases c : MN.inR y lo hi with
      | false => exact iteT (bad c _)
      | true =>
        obtain ⟨n, _, hn, h1, h2⟩ := MN.inR_ex c
        have : v = (n : Int) := Option.some.inj (e.symm.trans (MN.int_of_num hn))
        subst this
        exact iteF ⟨_, rfl, k1 y n hy hn h1 h2⟩
theorem sc_need_end : FnScope ["items", "at"] ["items", "at"] (defScope s_need_end) := ⟨rfl, rfl, rfl, by decide +kernel, rfl, by decide +kernel, by decide +kernel⟩
abbrev N_need_end : List Str := ["items", "at"]
theorem ok_need_end {f CT fT : Addr} {fd fdT : FuncData} (F : Fun K "need_end" "need_end" s_need_end f fd) (T : Blt mg) (R_BadText : Err2 P w K mg base "BadText" "line" "item" CT fT fdT) : FnOk P w K mg base (L2.CX P w) 3 f fd ["items", "at"] (spNeedEnd CT) := by
  refine F.okX sc_need_end (fun vs H Q E h => ?_) (fun cdv A outer s H vs Q E hr h => ?_)
  · obtain ⟨q, ys, i, rfl, _⟩ := h
    rfl
  · obtain ⟨q, ys, i, rfl, hq, k1, k2⟩ := h
    refine ⟨_, (pss_one (ps_if (pt_cmpR op_lt (pv 1) (pe_callB call_len_seq (by rfl) T.n_len (by decide +kernel) (pa_cons (pv 0) pa_nil)) (nomark _)) (pss_one (ps_raise2 rfl (takes_of rfl rfl rfl rfl) R_BadText (hr.mono (by decide)) (by rfl) pe_int (pv 1))) pss_nil)), ?_⟩
    refine ⟨_, rfl, _, rfl, q, _, rfl, .inl (SqL.of hq), _, _, rfl, rfl, _, rfl, ?_⟩
    refine ite2 (fun c => ?_) (fun c => ?_)
    · rw [List.length_map] at c
      refine ⟨_, rfl, ?_⟩
      exact raise2_of (σ := []) (W := fun cls d _ H => E cls d H) R_BadText.T R_BadText.no R_BadText.no2 (k2 (by have := of_decide_eq_true c; omega))
    · rw [List.length_map] at c
      exact k1 (by rw [decide_eq_true_iff] at c; omega)
end
end K53
/-! f'..' of two parts or more, its reading by a name. -/
namespace OB
open PySem PySem.Spec PyProof.Rows L2
def tJoined (ts : List TE) : TE := fun σ H Q => tJs ts Str.empty σ H fun out H1 => Q (.str out) H1
theorem pe_joinedN {X : Cx} {v1 v2 : Expr} {rest : List Expr} {ts : List TE} {pos : Pos} (h : PJ X (v1 :: v2 :: rest) ts) : PE X (.JoinedStr (v1 :: v2 :: rest) pos) (tJoined ts) := pe_joined h
end OB
/-! A lambda's reading grows with what is wanted: sums of ints, calls within, max of a list. -/
namespace OB
open PySem PySem.Spec PyProof.Rows L2 LamX
theorem mte_i0 {op : Int → Int → V} {a b : TE} (ha : MTE a) (hb : MTE b) : MTE (tOp (rI0 op) a b) := fun σ H Q1 Q2 h z =>
  ha σ H _ _ (fun x H1 z1 => hb σ H1 _ _ (fun y H2 ⟨i, j, e1, e2, q⟩ => ⟨i, j, e1, e2, h _ _ q⟩) z1) z
def SpMonoQ (sp : Sp) : Prop := ∀ vs H (Q1 Q2 : VK), (∀ v H, Q1 v H → Q2 v H) → sp vs H Q1 E0 → sp vs H Q2 E0
theorem mte_call {sp : Sp} {t : TA} (hs : SpMonoQ sp) (ht : MTA t) : MTE (tCall sp [] E0 t) := fun σ H Q1 Q2 h z => ht σ H _ _ (fun vs H1 z1 => hs _ _ _ _ h z1) z
def RMono (r : List V → Hp → VK → Prop) : Prop := ∀ vs H (Q1 Q2 : VK), (∀ v H, Q1 v H → Q2 v H) → r vs H Q1 → r vs H Q2
theorem mte_cb {r : List V → Hp → VK → Prop} {t : TA} (hr : RMono r) (ht : MTA t) : MTE (tCB r t) := fun σ H Q1 Q2 h z => ht σ H _ _ (fun vs H1 z1 => hr _ _ _ _ h z1) z
theorem mono_Max {K : PySem.W.Frag} : RMono (rMax K) := fun vs H Q1 Q2 h ⟨a, ns, e, hl, h0, k⟩ => ⟨a, ns, e, hl, h0, fun m hm hy => h _ _ (k m hm hy)⟩
theorem mono_Min {K : PySem.W.Frag} : RMono (rMin K) := fun vs H Q1 Q2 h ⟨a, ns, e, hl, h0, k⟩ => ⟨a, ns, e, hl, h0, fun m hm hy => h _ _ (k m hm hy)⟩
def R2Mono (r : R2) : Prop := ∀ x y H (Q1 Q2 : VK), (∀ v H, Q1 v H → Q2 v H) → r x y H Q1 → r x y H Q2
theorem mte_op {r : R2} {a b : TE} (hr : R2Mono r) (ha : MTE a) (hb : MTE b) : MTE (tOp r a b) := fun σ H Q1 Q2 h z =>
  ha σ H _ _ (fun x H1 z1 => hb σ H1 _ _ (fun y H2 z2 => hr _ _ _ _ _ h z2) z1) z
theorem mono_Rep : R2Mono rRep := fun x y H Q1 Q2 h ⟨l, k, xs, e1, e2, a, b, c, d, q⟩ => ⟨l, k, xs, e1, e2, a, b, c, d, fun p hp => h _ _ (q p hp)⟩
theorem mono_Cat : R2Mono rCat := fun x y H Q1 Q2 h ⟨l, k, xs, zs, e1, e2, a, b, c, q⟩ => ⟨l, k, xs, zs, e1, e2, a, b, c, fun p hp => h _ _ (q p hp)⟩
theorem mte_make {C : Addr} {sp : Sp} {t : TA} (hs : SpMonoQ sp) (ht : MTA t) : MTE (tMake C sp [] E0 t) := fun σ H Q1 Q2 h z =>
  ht σ H _ _ (fun vs H1 z1 x dx a b c => hs _ _ _ _ (fun v H2 w => ⟨w.1, h _ _ w.2⟩) (z1 x dx a b c)) z
end OB
/-! Operations on naturals, told as naturals. -/
namespace OB
open PySem PySem.Spec PyProof.Rows L2
/-- below a great power: hidden from omega -/
def W30 (a : Nat) : Prop := a < 2 ^ 30000
def rNat2 (C : Nat → Nat → Prop) (g : Nat → Nat → Nat) : R2 := fun x y H Q => ∀ P : Prop, (∀ a b : Nat, x = .int (a : Int) → y = .int (b : Int) → C a b → Q (.int ((g a b : Nat) : Int)) H → P) → P
theorem st_n {C : Nat → Nat → Prop} {g : Nat → Nat → Nat} {x y : V} {a b r : Nat} {H : Hp} {Q : VK} (ex : x = .int (a : Int)) (ey : y = .int (b : Int)) (hc : C a b) (er : g a b = r) (k : Q (.int (r : Int)) H) : rNat2 C g x y H Q := by
  subst er
  exact fun P h => h a b ex ey hc k
theorem bits_le {a k : Nat} (h : a < 2 ^ k) : Builtin.Int.intBits (a : Int) ≤ k + 1 := by
  unfold Builtin.Int.intBits
  by_cases z : a = 0
  · subst z; simp
  · have := (Nat.log2_lt z).mpr h
    simp
    first
      | omega
      | (split <;> omega)
theorem rNat2.ex {C : Nat → Nat → Prop} {g : Nat → Nat → Nat} {x y : V} {H : Hp} {Q : VK} (h : rNat2 C g x y H Q) : ∃ a b : Nat, x = .int (a : Int) ∧ y = .int (b : Int) ∧ C a b ∧ Q (.int ((g a b : Nat) : Int)) H :=
  h _ fun a b e1 e2 c q => ⟨a, b, e1, e2, c, q⟩
/-- a constant, told as a natural -/
theorem pe_intN {X : Cx} {j : Nat} {pos : Pos} (n : Nat) : PE X (.Constant (.int ((n : Nat) : Int)) j pos) (tC (.int ((n : Nat) : Int))) := pe_int
abbrev CT (_ _ : Nat) : Prop := True
section
variable {X : Cx}
theorem nop_add : OpR X (binaryOp .Add) (rNat2 CT fun a b => a + b) := by
  intro pins s σ H x y v u Q I rx ry h
  obtain ⟨a, b, e1, e2, _, q⟩ := h.ex
  exact op_add pins s σ H x y v u Q I rx ry ⟨_, _, e1, e2, by show Q (V.int ((a : Int) + b)) H; rw [← Int.natCast_add]; exact q⟩
theorem nop_sub : OpR X (binaryOp .Sub) (rNat2 (fun a b => b ≤ a) fun a b => a - b) := by
  intro pins s σ H x y v u Q I rx ry h
  obtain ⟨a, b, e1, e2, h, q⟩ := h.ex
  exact op_sub pins s σ H x y v u Q I rx ry ⟨_, _, e1, e2, by show Q (V.int ((a : Int) - b)) H; rw [← Int.ofNat_sub h]; exact q⟩
theorem nop_mul : OpR X (binaryOp .Mult) (rNat2 (fun a b => a < 2 ^ 63 ∨ b < 2 ^ 63) fun a b => a * b) := by
  intro pins s σ H x y v u Q I rx ry h
  obtain ⟨a, b, e1, e2, h, q⟩ := h.ex
  refine op_mul pins s σ H x y v u Q I rx ry ⟨_, _, e1, e2, ?_, by show Q (V.int ((a : Int) * b)) H; rw [← Int.natCast_mul]; exact q⟩
  rcases h with h | h
  · exact .inl ⟨by omega, by omega⟩
  · exact .inr ⟨by omega, by omega⟩
theorem nop_mod : OpR X (binaryOp .Mod) (rNat2 (fun _ b => 0 < b) fun a b => a % b) := by
  intro pins s σ H x y v u Q I rx ry h
  obtain ⟨a, b, e1, e2, h, q⟩ := h.ex
  exact op_mod pins s σ H x y v u Q I rx ry ⟨_, _, e1, e2, by show (0 : Int) < _; omega, by show Q (V.int ((a : Int) % b)) H; rw [← Int.natCast_emod]; exact q⟩
theorem nop_fdiv : OpR X (binaryOp .FloorDiv) (rNat2 (fun _ b => 0 < b ∧ b < 1073741824) fun a b => a / b) := by
  intro pins s σ H x y v u Q I rx ry h
  obtain ⟨a, b, e1, e2, h, q⟩ := h.ex
  exact op_fdiv pins s σ H x y v u Q I rx ry ⟨_, _, e1, e2, ⟨by show (0 : Int) < _; omega, by show (b : Int) < _; omega⟩, by show Q (V.int ((a : Int) / b)) H; rw [← Int.natCast_ediv]; exact q⟩
theorem nop_shr : OpR X (binaryOp .RShift) (rNat2 CT fun a b => a / 2 ^ b) := by
  intro pins s σ H x y v u Q I rx ry h
  obtain ⟨a, b, e1, e2, _, q⟩ := h.ex
  refine op_shrN pins s σ H x y v u Q I rx ry ⟨_, _, e1, e2, ?_⟩
  rw [show (a : Int) / 2 ^ b = ((a / 2 ^ b : Nat) : Int) by rw [Int.natCast_ediv, Int.natCast_pow]; rfl]
  exact q
theorem nop_shl : OpR X (binaryOp .LShift) (rNat2 (fun a b => W30 a ∧ b ≤ 30000) fun a b => a * 2 ^ b) := by
  intro pins s σ H x y v u Q I rx ry h
  obtain ⟨a, b, e1, e2, h, q⟩ := h.ex
  refine op_shlN pins s σ H x y v u Q I rx ry ⟨_, _, e1, e2, ⟨Int.natCast_nonneg _, ?_⟩, ?_⟩
  · have := bits_le h.1
    have h2 := h.2
    show (Builtin.Int.intBits (a : Int) : Int) + (b : Int) ≤ 2 ^ 27
    rw [show (2 : Int) ^ 27 = 134217728 by decide]
    omega
  · rw [show (a : Int) * 2 ^ b = ((a * 2 ^ b : Nat) : Int) by rw [Int.natCast_mul, Int.natCast_pow]; rfl]
    exact q
theorem nop_and : OpR X (binaryOp .BitAnd) (rNat2 CT fun a b => a &&& b) := by
  intro pins s σ H x y v u Q I rx ry h
  obtain ⟨a, b, e1, e2, _, q⟩ := h.ex
  refine op_and pins s σ H x y v u Q I rx ry ⟨_, _, e1, e2, ?_⟩
  show Q (V.int (Builtin.bitAnd (a : Int) b)) H
  rw [bitAnd_pp (Int.natCast_nonneg _) (Int.natCast_nonneg _), Int.toNat_natCast, Int.toNat_natCast]
  exact q
theorem nop_xor : OpR X (binaryOp .BitXor) (rNat2 CT fun a b => a ^^^ b) := by
  intro pins s σ H x y v u Q I rx ry h
  obtain ⟨a, b, e1, e2, _, q⟩ := h.ex
  refine op_xor pins s σ H x y v u Q I rx ry ⟨_, _, e1, e2, ?_⟩
  show Q (V.int (Builtin.bitXor (a : Int) b)) H
  rw [Bits.bitXor_pp (Int.natCast_nonneg _) (Int.natCast_nonneg _), Int.toNat_natCast, Int.toNat_natCast]
  exact q
theorem nop_or : OpR X (binaryOp .BitOr) (rNat2 CT fun a b => a ||| b) := by
  intro pins s σ H x y v u Q I rx ry h
  obtain ⟨a, b, e1, e2, _, q⟩ := h.ex
  refine op_or pins s σ H x y v u Q I rx ry ⟨_, _, e1, e2, ?_⟩
  show Q (V.int (Builtin.bitOr (a : Int) b)) H
  rw [Bits.bitOr_pp (Int.natCast_nonneg _) (Int.natCast_nonneg _), Int.toNat_natCast, Int.toNat_natCast]
  exact q
end
theorem W30.of {a k : Nat} (h : a < 2 ^ k) (hk : k ≤ 30000) : W30 a := Nat.lt_of_lt_of_le h (Nat.pow_le_pow_right (by decide) hk)
theorem W30.le {a b : Nat} (h : W30 b) (hk : a ≤ b) : W30 a := Nat.lt_of_le_of_lt hk h
theorem W30.one : W30 1 := .of (k := 1) (by decide) (by decide)
/-- 1 << k, by a name -/
def rOneR : R2 := fun x y H Q => ∃ k : Nat, x = .int 1 ∧ y = .int (k : Int) ∧ k ≤ 1000000 ∧ Q (.int ((2 ^ k : Nat) : Int)) H
theorem mono_one : R2Mono rOneR := fun x y H Q1 Q2 h ⟨k, a, b, c, q⟩ => ⟨k, a, b, c, h _ _ q⟩
theorem mono_nat {C : Nat → Nat → Prop} {g : Nat → Nat → Nat} : R2Mono (rNat2 C g) := fun x y H Q1 Q2 h z P k => z P fun a b e1 e2 c q => k a b e1 e2 c (h _ _ q)
theorem and_mask (a k : Nat) : a &&& (2 ^ k - 1) = a % 2 ^ k := Nat.and_two_pow_sub_one_eq_mod a k
theorem and_1 (a : Nat) : a &&& 1 = a % 2 := Nat.and_one_is_mod a
end OB
namespace K53
open PySem PySem.Spec PyProof.Rows L2 OB SkE LamX
abbrev pbOf (c : Nat) : Nat := Builtin.Int.intBits ((c - 1 : Nat) : Int)
theorem pb_facts : ∀ c < 257, 1 ≤ c → c ≤ 2 ^ pbOf c ∧ pbOf c ≤ 8 ∧ ((List.range 8).filter fun b => decide (2 ^ b < c)).length = pbOf c := by decide +kernel
structure ShOk (c s m : Nat) : Prop where
  c1 : 1 ≤ c
  c2 : c ≤ 256
  s1 : 1 ≤ s
  s2 : s ≤ 48
  m1 : 1 ≤ m
  m2 : m ≤ 8
  mc : m ≤ c
theorem ShOk.pb {c s m : Nat} (h : ShOk c s m) : c ≤ 2 ^ pbOf c ∧ pbOf c ≤ 8 := ⟨(pb_facts c (by have := h.c2; omega) h.c1).1, (pb_facts c (by have := h.c2; omega) h.c1).2.1⟩
theorem ShOk.top {c s m : Nat} (h : ShOk c s m) : c * s ≤ 12288 := Nat.mul_le_mul h.c2 h.s2
theorem ShOk.rows {c s m : Nat} (h : ShOk c s m) : m * (pbOf c + s) ≤ 448 := by
  have := h.pb.2; have := h.s2
  exact Nat.mul_le_mul h.m2 (show pbOf c + s ≤ 56 by omega)
def IsSt (H : Hp) (C x : Addr) (c s m : Nat) : Prop := ∃ dx fs, H x = some (.ins C dx fs) ∧ fs.lookup ("cells" : Str) = some (.int (c : Int)) ∧ fs.lookup ("size" : Str) = some (.int (s : Int)) ∧ fs.lookup ("most" : Str) = some (.int (m : Int)) ∧
  fs.lookup ("place_bits" : Str) = some (.int ((pbOf c : Nat) : Int)) ∧ fs.lookup ("bits" : Str) = some (.int ((c * s + 1 + m * (pbOf c + s) : Nat) : Int))
theorem IsSt.same {H H' : Hp} {C x : Addr} {c s m : Nat} (h : IsSt H C x c s m) (S : Same H H') : IsSt H' C x c s m := by
  obtain ⟨dx, fs, h1, h2⟩ := h
  exact ⟨dx, fs, S _ _ h1, h2⟩
theorem IsSt.but {H H' : Hp} {C x p : Addr} {c s m : Nat} {xs : List V} (h : IsSt H C x c s m) (S : But p H H') (hp : H p = some (.lst xs)) : IsSt H' C x c s m := by
  obtain ⟨dx, fs, h1, h2⟩ := h
  exact ⟨dx, fs, S _ _ h1 (ne_of h1 hp (by intro z; cases z)), h2⟩
theorem IsSt.ext {H H' : Hp} {C x : Addr} {c s m : Nat} (h : IsSt H C x c s m) (e : ExtN H H') : IsSt H' C x c s m := by
  obtain ⟨dx, fs, h1, h2⟩ := h
  exact ⟨dx, fs, e _ _ h1 (fun _ z => nomatch z), h2⟩
def spStInit (C : Addr) : Sp := fun vs H Q _ => ∃ (p dx : Addr) (c s m : Nat), vs = [.ref p, .int (c : Int), .int (s : Int), .int (m : Int)] ∧ ShOk c s m ∧ H p = some (.ins C dx []) ∧
  ∀ H', IsSt H' C p c s m → (∀ a o, H a = some o → a ≠ p → H' a = some o) → Q .non H'
theorem make_st {C x dx : Addr} {c s m : Nat} {H1 : Hp} {R : Hp → Prop} {E : XK} (ok : ShOk c s m) (nx : H1 x = none) (ndx : H1 dx = none)
    (k : ∀ H3, Same H1 H3 → IsSt H3 C x c s m → R H3) : spStInit C [.ref x, .int (c : Int), .int (s : Int), .int (m : Int)] (upd (upd H1 dx (.own x)) x (.ins C dx [])) (fun v H2 => v = .non ∧ R H2) E := by
  have old : ∀ a o, H1 a = some o → (upd (upd H1 dx (.own x)) x (.ins C dx [])) a = some o := fun a o e => by
    rw [upd_ne (ne_of_none e nx), upd_ne (ne_of_none e ndx)]
    exact e
  exact ⟨x, dx, c, s, m, rfl, ok, upd_same, fun H3 hl keep => ⟨rfl, k H3 (fun a o e => keep a o (old a o e) (ne_of_none e nx)) hl⟩⟩
def spMostRows : Sp := fun vs H Q _ => ∃ c : Nat, vs = [.int (c : Int)] ∧ Q (.int (if (c : Int) < 8 then (c : Int) else 8)) H
section
variable {P : Program} {w : World} {K : PySem.W.Frag} {mg : Str → Option Value} {base : Heap}
theorem sc_most_rows : FnScope ["cells"] ["cells"] (defScope s_most_rows) := ⟨rfl, rfl, rfl, by decide +kernel, rfl, by decide +kernel, by decide +kernel⟩
abbrev N_most_rows : List Str := ["cells"]
theorem ok_most_rows {f : Addr} {fd : FuncData} (F : Fun K "most_rows" "most_rows" s_most_rows f fd) (T : Blt mg) : FnOk P w K mg base CX0 1 f fd ["cells"] spMostRows := by
  refine F.ok sc_most_rows (fun vs H Q E h => ?_) (fun cdv A outer s H vs Q E hr h => ?_)
  · obtain ⟨c, rfl, _⟩ := h
    rfl
  · obtain ⟨c, rfl, k⟩ := h
    refine ⟨_, (pss_one (ps_ret (pe_callB (call_min2 rfl) (by rfl) T.n_min (by decide +kernel) (pa_cons (pe_glob (v := .int 8) rfl T.g_MOST_ROWS.choose_spec ⟨_, rfl⟩) (pa_cons (pv 0) pa_nil))))), ?_⟩
    repeat (first | (with_reducible refine st_tC ?_) | (with_reducible refine st_tOp ?_) | ((with_reducible apply st_n); rfl; rfl; (first | trivial | (show _ ≤ _; omega) | (show _ < _; omega) | (show _ ∨ _; omega) | assumption | exact ⟨by assumption, by omega⟩ | exact ⟨W30.one, by omega⟩ | fail); rfl) | (with_reducible refine st_i0 rfl rfl rfl ?_) | ((with_reducible refine st_i rfl rfl ?_ rfl ?_); first | omega | exact ⟨by decide, by decide, by decide⟩ | exact .inl ⟨by decide, by decide⟩ | exact .inl ⟨by omega, by omega⟩ | exact .inr ⟨by omega, by omega⟩ | fail) | ((fail_if_success refine Exists.intro (α := Nat → Nat → L2.St → Hp → Prop) ?_ ?_); (fail_if_success refine Exists.intro (α := L2.St → Hp → Prop) ?_ ?_); (fail_if_success refine Exists.intro (α := Nat → L2.St → Hp → Prop) ?_ ?_); apply Exists.intro) | ((refine And.intro ?_ ?_); first | with_reducible rfl | with_reducible assumption | rfl | ((with_reducible apply SqL.of); assumption) | ((with_reducible apply SqT.of); assumption) | ((with_reducible apply OwnC.cl); assumption) | (with_reducible exact isI_int _) | exact within_args | (with_reducible exact upd_same) | ((with_reducible apply Mid.o); assumption) | ((with_reducible apply Mid.t); assumption) | exact .inl ⟨rfl, _, SqL.of (by assumption)⟩ | (with_reducible exact ⟨_, SqT.of (by assumption)⟩) | (with_reducible exact ⟨_, SqL.of (by assumption)⟩) | omega | exact Nat.le_of_ble_eq_true rfl | exact nat9 (by omega) | exact ⟨_, rfl⟩ | (show _ ≤ sizeLine; decide) | exact ⟨by decide, by decide, by decide⟩ | exact .inl ⟨by decide, by decide⟩ | exact .inl ⟨by omega, by omega⟩ | exact .inr ⟨by omega, by omega⟩ | assumption | fail) | ((with_reducible refine iteF' ?_ ?_); first | rfl | exact decide_eq_false (by omega) | exact in_no (by omega) (by omega) | exact in_no (by omega) (by assumption) | (simp <;> fail) | fail) | ((with_reducible refine iteT' ?_ ?_); first | rfl | exact decide_eq_true (by omega) | (simp <;> fail) | fail))
    exact k
end
def Bad (K : PySem.W.Frag) (H : Hp) (x : V) (lo hi : Option Int) : Prop := ∃ b, IsI K H x b ∧ (b && inB lo hi x) = false
theorem in_bounds {lo hi i : Int} (h1 : lo ≤ i) (h2 : i ≤ hi) : (true && inB (some lo) (some hi) (.int i)) = true := by
  show (true && (decide (lo ≤ i) && decide (i ≤ hi))) = true
  rw [decide_eq_true h1, decide_eq_true h2]
  rfl
theorem fn_imp {P : Program} {w : World} {K : PySem.W.Frag} {mg : Str → Option Value} {base : Heap} {CX : CXT} {k : Nat} {f : Addr} {fd : FuncData} {ps : List Str} {sp sp' : Sp} (F : FnOk P w K mg base CX k f fd ps sp) (h : ∀ vs H Q E, sp' vs H Q E → sp vs H Q E) : FnOk P w K mg base CX k f fd ps sp' :=
  ⟨fun vs H Q E z => F.len vs H Q E (h _ _ _ _ z), fun A outer s H args us vs Q E hr he hb hv hs => F.run A outer s H args us vs Q E hr he hb hv (h _ _ _ _ hs)⟩
abbrev mr (c : Nat) : Int := if (c : Int) < 8 then (c : Int) else 8
def spStInitX (K : PySem.W.Frag) (C CS : Addr) : Sp := fun vs H Q E => ∃ (p dx : Addr) (x y z : V), vs = [.ref p, x, y, z] ∧ H p = some (.ins C dx []) ∧ ((Bad K H x (some 1) (some 256) ∧ RaisesP CS "cells" E H) ∨ ∃ c : Nat, x = .int (c : Int) ∧ 1 ≤ c ∧ c ≤ 256 ∧
  ((Bad K H y (some 1) (some 48) ∧ RaisesP CS "size" E H) ∨ ∃ s : Nat, y = .int (s : Int) ∧ 1 ≤ s ∧ s ≤ 48 ∧
  ((Bad K H z (some 1) (some (mr c)) ∧ RaisesP CS "most" E H) ∨ ∃ m : Nat, z = .int (m : Int) ∧ 1 ≤ m ∧ (m : Int) ≤ mr c ∧ ∀ H', IsSt H' C p c s m → (∀ a o, H a = some o → a ≠ p → H' a = some o) → Q .non H')))
theorem ShOk.mr {c s m : Nat} (h : ShOk c s m) : (m : Int) ≤ mr c := by
  have := h.m2; have := h.mc
  show (m : Int) ≤ if (c : Int) < 8 then (c : Int) else 8
  split <;> omega
theorem shok_of {c s m : Nat} (c1 : 1 ≤ c) (c2 : c ≤ 256) (s1 : 1 ≤ s) (s2 : s ≤ 48) (m1 : 1 ≤ m) (m2 : (m : Int) ≤ mr c) : ShOk c s m := by
  have m2 : (m : Int) ≤ if (c : Int) < 8 then (c : Int) else 8 := m2
  refine ⟨c1, c2, s1, s2, m1, ?_, ?_⟩ <;> split at m2 <;> omega
theorem plain_init {P : Program} {w : World} {K : PySem.W.Frag} {mg : Str → Option Value} {base : Heap} {k : Nat} {f C CS : Addr} {fd : FuncData} {ps : List Str} (F : FnOk P w K mg base (L2.CX P w) k f fd ps (spStInitX K C CS)) : FnOk P w K mg base CX0 k f fd ps (spStInit C) :=
  fn_imp (calm_of F) fun vs H Q E ⟨p, dx, c, s, m, e, ok, hp, k⟩ => ⟨p, dx, _, _, _, e, hp, .inr ⟨c, rfl, ok.c1, ok.c2, .inr ⟨s, rfl, ok.s1, ok.s2, .inr ⟨m, rfl, ok.m1, ok.mr, k⟩⟩⟩⟩
def spStEq (K : PySem.W.Frag) (C : Addr) : Sp := fun vs H Q _ => ∃ (x : Addr) (y : V) (c s m : Nat), vs = [.ref x, y] ∧ IsSt H C x c s m ∧ ((∃ (y' : Addr) (c' s' m' : Nat), y = .ref y' ∧ IsSt H C y' c' s' m' ∧ ∀ bn, bn = decide (c = c' ∧ s = s' ∧ m = m') → Q (.bl bn) H) ∨ (NotO K C H y ∧ Q (.bl false) H))
section
variable {P : Program} {w : World} {K : PySem.W.Frag} {mg : Str → Option Value} {base : Heap}
theorem sc_Store_init : FnScope ["self", "cells", "size", "most"] ["self", "cells", "size", "most"] (defScope s_Store_init) := ⟨rfl, rfl, rfl, by decide +kernel, rfl, by decide +kernel, by decide +kernel⟩
abbrev N_Store_init : List Str := ["self", "cells", "size", "most"]
theorem ok_Store_init {f f1 f2 f3 C CS fS : Addr} {fd fd1 fd2 fd3 fdS : FuncData} (F : Fun K "__init__" "Store.__init__" s_Store_init f fd) (T : Blt mg) (O_Store : OwnC K mg "Store" C f) (n1 : NoAttr K C "cells") (n2 : NoAttr K C "size") (n3 : NoAttr K C "most") (n4 : NoAttr K C "place_bits") (n5 : NoAttr K C "bits") (D_is_within : Df K mg "is_within" s_is_within ["value", "least", "most"] f1 fd1) (D_is_integer : Df K mg "is_integer" s_is_integer ["value"] f2 fd2) (D_most_rows : Df K mg "most_rows" s_most_rows ["cells"] f3 fd3) (R_BadStore : Err P w K mg base "BadStore" "part" CS fS fdS) :
    FnOk P w K mg base (L2.CX P w) 4 f fd ["self", "cells", "size", "most"] (spStInitX K C CS) := by
  have G_is_within : FnOk P w K mg base CX0 2 f1 fd1 ["value", "least", "most"] (spWithin K) := ok_is_within D_is_within.F D_is_integer T
  have G_most_rows : FnOk P w K mg base CX0 1 f3 fd3 ["cells"] spMostRows := ok_most_rows D_most_rows.F T
  refine F.okX sc_Store_init (fun vs H Q E h => ?_) (fun cdv A outer s H vs Q E hr h => ?_)
  · obtain ⟨p, dx, x, y, z, rfl, _⟩ := h
    rfl
  · obtain ⟨p, dx, x, y, z, rfl, hp, h⟩ := h
    refine ⟨_, (pss_cons (ps_if (pt_not (pt_val (pe_call G_is_within (hr.mono (by decide)) (by rfl) D_is_within.g D_is_within.F.kp D_is_within.b .nil pass0 (pa_cons (pv 1) (pa_cons pe_int (pa_cons (pe_glob (v := .int 256) rfl T.g_MOST_CELLS.choose_spec ⟨_, rfl⟩) pa_nil)))))) (pss_one (ps_raise1 rfl (takes_of rfl rfl rfl rfl) R_BadStore (hr.mono (by decide)) (by rfl) pe_str)) pss_nil)
  (pss_cons (ps_if (pt_not (pt_val (pe_call G_is_within (hr.mono (by decide)) (by rfl) D_is_within.g D_is_within.F.kp D_is_within.b .nil pass0 (pa_cons (pv 2) (pa_cons pe_int (pa_cons (pe_glob (v := .int 48) rfl T.g_MOST_SIZE.choose_spec ⟨_, rfl⟩) pa_nil)))))) (pss_one (ps_raise1 rfl (takes_of rfl rfl rfl rfl) R_BadStore (hr.mono (by decide)) (by rfl) pe_str)) pss_nil)
  (pss_cons (ps_if (pt_not (pt_val (pe_call G_is_within (hr.mono (by decide)) (by rfl) D_is_within.g D_is_within.F.kp D_is_within.b .nil pass0 (pa_cons (pv 3) (pa_cons pe_int (pa_cons (pe_call G_most_rows (hr.mono (by decide)) (by rfl) D_most_rows.g D_most_rows.F.kp D_most_rows.b .nil pass0 (pa_cons (pv 1) pa_nil)) pa_nil)))))) (pss_one (ps_raise1 rfl (takes_of rfl rfl rfl rfl) R_BadStore (hr.mono (by decide)) (by rfl) pe_str)) pss_nil)
  (pss_cons (ps_fld (pv 0) (pv 1) rfl)
  (pss_cons (ps_fld (pv 0) (pv 2) rfl)
  (pss_cons (ps_fld (pv 0) (pv 3) rfl)
  (pss_cons (ps_fld (pv 0) (pe_bits (pe_op nop_sub (pv 1) (pe_intN 1))) rfl)
  (pss_one (ps_fld (pv 0) (pe_op nop_add (pe_op nop_add (pe_op nop_mul (pv 1) (pv 2)) (pe_intN 1)) (pe_op nop_mul (pv 3) (pe_op nop_add (pe_fld (pv 0) rfl) (pv 2)))) rfl))))))))), ?_⟩
    rcases h with ⟨⟨cc, hI, hc⟩, k⟩ | ⟨c, rfl, c1, c2, h⟩
    · refine ⟨_, rfl, _, some 1, some 256, cc, rfl, hI, _, rfl, ?_⟩
      rw [hc]
      refine iteT ?_
      exact raise1_of (σ := []) (W := fun cls d _ H => E cls d H) R_BadStore.T R_BadStore.no k
    refine ⟨_, rfl, _, some 1, some 256, true, rfl, isI_int _, _, rfl, ?_⟩
    rw [in_bounds (show (1 : Int) ≤ (c : Int) by omega) (show (c : Int) ≤ 256 by omega)]
    refine iteF ?_
    rcases h with ⟨⟨cc, hI, hc⟩, k⟩ | ⟨s', rfl, s1, s2, h⟩
    · refine ⟨_, rfl, _, some 1, some 48, cc, rfl, hI, _, rfl, ?_⟩
      rw [hc]
      refine iteT ?_
      exact raise1_of (σ := []) (W := fun cls d _ H => E cls d H) R_BadStore.T R_BadStore.no k
    refine ⟨_, rfl, _, some 1, some 48, true, rfl, isI_int _, _, rfl, ?_⟩
    rw [in_bounds (show (1 : Int) ≤ (s' : Int) by omega) (show (s' : Int) ≤ 48 by omega)]
    refine iteF ?_
    rcases h with ⟨⟨cc, hI, hc⟩, k⟩ | ⟨m, rfl, m1, m2, k⟩
    · refine ⟨_, rfl, _, rfl, c, rfl, _, some 1, some (mr c), cc, rfl, hI, _, rfl, ?_⟩
      rw [hc]
      refine iteT ?_
      exact raise1_of (σ := []) (W := fun cls d _ H => E cls d H) R_BadStore.T R_BadStore.no k
    have ok := shok_of c1 c2 s1 s2 m1 m2
    have p8 := ok.pb.2
    have m2' := ok.m2
    have mc' := ok.mc
    refine ⟨_, rfl, _, rfl, c, rfl, _, some 1, some (mr c), true, rfl, isI_int _, _, rfl, ?_⟩
    rw [in_bounds (show (1 : Int) ≤ (m : Int) by omega) m2]
    refine iteF ?_
    refine ⟨_, rfl, _, rfl, p, C, dx, [], rfl, hp, O_Store.cl, n1, (by show 0 < 1000; decide), ?_⟩
    refine ⟨_, rfl, _, rfl, p, C, dx, _, rfl, upd_same, O_Store.cl, n2, (by show 1 < 1000; decide), ?_⟩
    refine ⟨_, rfl, _, rfl, p, C, dx, _, rfl, upd_same, O_Store.cl, n3, (by show 2 < 1000; decide), ?_⟩
    repeat (first | (with_reducible refine st_tC ?_) | (with_reducible refine st_tOp ?_) | ((with_reducible apply st_n); rfl; rfl; (first | trivial | (show _ ≤ _; omega) | (show _ < _; omega) | (show _ ∨ _; omega) | assumption | exact ⟨by assumption, by omega⟩ | exact ⟨W30.one, by omega⟩ | fail); rfl) | (with_reducible refine st_i0 rfl rfl rfl ?_) | ((with_reducible refine st_i rfl rfl ?_ rfl ?_); first | omega | exact ⟨by decide, by decide, by decide⟩ | exact .inl ⟨by decide, by decide⟩ | exact .inl ⟨by omega, by omega⟩ | exact .inr ⟨by omega, by omega⟩ | fail) | ((fail_if_success refine Exists.intro (α := Nat → Nat → L2.St → Hp → Prop) ?_ ?_); (fail_if_success refine Exists.intro (α := L2.St → Hp → Prop) ?_ ?_); (fail_if_success refine Exists.intro (α := Nat → L2.St → Hp → Prop) ?_ ?_); apply Exists.intro) | ((refine And.intro ?_ ?_); first | with_reducible rfl | with_reducible assumption | rfl | ((with_reducible apply SqL.of); assumption) | ((with_reducible apply SqT.of); assumption) | ((with_reducible apply OwnC.cl); assumption) | (with_reducible exact isI_int _) | exact within_args | (with_reducible exact upd_same) | ((with_reducible apply Mid.o); assumption) | ((with_reducible apply Mid.t); assumption) | exact .inl ⟨rfl, _, SqL.of (by assumption)⟩ | (with_reducible exact ⟨_, SqT.of (by assumption)⟩) | (with_reducible exact ⟨_, SqL.of (by assumption)⟩) | omega | exact Nat.le_of_ble_eq_true rfl | exact nat9 (by omega) | exact ⟨_, rfl⟩ | (show _ ≤ sizeLine; decide) | exact ⟨by decide, by decide, by decide⟩ | exact .inl ⟨by decide, by decide⟩ | exact .inl ⟨by omega, by omega⟩ | exact .inr ⟨by omega, by omega⟩ | assumption | fail) | ((with_reducible refine iteF' ?_ ?_); first | rfl | exact decide_eq_false (by omega) | exact in_no (by omega) (by omega) | exact in_no (by omega) (by assumption) | (simp <;> fail) | fail) | ((with_reducible refine iteT' ?_ ?_); first | rfl | exact decide_eq_true (by omega) | (simp <;> fail) | fail))
    refine k _ ⟨dx, _, upd_same, rfl, rfl, rfl, rfl, rfl⟩ fun a o e na => ?_
    rw [upd_ne na, upd_ne na, upd_ne na, upd_ne na, upd_ne na]
    exact e
theorem sc_Store_eq : FnScope ["self", "other"] ["self", "other"] (defScope s_Store_eq) := ⟨rfl, rfl, rfl, by decide +kernel, rfl, by decide +kernel, by decide +kernel⟩
abbrev N_Store_eq : List Str := ["self", "other"]
theorem ok_Store_eq {f fI C : Addr} {fd : FuncData} (F : Fun K "__eq__" "Store.__eq__" s_Store_eq f fd) (T : Blt mg) (O_Store : OwnC K mg "Store" C fI) (n1 : NoAttr K C "cells") (n2 : NoAttr K C "size") (n3 : NoAttr K C "most") : FnOk P w K mg base CX0 1 f fd ["self", "other"] (spStEq K C) := by
  refine F.ok sc_Store_eq (fun vs H Q E h => ?_) (fun cdv A outer s H vs Q E hr h => ?_)
  · obtain ⟨x, y, c, s', m, rfl, _⟩ := h
    rfl
  · obtain ⟨x, y, c, s', m, rfl, ⟨dx, fs, h1, h2, h3, h4, h5, h6⟩, h⟩ := h
    refine ⟨_, (pss_one (ps_ret (pe_and (pe_callB call_isi (by rfl) T.n_isinstance (by decide +kernel) (pa_cons (pv 1) (pa_cons (pe_glob (v := .ref _) (by rfl) O_Store.g rfl) pa_nil))) (pe_and (pe_cmpR op_eq (pe_fld (pv 0) rfl) (pe_fld (pv 1) rfl) (nomark _)) (pe_and (pe_cmpR op_eq (pe_fld (pv 0) rfl) (pe_fld (pv 1) rfl) (nomark _)) (pe_one (pe_cmpR op_eq (pe_fld (pv 0) rfl) (pe_fld (pv 1) rfl) (nomark _)))))))), ?_⟩
    rcases h with ⟨y', c', s2, m', rfl, ⟨dy, gs, g1, g2, g3, g4, g5, g6⟩, k⟩ | ⟨⟨t, ty, ht⟩, k⟩
    · refine ⟨_, rfl, _, .ref C, .ref C, .ref C, true, rfl, .own C, O_Store.ty g1, O_Store.self, true, rfl, ?_⟩
      refine iteT ?_
      refine ⟨_, rfl, x, C, dx, _, _, rfl, h1, O_Store.cl, n1, h2, _, rfl, y', C, dy, _, _, rfl, g1, O_Store.cl, n1, g2, rfl, _, rfl, ?_⟩
      refine iteB (fun c1 => ?_) (fun c1 => ?_)
      · have e1 : c = c' := by
          have := V.int.inj (of_decide_eq_true c1)
          omega
        refine ⟨_, rfl, x, C, dx, _, _, rfl, h1, O_Store.cl, n2, h3, _, rfl, y', C, dy, _, _, rfl, g1, O_Store.cl, n2, g3, rfl, _, rfl, ?_⟩
        refine iteB (fun c2 => ?_) (fun c2 => ?_)
        · have e2 : s' = s2 := by
            have := V.int.inj (of_decide_eq_true c2)
            omega
          refine ⟨_, rfl, x, C, dx, _, _, rfl, h1, O_Store.cl, n3, h4, _, rfl, y', C, dy, _, _, rfl, g1, O_Store.cl, n3, g4, rfl, ?_⟩
          exact k _ (decide_eq_decide.mpr ⟨fun z => ⟨e1, e2, by have := V.int.inj z; omega⟩, fun z => by rw [z.2.2]⟩)
        · exact k _ (decide_eq_false (fun z => of_decide_eq_false c2 (by rw [z.2.1]))).symm
      · exact k _ (decide_eq_false (fun z => of_decide_eq_false c1 (by rw [z.1]))).symm
    · exact ⟨_, rfl, y, .ref C, t, .ref C, false, rfl, .own C, ty, ht, false, rfl, iteF k⟩
end
end K53
namespace K53
open PySem PySem.Spec PyProof.Rows L2 OB SkE LamX
/-! ### the text of a store, and what is read -/
def storeT (c s m : Nat) : Str := ds c ++ " " ++ ds s ++ " " ++ ds m
/-- a number's text within bounds -/
def numIn (y : Option Str) (lo hi : Int) : Option Nat := match y with
  | none => none
  | some y => match MN.num y with
    | none => none
    | some n => if lo ≤ (n : Int) ∧ (n : Int) ≤ hi then some n else none
def dueOf (ys : List Str) : Option Nat := match numIn ys[0]? 1 256 with
  | none => some 0
  | some c => match numIn ys[1]? 1 48 with
    | none => some 1
    | some _ => match numIn ys[2]? 1 (mr c) with
      | none => some 2
      | some _ => if ys.length ≤ 3 then none else some 3
theorem numIn_eq (y : Str) (lo hi : Int) : numIn (some y) lo hi = match MN.num y with
    | none => none
    | some n => if lo ≤ (n : Int) ∧ (n : Int) ≤ hi then some n else none := rfl
theorem numIn_some {y : Option Str} {lo hi : Int} {n : Nat} (h : numIn y lo hi = some n) : y = some (ds n) ∧ MN.num (ds n) = some n ∧ lo ≤ (n : Int) ∧ (n : Int) ≤ hi := by
  unfold numIn at h
  split at h
  · cases h
  · split at h
    · cases h
    · rename_i e
      split at h
      · rename_i c
        cases h
        have := MN.num_text e
        subst this
        exact ⟨rfl, e, c.1, c.2⟩
      · cases h
theorem numIn_is {ys : List Str} {i n : Nat} {y : Str} {lo hi : Int} (h : ys[i]? = some y) (e : MN.num y = some n) (l1 : lo ≤ (n : Int)) (l2 : (n : Int) ≤ hi) : numIn ys[i]? lo hi = some n := by
  rw [h, numIn_eq, e]
  exact if_pos ⟨l1, l2⟩
theorem numIn_out {ys : List Str} {i : Nat} {y : Str} {lo hi : Int} (h : ys[i]? = some y) (c : MN.inR y lo hi = false) : numIn ys[i]? lo hi = none := by
  rw [h, numIn_eq]
  cases e : MN.num y with
  | none => rfl
  | some n =>
    refine if_neg fun z => ?_
    rw [MN.inR_of e z.1 z.2] at c
    cases c
theorem numIn_no {ys : List Str} {i : Nat} {lo hi : Int} (h : ys[i]? = none) : numIn ys[i]? lo hi = none := by
  rw [h]
  rfl
theorem inR_numIn {y : Str} {lo hi : Int} : MN.inR y lo hi = (numIn (some y) lo hi).isSome := by
  unfold MN.inR
  rw [numIn_eq]
  cases MN.num y with
  | none => rfl
  | some n =>
    by_cases c : lo ≤ (n : Int) ∧ (n : Int) ≤ hi
    · simp [c]
    · show _ = (if lo ≤ (n : Int) ∧ (n : Int) ≤ hi then some n else none).isSome
      rw [if_neg c]
      show (decide (lo ≤ (n : Int)) && decide ((n : Int) ≤ hi)) = false
      rw [← Bool.decide_and]
      exact decide_eq_false c
theorem ds_short {n : Nat} (h : n < 1000) : (ds n).length ≤ 3 := (show ∀ n < 1000, (ds n).length ≤ 3 by decide +kernel) n h
theorem ds_nosp (n : Nat) : 32 ∉ (ds n).cps.toList := fun z => by
  have := MT.digs_all (MN.toD_dig n) 32 (by rw [← MN.cs_ds]; exact z)
  omega
theorem app_assoc (a b c : Str) : a ++ b ++ c = a ++ (b ++ c) := MT.str_ext (by
  show TL.tl (a ++ b ++ c) = TL.tl (a ++ (b ++ c))
  rw [TL.tl_append, TL.tl_append, TL.tl_append, TL.tl_append, List.append_assoc])
theorem storeT_join (c s m : Nat) : storeT c s m = Txt.join " " [ds c, ds s, ds m] := by
  rw [TL.join_eq]
  show _ = ds c ++ " " ++ (ds s ++ " " ++ ds m)
  unfold storeT
  simp only [app_assoc]
theorem store_split (c s m : Nat) : Txt.split (storeT c s m) " " = [ds c, ds s, ds m] := by
  rw [storeT_join]
  refine TL.split_join (s := 32) (S := []) (by decide +kernel) (by decide +kernel) (List.cons_ne_nil _ _) fun p hp => ?_
  simp only [List.mem_cons, List.not_mem_nil, or_false] at hp
  rcases hp with rfl | rfl | rfl <;> exact ds_nosp _
theorem due_store {c s m : Nat} (ok : ShOk c s m) : dueOf (Txt.split (storeT c s m) " ") = none := by
  have := ok.c1; have := ok.c2; have := ok.s1; have := ok.s2; have := ok.m1; have := ok.m2; have h3 := ok.mr
  rw [store_split]
  have key : ∀ n : Nat, n < 1000 → MN.num (ds n) = some n := fun n h => MN.num_ds (by have := ds_short h; omega)
  have e1 : numIn ([ds c, ds s, ds m] : List Str)[0]? 1 256 = some c := numIn_is rfl (key c (by omega)) (by omega) (by omega)
  have e2 : numIn ([ds c, ds s, ds m] : List Str)[1]? 1 48 = some s := numIn_is rfl (key s (by omega)) (by omega) (by omega)
  have e3 : numIn ([ds c, ds s, ds m] : List Str)[2]? 1 (mr c) = some m := numIn_is rfl (key m (by omega)) (by omega) h3
  unfold dueOf
  rw [e1]
  simp only
  rw [e2]
  simp only
  rw [e3]
  rfl
theorem due_none {z : Str} (h : dueOf (Txt.split z " ") = none) : ∃ c s m, ShOk c s m ∧ z = storeT c s m ∧ Txt.split z " " = [ds c, ds s, ds m] ∧ MN.num (ds c) = some c ∧ MN.num (ds s) = some s ∧ MN.num (ds m) = some m := by
  have e := MN.join_split z
  generalize Txt.split z " " = ys at *
  unfold dueOf at h
  split at h
  · cases h
  rename_i c e1
  split at h
  · cases h
  rename_i s e2
  split at h
  · cases h
  rename_i m e3
  split at h
  · rename_i l3
    obtain ⟨a1, a2, a3, a4⟩ := numIn_some e1
    obtain ⟨b1, b2, b3, b4⟩ := numIn_some e2
    obtain ⟨d1, d2, d3, d4⟩ := numIn_some e3
    obtain rfl : ys = [ds c, ds s, ds m] := by
      match ys, a1, b1, d1, l3 with
      | [x, y, z], a1, b1, d1, _ =>
        cases a1
        cases b1
        cases d1
        rfl
      | x :: y :: z :: w :: r, _, _, _, l3 => simp at l3
    exact ⟨c, s, m, shok_of (by omega) (by omega) (by omega) (by omega) (by omega) d4, by rw [← e, storeT_join], rfl, a2, b2, d2⟩
  · cases h
def spStoreStr (C : Addr) : Sp := fun vs H Q _ => ∃ (x : Addr) (c s m : Nat), vs = [.ref x] ∧ IsSt H C x c s m ∧ ShOk c s m ∧ Q (.str (storeT c s m)) H
def spStoreRead (K : PySem.W.Frag) (C CT : Addr) : Sp := fun vs H Q E => ∃ x : V, vs = [x] ∧ ((NotS K H x ∧ Raises2 CT 0 0 E H) ∨ ∃ z : Str, x = .str z ∧ z.length ≤ 100000 ∧
  (∀ k : Nat, dueOf (Txt.split z " ") = some k → ∀ H1, Same H H1 → Raises2 CT 0 (k : Int) E H1) ∧ (∀ c s m, ShOk c s m → z = storeT c s m → ∀ y H', H y = none → Same H H' → IsSt H' C y c s m → Q (.ref y) H'))
theorem due_a {ys : List Str} (h : numIn ys[0]? 1 256 = none) : dueOf ys = some 0 := by unfold dueOf; rw [h]
theorem due_b {ys : List Str} {c : Nat} (h : numIn ys[0]? 1 256 = some c) (h2 : numIn ys[1]? 1 48 = none) : dueOf ys = some 1 := by
  unfold dueOf; rw [h]; simp only; rw [h2]
theorem due_c {ys : List Str} {c s : Nat} (h : numIn ys[0]? 1 256 = some c) (h2 : numIn ys[1]? 1 48 = some s) (h3 : numIn ys[2]? 1 (mr c) = none) : dueOf ys = some 2 := by
  unfold dueOf; rw [h]; simp only; rw [h2]; simp only; rw [h3]
theorem due_d {ys : List Str} {c s m : Nat} (h : numIn ys[0]? 1 256 = some c) (h2 : numIn ys[1]? 1 48 = some s) (h3 : numIn ys[2]? 1 (mr c) = some m) : dueOf ys = if ys.length ≤ 3 then none else some 3 := by
  unfold dueOf; rw [h]; simp only; rw [h2]; simp only; rw [h3]
theorem len_of {ys : List Str} {i : Nat} (h : ys[i]? = none) (h2 : ∀ j, i = j + 1 → ∃ y, ys[j]? = some y) : ys.length = i := by
  have a := List.getElem?_eq_none_iff.mp h
  cases i with
  | zero => omega
  | succ j =>
    obtain ⟨y, hy⟩ := h2 j rfl
    have := (List.getElem?_eq_some_iff.mp hy).1
    omega
section
variable {P : Program} {w : World} {K : PySem.W.Frag} {mg : Str → Option Value} {base : Heap}
theorem sc_Store_str : FnScope ["self"] ["self"] (defScope s_Store_str) := ⟨rfl, rfl, rfl, by decide +kernel, rfl, by decide +kernel, by decide +kernel⟩
abbrev N_Store_str : List Str := ["self"]
theorem ok_Store_str {f fI C : Addr} {fd : FuncData} (F : Fun K "__str__" "Store.__str__" s_Store_str f fd) (T : Blt mg) (O_Store : OwnC K mg "Store" C fI) (n1 : NoAttr K C "cells") (n2 : NoAttr K C "size") (n3 : NoAttr K C "most") : FnOk P w K mg base CX0 1 f fd ["self"] (spStoreStr C) := by
  refine F.ok sc_Store_str (fun vs H Q E h => ?_) (fun cdv A outer s H vs Q E hr h => ?_)
  · obtain ⟨x, c, s', m, rfl, _⟩ := h
    rfl
  · obtain ⟨x, c, s', m, rfl, ⟨dx, fs, h1, h2, h3, h4, h5, h6⟩, ok, k⟩ := h
    have := ok.c2; have := ok.s2; have := ok.m2
    have lg : ∀ n : Nat, n < 1000 → (n : Int).natAbs.log2 < 1920 := fun n hn => by
      rw [Int.natAbs_natCast]
      exact Nat.lt_of_le_of_lt (Nat.log2_le_self n) (by omega)
    have s1 := ds_short (show c < 1000 by omega)
    have s2 := ds_short (show s' < 1000 by omega)
    have s3 := ds_short (show m < 1000 by omega)
    refine ⟨_, (pss_one (ps_ret (pe_joinedN (.cons (pe_fmt (pe_fld (pv 0) rfl)) (.cons pe_str (.cons (pe_fmt (pe_fld (pv 0) rfl)) (.cons pe_str (.cons (pe_fmt (pe_fld (pv 0) rfl)) .nil)))))))), ?_⟩
    refine ⟨_, rfl, x, C, dx, _, _, rfl, h1, O_Store.cl, n1, h2, .inr ⟨_, rfl, lg c (by omega), ?_⟩⟩
    have ea : ∀ y : Str, Str.empty ++ y = y := fun y => by
      cases y with
      | mk c => exact congrArg Str.mk (Array.empty_append (xs := c))
    have l1 : (" " : Str).length = 1 := by decide +kernel
    refine ⟨ds c, rfl, by rw [ea, sizeLine_eq]; omega, ?_⟩
    rw [ea]
    refine ⟨_, rfl, by rw [Str.length_append, l1, sizeLine_eq]; omega, ?_⟩
    refine ⟨_, rfl, x, C, dx, _, _, rfl, h1, O_Store.cl, n2, h3, .inr ⟨_, rfl, lg s' (by omega), ds s', rfl, by rw [Str.length_append, Str.length_append, l1, sizeLine_eq]; omega, ?_⟩⟩
    refine ⟨_, rfl, by rw [Str.length_append, Str.length_append, Str.length_append, l1, sizeLine_eq]; omega, ?_⟩
    exact ⟨_, rfl, x, C, dx, _, _, rfl, h1, O_Store.cl, n3, h4, .inr ⟨_, rfl, lg m (by omega), ds m, rfl, by rw [Str.length_append, Str.length_append, Str.length_append, Str.length_append, l1, sizeLine_eq]; omega, k⟩⟩
theorem sc_Store_read : FnScope ["text", "items", "cells", "size", "most"] ["text"] (defScope s_Store_read) := ⟨rfl, rfl, rfl, by decide +kernel, rfl, by decide +kernel, by decide +kernel⟩
abbrev N_Store_read : List Str := ["text", "items", "cells", "size", "most"]
theorem ok_Store_read {f f1 f2 f3 f4 fI C CT : Addr} {fd fd1 fd2 fd3 fd4 fdI : FuncData} (F : Fun K "read" "Store.read" s_Store_read f fd) (T : Blt mg) (O_Store : OwnC K mg "Store" C fI) (b_Store_init : L2.Binds K fdI ["self", "cells", "size", "most"] []) (G_Store_init : FnOk P w K mg base CX0 4 fI fdI ["self", "cells", "size", "most"] (spStInit C))
    (D_items_of : Df K mg "items_of" s_items_of ["text"] f1 fd1) (G_items_of : FnOk P w K mg base (L2.CX P w) 3 f1 fd1 ["text"] (spItems K CT)) (D_integer_at : Df K mg "integer_at" s_integer_at ["items", "at", "least", "most"] f2 fd2) (G_integer_at : FnOk P w K mg base (L2.CX P w) 5 f2 fd2 ["items", "at", "least", "most"] (spIntAt CT)) (D_need_end : Df K mg "need_end" s_need_end ["items", "at"] f3 fd3) (G_need_end : FnOk P w K mg base (L2.CX P w) 3 f3 fd3 ["items", "at"] (spNeedEnd CT)) (D_most_rows : Df K mg "most_rows" s_most_rows ["cells"] f4 fd4) : FnOk P w K mg base (L2.CX P w) 6 f fd ["text"] (spStoreRead K C CT) := by
  have G_most_rows : FnOk P w K mg base CX0 1 f4 fd4 ["cells"] spMostRows := ok_most_rows D_most_rows.F T
  refine F.okX sc_Store_read (fun vs H Q E h => ?_) (fun cdv A outer s H vs Q E hr h => ?_)
  · obtain ⟨x, rfl, _⟩ := h
    rfl
  · obtain ⟨x, rfl, h⟩ := h
    refine ⟨_, (pss_cons (ps_set (i := 1) sc_Store_read.nd rfl (Or.inl rfl) (pe_callS G_items_of (hr.mono (by decide)) (by rfl) D_items_of.g D_items_of.F.kp D_items_of.b (fun σ => passAt (takes_of rfl rfl rfl rfl) σ) (pa_cons (pv 0) pa_nil)))
  (pss_cons (ps_set (i := 2) sc_Store_read.nd rfl (Or.inl rfl) (pe_callS G_integer_at (hr.mono (by decide)) (by rfl) D_integer_at.g D_integer_at.F.kp D_integer_at.b (fun σ => passAt (takes_of rfl rfl rfl rfl) σ) (pa_cons (pv 1) (pa_cons pe_int (pa_cons pe_int (pa_cons (pe_glob (v := .int 256) rfl T.g_MOST_CELLS.choose_spec ⟨_, rfl⟩) pa_nil))))))
  (pss_cons (ps_set (i := 3) sc_Store_read.nd rfl (Or.inl rfl) (pe_callS G_integer_at (hr.mono (by decide)) (by rfl) D_integer_at.g D_integer_at.F.kp D_integer_at.b (fun σ => passAt (takes_of rfl rfl rfl rfl) σ) (pa_cons (pv 1) (pa_cons pe_int (pa_cons pe_int (pa_cons (pe_glob (v := .int 48) rfl T.g_MOST_SIZE.choose_spec ⟨_, rfl⟩) pa_nil))))))
  (pss_cons (ps_set (i := 4) sc_Store_read.nd rfl (Or.inl rfl) (pe_callS G_integer_at (hr.mono (by decide)) (by rfl) D_integer_at.g D_integer_at.F.kp D_integer_at.b (fun σ => passAt (takes_of rfl rfl rfl rfl) σ) (pa_cons (pv 1) (pa_cons pe_int (pa_cons pe_int (pa_cons (pe_call G_most_rows (hr.mono (by decide)) (by rfl) D_most_rows.g D_most_rows.F.kp D_most_rows.b .nil pass0 (pa_cons (pv 2) pa_nil)) pa_nil))))))
  (pss_cons (ps_expr (pe_callS G_need_end (hr.mono (by decide)) (by rfl) D_need_end.g D_need_end.F.kp D_need_end.b (fun σ => passAt (takes_of rfl rfl rfl rfl) σ) (pa_cons (pv 1) (pa_cons pe_int pa_nil))))
  (pss_one (ps_ret (pe_make O_Store.made G_Store_init (hr.mono (by decide)) (by rfl) O_Store.g b_Store_init .nil pass0 (pa_cons (pv 2) (pa_cons (pv 3) (pa_cons (pv 4) pa_nil))))))))))), ?_⟩
    rcases h with ⟨hn, k⟩ | ⟨z, rfl, hz, k1, k2⟩
    · exact ⟨_, rfl, _, rfl, .inl ⟨hn, k⟩⟩
    refine ⟨_, rfl, _, rfl, .inr ⟨z, rfl, by rw [sizeLine_eq]; omega, fun q hq => ?_⟩⟩
    generalize hE : upd _ q _ = H1
    obtain ⟨S1, g_q⟩ : Same H H1 ∧ H1 q = some (.lst ((Txt.split z " ").map V.str)) := by
      subst hE
      exact ⟨same_new hq, upd_same⟩
    clear hE hq
    have hL : ∀ y ∈ Txt.split z " ", y.length ≤ 1000000 := fun y hy => by
      have := MN.split_short hy
      omega
    have e0 := due_none (z := z)
    generalize hys : Txt.split z " " = ys at *
    refine ⟨_, rfl, q, ys, 0, 1, 256, rfl, g_q, hL, by decide, fun y n hy hn l1 l2 => ?_, fun y hy hc => k1 0 (due_a (numIn_out hy hc)) _ S1, fun hn => by
      rw [len_of hn (fun j z => by omega)]
      exact k1 0 (due_a (numIn_no hn)) _ S1⟩
    have c1 := numIn_is hy hn l1 l2
    refine ⟨_, rfl, q, ys, 1, 1, 48, rfl, g_q, hL, by decide, fun y2 n2 hy2 hn2 l3 l4 => ?_, fun y2 hy2 hc => k1 1 (due_b c1 (numIn_out hy2 hc)) _ S1, fun h1 => by
      rw [len_of h1 (fun j z => by obtain rfl : j = 0 := by omega
                                   exact ⟨_, hy⟩)]
      exact k1 1 (due_b c1 (numIn_no h1)) _ S1⟩
    have c2 := numIn_is hy2 hn2 l3 l4
    refine ⟨_, rfl, _, rfl, n, rfl, q, ys, 2, 1, mr n, rfl, g_q, hL, by decide, fun y3 n3 hy3 hn3 l5 l6 => ?_, fun y3 hy3 hc => k1 2 (due_c c1 c2 (numIn_out hy3 hc)) _ S1, fun h1 => by
      rw [len_of h1 (fun j z => by obtain rfl : j = 1 := by omega
                                   exact ⟨_, hy2⟩)]
      exact k1 2 (due_c c1 c2 (numIn_no h1)) _ S1⟩
    have c3 := numIn_is hy3 hn3 l5 l6
    have dd := due_d c1 c2 c3
    refine ⟨_, rfl, q, ys, 3, rfl, g_q, fun hl => ?_, fun hl => k1 3 (by rw [dd, if_neg (by omega)]) _ S1⟩
    rw [if_pos hl] at dd
    obtain ⟨c, s', m, ok, ez, e2, nb, nd, ne⟩ := e0 dd
    rw [e2] at hy hy2 hy3
    cases hy
    cases hy2
    cases hy3
    rw [hn] at nb
    rw [hn2] at nd
    rw [hn3] at ne
    cases nb
    cases nd
    cases ne
    refine ⟨_, rfl, _, rfl, _, rfl, fun x dx nx ndx nex => ?_⟩
    exact make_st ok nx ndx fun H3 S3 hc => k2 _ _ _ ok ez x H3 (S1.free nx) (S1.trans S3) hc
end
end K53
namespace K53
open PySem PySem.Spec PyProof.Rows L2 OB SkE LamX
def spNeedStore (K : PySem.W.Frag) (C CS : Addr) : Sp := fun vs H Q E => ∃ x : V, vs = [x] ∧ NotO K C H x ∧ RaisesP CS "store" E H
def spRef2 (K : PySem.W.Frag) (C CS : Addr) : Sp := fun vs H Q E => ∃ x y : V, vs = [x, y] ∧ NotO K C H x ∧ RaisesP CS "store" E H
def spRef3 (K : PySem.W.Frag) (C CS : Addr) : Sp := fun vs H Q E => ∃ x y z : V, vs = [x, y, z] ∧ NotO K C H x ∧ RaisesP CS "store" E H
def spRef4 (K : PySem.W.Frag) (C CS : Addr) : Sp := fun vs H Q E => ∃ x y z u : V, vs = [x, y, z, u] ∧ NotO K C H x ∧ RaisesP CS "store" E H
theorem ref2_mono {K : PySem.W.Frag} {C CS : Addr} : SpMono (spRef2 K C CS) := fun vs H Q1 Q2 E1 E2 hE hQ ⟨x, y, e, n, r⟩ => ⟨x, y, e, n, fun d hd => hE _ _ _ (r d hd)⟩
theorem ref3_mono {K : PySem.W.Frag} {C CS : Addr} : SpMono (spRef3 K C CS) := fun vs H Q1 Q2 E1 E2 hE hQ ⟨x, y, z, e, n, r⟩ => ⟨x, y, z, e, n, fun d hd => hE _ _ _ (r d hd)⟩
theorem ref4_mono {K : PySem.W.Frag} {C CS : Addr} : SpMono (spRef4 K C CS) := fun vs H Q1 Q2 E1 E2 hE hQ ⟨x, y, z, u, e, n, r⟩ => ⟨x, y, z, u, e, n, fun d hd => hE _ _ _ (r d hd)⟩
section
variable {P : Program} {w : World} {K : PySem.W.Frag} {mg : Str → Option Value} {base : Heap}
theorem sc_need_store : FnScope ["value"] ["value"] (defScope s_need_store) := ⟨rfl, rfl, rfl, by decide +kernel, rfl, by decide +kernel, by decide +kernel⟩
abbrev N_need_store : List Str := ["value"]
theorem ok_need_store {f fI fC C CS : Addr} {fd fdC : FuncData} (F : Fun K "need_store" "need_store" s_need_store f fd) (T : Blt mg) (O_Store : OwnC K mg "Store" C fI) (R_BadStore : Err P w K mg base "BadStore" "part" CS fC fdC) : FnOk P w K mg base (L2.CX P w) 3 f fd ["value"] (spNeedStore K C CS) := by
  refine F.okX sc_need_store (fun vs H Q E h => ?_) (fun cdv A outer s H vs Q E hr h => ?_)
  · obtain ⟨x, rfl, _⟩ := h
    rfl
  · obtain ⟨x, rfl, ⟨t, ty, ht⟩, k⟩ := h
    refine ⟨_, (pss_one (ps_if (pt_not (pt_val (pe_callB call_isi (by rfl) T.n_isinstance (by decide +kernel) (pa_cons (pv 0) (pa_cons (pe_glob (v := .ref _) (by rfl) O_Store.g rfl) pa_nil))))) (pss_one (ps_raise1 rfl (takes_of rfl rfl rfl rfl) R_BadStore (hr.mono (by decide)) (by rfl) pe_str)) pss_nil)), ?_⟩
    refine ⟨_, rfl, x, .ref C, t, .ref C, false, rfl, .own C, ty, ht, false, rfl, iteT ?_⟩
    exact raise1_of (σ := []) (W := fun cls d _ H => E cls d H) R_BadStore.T R_BadStore.no k
theorem sc_values_in : FnScope ["store", "word", "values", "place", "content"] ["store", "word"] (defScope s_values_in) := ⟨rfl, rfl, rfl, by decide +kernel, rfl, by decide +kernel, by decide +kernel⟩
abbrev N_values_in : List Str := ["store", "word", "values", "place", "content"]
theorem ok_values_in {f f1 C CS : Addr} {fd fd1 : FuncData} (F : Fun K "values_in" "values_in" s_values_in f fd) (T : Blt mg) (D_need_store : Df K mg "need_store" s_need_store ["value"] f1 fd1) (G_need_store : FnOk P w K mg base (L2.CX P w) 3 f1 fd1 ["value"] (spNeedStore K C CS)) : FnOk P w K mg base (L2.CX P w) 4 f fd ["store", "word"] (spRef2 K C CS) := by
  refine F.okX sc_values_in (fun vs H Q E h => ?_) (fun cdv A outer s H vs Q E hr h => ?_)
  · obtain ⟨x, y, rfl, _⟩ := h
    rfl
  · obtain ⟨x, y, rfl, k⟩ := h
    refine ⟨_, (pss_cons (ps_expr (pe_callS G_need_store (hr.mono (by decide)) (by rfl) D_need_store.g D_need_store.F.kp D_need_store.b (fun σ => passAt (takes_of rfl rfl rfl rfl) σ) (pa_cons (pv 0) pa_nil)))
  (pss_cons ps_never
  (pss_cons ps_never
  (pss_cons ps_never
  (pss_one ps_never))))), ?_⟩
    exact ⟨_, rfl, _, rfl, k⟩
theorem sc_is_open : FnScope ["store", "word"] ["store", "word"] (defScope s_is_open) := ⟨rfl, rfl, rfl, by decide +kernel, rfl, by decide +kernel, by decide +kernel⟩
abbrev N_is_open : List Str := ["store", "word"]
theorem ok_is_open {f f1 C CS : Addr} {fd fd1 : FuncData} (F : Fun K "is_open" "is_open" s_is_open f fd) (T : Blt mg) (D_need_store : Df K mg "need_store" s_need_store ["value"] f1 fd1) (G_need_store : FnOk P w K mg base (L2.CX P w) 3 f1 fd1 ["value"] (spNeedStore K C CS)) : FnOk P w K mg base (L2.CX P w) 4 f fd ["store", "word"] (spRef2 K C CS) := by
  refine F.okX sc_is_open (fun vs H Q E h => ?_) (fun cdv A outer s H vs Q E hr h => ?_)
  · obtain ⟨x, y, rfl, _⟩ := h
    rfl
  · obtain ⟨x, y, rfl, k⟩ := h
    refine ⟨_, (pss_cons (ps_expr (pe_callS G_need_store (hr.mono (by decide)) (by rfl) D_need_store.g D_need_store.F.kp D_need_store.b (fun σ => passAt (takes_of rfl rfl rfl rfl) σ) (pa_cons (pv 0) pa_nil)))
  (pss_cons ps_never
  (pss_one ps_never))), ?_⟩
    exact ⟨_, rfl, _, rfl, k⟩
theorem sc_rows_in : FnScope ["store", "word"] ["store", "word"] (defScope s_rows_in) := ⟨rfl, rfl, rfl, by decide +kernel, rfl, by decide +kernel, by decide +kernel⟩
abbrev N_rows_in : List Str := ["store", "word"]
theorem ok_rows_in {f f1 C CS : Addr} {fd fd1 : FuncData} (F : Fun K "rows_in" "rows_in" s_rows_in f fd) (T : Blt mg) (D_need_store : Df K mg "need_store" s_need_store ["value"] f1 fd1) (G_need_store : FnOk P w K mg base (L2.CX P w) 3 f1 fd1 ["value"] (spNeedStore K C CS)) : FnOk P w K mg base (L2.CX P w) 4 f fd ["store", "word"] (spRef2 K C CS) := by
  refine F.okX sc_rows_in (fun vs H Q E h => ?_) (fun cdv A outer s H vs Q E hr h => ?_)
  · obtain ⟨x, y, rfl, _⟩ := h
    rfl
  · obtain ⟨x, y, rfl, k⟩ := h
    refine ⟨_, (pss_cons (ps_expr (pe_callS G_need_store (hr.mono (by decide)) (by rfl) D_need_store.g D_need_store.F.kp D_need_store.b (fun σ => passAt (takes_of rfl rfl rfl rfl) σ) (pa_cons (pv 0) pa_nil)))
  (pss_cons ps_never
  (pss_one ps_never))), ?_⟩
    exact ⟨_, rfl, _, rfl, k⟩
theorem sc_word_for : FnScope ["store", "values"] ["store", "values"] (defScope s_word_for) := ⟨rfl, rfl, rfl, by decide +kernel, rfl, by decide +kernel, by decide +kernel⟩
abbrev N_word_for : List Str := ["store", "values"]
theorem ok_word_for {f f1 C CS : Addr} {fd fd1 : FuncData} (F : Fun K "word_for" "word_for" s_word_for f fd) (T : Blt mg) (D_need_store : Df K mg "need_store" s_need_store ["value"] f1 fd1) (G_need_store : FnOk P w K mg base (L2.CX P w) 3 f1 fd1 ["value"] (spNeedStore K C CS)) : FnOk P w K mg base (L2.CX P w) 4 f fd ["store", "values"] (spRef2 K C CS) := by
  refine F.okX sc_word_for (fun vs H Q E h => ?_) (fun cdv A outer s H vs Q E hr h => ?_)
  · obtain ⟨x, y, rfl, _⟩ := h
    rfl
  · obtain ⟨x, y, rfl, k⟩ := h
    refine ⟨_, (pss_cons (ps_expr (pe_callS G_need_store (hr.mono (by decide)) (by rfl) D_need_store.g D_need_store.F.kp D_need_store.b (fun σ => passAt (takes_of rfl rfl rfl rfl) σ) (pa_cons (pv 0) pa_nil)))
  (pss_cons ps_never
  (pss_one ps_never))), ?_⟩
    exact ⟨_, rfl, _, rfl, k⟩
theorem sc_mend_plan : FnScope ["store", "word", "bit", "phases", "phase"] ["store", "word"] (defScope s_mend_plan) := ⟨rfl, rfl, rfl, by decide +kernel, rfl, by decide +kernel, by decide +kernel⟩
abbrev N_mend_plan : List Str := ["store", "word", "bit", "phases", "phase"]
theorem ok_mend_plan {f f1 C CS : Addr} {fd fd1 : FuncData} (F : Fun K "mend_plan" "mend_plan" s_mend_plan f fd) (T : Blt mg) (D_need_store : Df K mg "need_store" s_need_store ["value"] f1 fd1) (G_need_store : FnOk P w K mg base (L2.CX P w) 3 f1 fd1 ["value"] (spNeedStore K C CS)) : FnOk P w K mg base (L2.CX P w) 4 f fd ["store", "word"] (spRef2 K C CS) := by
  refine F.okX sc_mend_plan (fun vs H Q E h => ?_) (fun cdv A outer s H vs Q E hr h => ?_)
  · obtain ⟨x, y, rfl, _⟩ := h
    rfl
  · obtain ⟨x, y, rfl, k⟩ := h
    refine ⟨_, (pss_cons (ps_expr (pe_callS G_need_store (hr.mono (by decide)) (by rfl) D_need_store.g D_need_store.F.kp D_need_store.b (fun σ => passAt (takes_of rfl rfl rfl rfl) σ) (pa_cons (pv 0) pa_nil)))
  (pss_cons ps_never
  (pss_cons ps_never
  (pss_cons ps_never
  (pss_cons ps_never
  (pss_one ps_never)))))), ?_⟩
    exact ⟨_, rfl, _, rfl, k⟩
theorem sc_done_in : FnScope ["store", "word", "deed", "values", "cell", "value"] ["store", "word", "deed"] (defScope s_done_in) := ⟨rfl, rfl, rfl, by decide +kernel, rfl, by decide +kernel, by decide +kernel⟩
abbrev N_done_in : List Str := ["store", "word", "deed", "values", "cell", "value"]
theorem ok_done_in {f f1 C CS : Addr} {fd fd1 : FuncData} (F : Fun K "done_in" "done_in" s_done_in f fd) (T : Blt mg) (D_need_store : Df K mg "need_store" s_need_store ["value"] f1 fd1) (G_need_store : FnOk P w K mg base (L2.CX P w) 3 f1 fd1 ["value"] (spNeedStore K C CS)) : FnOk P w K mg base (L2.CX P w) 4 f fd ["store", "word", "deed"] (spRef3 K C CS) := by
  refine F.okX sc_done_in (fun vs H Q E h => ?_) (fun cdv A outer s H vs Q E hr h => ?_)
  · obtain ⟨x, y, z, rfl, _⟩ := h
    rfl
  · obtain ⟨x, y, z, rfl, k⟩ := h
    refine ⟨_, (pss_cons (ps_expr (pe_callS G_need_store (hr.mono (by decide)) (by rfl) D_need_store.g D_need_store.F.kp D_need_store.b (fun σ => passAt (takes_of rfl rfl rfl rfl) σ) (pa_cons (pv 0) pa_nil)))
  (pss_cons ps_never
  (pss_cons ps_never
  (pss_cons ps_never
  (pss_cons ps_never
  (pss_one ps_never)))))), ?_⟩
    exact ⟨_, rfl, _, rfl, k⟩
theorem sc_is_plain : FnScope ["store", "word", "phase"] ["store", "word", "phase"] (defScope s_is_plain) := ⟨rfl, rfl, rfl, by decide +kernel, rfl, by decide +kernel, by decide +kernel⟩
abbrev N_is_plain : List Str := ["store", "word", "phase"]
theorem ok_is_plain {f f1 C CS : Addr} {fd fd1 : FuncData} (F : Fun K "is_plain" "is_plain" s_is_plain f fd) (T : Blt mg) (D_need_store : Df K mg "need_store" s_need_store ["value"] f1 fd1) (G_need_store : FnOk P w K mg base (L2.CX P w) 3 f1 fd1 ["value"] (spNeedStore K C CS)) : FnOk P w K mg base (L2.CX P w) 4 f fd ["store", "word", "phase"] (spRef3 K C CS) := by
  refine F.okX sc_is_plain (fun vs H Q E h => ?_) (fun cdv A outer s H vs Q E hr h => ?_)
  · obtain ⟨x, y, z, rfl, _⟩ := h
    rfl
  · obtain ⟨x, y, z, rfl, k⟩ := h
    refine ⟨_, (pss_cons (ps_expr (pe_callS G_need_store (hr.mono (by decide)) (by rfl) D_need_store.g D_need_store.F.kp D_need_store.b (fun σ => passAt (takes_of rfl rfl rfl rfl) σ) (pa_cons (pv 0) pa_nil)))
  (pss_cons ps_never
  (pss_cons ps_never
  (pss_one ps_never)))), ?_⟩
    exact ⟨_, rfl, _, rfl, k⟩
theorem sc_deed_plan : FnScope ["store", "word", "deed", "values", "bit", "mended", "rows", "ready", "done", "phases", "phase"] ["store", "word", "deed"] (defScope s_deed_plan) := ⟨rfl, rfl, rfl, by decide +kernel, rfl, by decide +kernel, by decide +kernel⟩
abbrev N_deed_plan : List Str := ["store", "word", "deed", "values", "bit", "mended", "rows", "ready", "done", "phases", "phase"]
theorem ok_deed_plan {f f1 C CS : Addr} {fd fd1 : FuncData} (F : Fun K "deed_plan" "deed_plan" s_deed_plan f fd) (T : Blt mg) (D_done_in : Df K mg "done_in" s_done_in ["store", "word", "deed"] f1 fd1) (G_done_in : FnOk P w K mg base (L2.CX P w) 4 f1 fd1 ["store", "word", "deed"] (spRef3 K C CS)) : FnOk P w K mg base (L2.CX P w) 5 f fd ["store", "word", "deed"] (spRef3 K C CS) := by
  refine F.okX sc_deed_plan (fun vs H Q E h => ?_) (fun cdv A outer s H vs Q E hr h => ?_)
  · obtain ⟨x, y, z, rfl, _⟩ := h
    rfl
  · obtain ⟨x, y, z, rfl, k⟩ := h
    refine ⟨_, (pss_cons (ps_set (i := 3) sc_deed_plan.nd rfl (Or.inl rfl) (pe_callS G_done_in (hr.mono (by decide)) (by rfl) D_done_in.g D_done_in.F.kp D_done_in.b (fun σ => passAt (takes_of rfl rfl rfl rfl) σ) (pa_cons (pv 0) (pa_cons (pv 1) (pa_cons (pv 2) pa_nil)))))
  (pss_cons ps_never
  (pss_cons ps_never
  (pss_cons ps_never
  (pss_cons ps_never
  (pss_cons ps_never
  (pss_cons ps_never
  (pss_one ps_never)))))))), ?_⟩
    exact ⟨_, rfl, _, rfl, _, rfl, _, _, _, rfl, k⟩
theorem sc__open_places : FnScope ["store", "word", "place", "_"] ["store", "word"] (defScope s__open_places) := ⟨rfl, rfl, rfl, by decide +kernel, rfl, by decide +kernel, by decide +kernel⟩
abbrev N__open_places : List Str := ["store", "word", "place", "_"]
theorem ok__open_places {f f1 C CS : Addr} {fd fd1 : FuncData} (F : Fun K "_open_places" "_open_places" s__open_places f fd) (T : Blt mg) (D_is_open : Df K mg "is_open" s_is_open ["store", "word"] f1 fd1) (G_is_open : FnOk P w K mg base (L2.CX P w) 4 f1 fd1 ["store", "word"] (spRef2 K C CS)) : FnOk P w K mg base (L2.CX P w) 5 f fd ["store", "word"] (spRef2 K C CS) := by
  refine F.okX sc__open_places (fun vs H Q E h => ?_) (fun cdv A outer s H vs Q E hr h => ?_)
  · obtain ⟨x, y, rfl, _⟩ := h
    rfl
  · obtain ⟨x, y, rfl, k⟩ := h
    refine ⟨_, (pss_cons (ps_if (pt_not (pt_val (pe_callS G_is_open (hr.mono (by decide)) (by rfl) D_is_open.g D_is_open.F.kp D_is_open.b (fun σ => passAt (takes_of rfl rfl rfl rfl) σ) (pa_cons (pv 0) (pa_cons (pv 1) pa_nil))))) (pss_one (ps_ret pe_non)) pss_nil)
  (pss_one ps_never)), ?_⟩
    exact ⟨_, rfl, _, rfl, _, _, rfl, k⟩
theorem sc_counting_in : FnScope ["store", "word", "places", "bit"] ["store", "word"] (defScope s_counting_in) := ⟨rfl, rfl, rfl, by decide +kernel, rfl, by decide +kernel, by decide +kernel⟩
abbrev N_counting_in : List Str := ["store", "word", "places", "bit"]
theorem ok_counting_in {f f1 C CS : Addr} {fd fd1 : FuncData} (F : Fun K "counting_in" "counting_in" s_counting_in f fd) (T : Blt mg) (D__open_places : Df K mg "_open_places" s__open_places ["store", "word"] f1 fd1) (G__open_places : FnOk P w K mg base (L2.CX P w) 5 f1 fd1 ["store", "word"] (spRef2 K C CS)) : FnOk P w K mg base (L2.CX P w) 6 f fd ["store", "word"] (spRef2 K C CS) := by
  refine F.okX sc_counting_in (fun vs H Q E h => ?_) (fun cdv A outer s H vs Q E hr h => ?_)
  · obtain ⟨x, y, rfl, _⟩ := h
    rfl
  · obtain ⟨x, y, rfl, k⟩ := h
    refine ⟨_, (pss_cons (ps_set (i := 2) sc_counting_in.nd rfl (Or.inr rfl) (pe_callS G__open_places (hr.mono (by decide)) (by rfl) D__open_places.g D__open_places.F.kp D__open_places.b (fun σ => passAt (takes_of rfl rfl rfl rfl) σ) (pa_cons (pv 0) (pa_cons (pv 1) pa_nil))))
  (pss_one ps_never)), ?_⟩
    exact ⟨_, rfl, _, rfl, _, _, rfl, k⟩
theorem sc_shows_whole : FnScope ["store", "word", "deed", "value", "new", "phase", "old", "meant", "here", "counting"] ["store", "word", "deed", "value"] (defScope s_shows_whole) := ⟨rfl, rfl, rfl, by decide +kernel, rfl, by decide +kernel, by decide +kernel⟩
abbrev N_shows_whole : List Str := ["store", "word", "deed", "value", "new", "phase", "old", "meant", "here", "counting"]
theorem ok_shows_whole {f f1 C CS : Addr} {fd fd1 : FuncData} (F : Fun K "shows_whole" "shows_whole" s_shows_whole f fd) (T : Blt mg) (D_done_in : Df K mg "done_in" s_done_in ["store", "word", "deed"] f1 fd1) (G_done_in : FnOk P w K mg base (L2.CX P w) 4 f1 fd1 ["store", "word", "deed"] (spRef3 K C CS)) : FnOk P w K mg base (L2.CX P w) 5 f fd ["store", "word", "deed", "value"] (spRef4 K C CS) := by
  refine F.okX sc_shows_whole (fun vs H Q E h => ?_) (fun cdv A outer s H vs Q E hr h => ?_)
  · obtain ⟨x, y, z, u, rfl, _⟩ := h
    rfl
  · obtain ⟨x, y, z, u, rfl, k⟩ := h
    refine ⟨_, (pss_cons (ps_set (i := 4) sc_shows_whole.nd rfl (Or.inl rfl) (pe_callS G_done_in (hr.mono (by decide)) (by rfl) D_done_in.g D_done_in.F.kp D_done_in.b (fun σ => passAt (takes_of rfl rfl rfl rfl) σ) (pa_cons (pv 0) (pa_cons (pv 1) (pa_cons (pv 2) pa_nil)))))
  (pss_cons ps_never
  (pss_cons ps_never
  (pss_cons ps_never
  (pss_cons ps_never
  (pss_cons ps_never
  (pss_one ps_never))))))), ?_⟩
    exact ⟨_, rfl, _, rfl, _, rfl, _, _, _, rfl, k⟩
end
end K53
/-! enumerate of a text, enumerate of a list from its end. -/
namespace OB
open PySem PySem.Spec PyProof.Rows L2
/-- enumerate(text): each sign in a new pair -/
def Ites (x : Str) : It :=
  ⟨fun i _ => i < x.cps.size, fun i H v H' => ∃ T c, v = .ref T ∧ H T = none ∧ x.cps[i]? = some c ∧ H' = upd H T (.tup [.int (i : Nat), .str ⟨#[c]⟩]), fun i _ => x.cps.size ≤ i⟩
theorem turn_enumS {P : Program} {w : World} {K : PySem.W.Frag} {elts : List Expr} {kk : Nat} {tpos : Pos} (x : Str) (t : Tok) (e it : Addr) :
    Turn P w K (.Tuple elts kk tpos) (Ites x) [e, it] e (fun i h => (∃ old, IsEnum h e it ((i : Nat) : Int) old) ∧ h.IsStrIter it (strIterType x) x t i ∧ e ≠ it ∧ i ≤ x.cps.size) where
  mem := by simp
  obj := fun i h st b hb => by
    obtain ⟨⟨old, he⟩, ⟨o, ho, hc, hd⟩, _⟩ := st
    have e' : b = e ∨ b = it := by simpa using hb
    rcases e' with z | z
    · rw [z]; exact ⟨_, he, fun v q => nomatch q⟩
    · rw [z]; exact ⟨o, ho, fun v q => by rw [hd] at q; cases q⟩
  keep := fun i h h' st k => let ⟨⟨old, he⟩, ⟨o, ho, r⟩, hne⟩ := st; ⟨⟨old, k e (by simp) _ he⟩, ⟨o, k it (by simp) o ho, r⟩, hne⟩
  item := by
    intro X hP hw hK hc i pins s σ H E I hf st hg
    subst hP hw hK
    obtain ⟨⟨old, he⟩, hit, hne, hle⟩ := st
    have hg : i < x.cps.size := hg
    have hel : e < s.heap.objs.size := Heap.lt_size he
    have hil : it < s.heap.objs.size := by obtain ⟨_, q, _⟩ := hit; exact Heap.lt_size q
    have D : Draws X.prog X.w X.A.in1 it [it] x.cps.size (fun i v => ∃ c u, x.cps[i]? = some c ∧ v = .str ⟨#[c]⟩ u) (fun i h => h.IsStrIter it (strIterType x) x t i) := by
      unfold strIterType
      split
      · exact Draws.strAscii (A := X.A.in1) (I.ok.hd hc) it x t
      · exact Draws.strWide (A := X.A.in1) (I.ok.hd hc) it x t
    refine wpAny_pyNext_enum_itemD D he hit hg hne (by simpa using hne) fun v h' tk hv ho hit' hT hsz hk => ?_
    obtain ⟨c, u, hcx, rfl⟩ := hv
    refine ⟨_, rfl, wpAny_letOwnedTupleGo_enum (s := { s with heap := h', toks := tk + 1 }) ho fun h'' he' sb => ?_⟩
    have hT2 : h''.get? s.heap.objs.size = some { cls := .type "tuple", data := .seq #[.int i tk, .str ⟨#[c]⟩ u] } := (sb.2 _ (Nat.ne_of_gt hel)).trans hT
    have new : ObjOk X.prog X.w (upd H s.heap.objs.size (.tup [.int (i : Nat), .str ⟨#[c]⟩])) h'' s.heap.objs.size (.tup [.int (i : Nat), .str ⟨#[c]⟩]) :=
      ⟨by show 2 ≤ sizeLine; decide, [.int i tk, .str ⟨#[c]⟩ u], .cons ⟨_, rfl⟩ (.cons ⟨_, rfl⟩ .nil), ⟨_, hT2, rfl, _, rfl⟩⟩
    have I1 : Inv X pins σ (upd H s.heap.objs.size (.tup [.int (i : Nat), .str ⟨#[c]⟩])) { s with heap := h'', toks := tk + 1 } :=
      I.turnedNew (ch := [e, it]) (fun b ob hb q => (sb.2 b (fun z => hb (by simp [z]))).trans (hk b ob (fun z => hb (by simp [z])) (fun z => hb (by simp [z])) q)) hf (Nat.le_refl _) new
    refine ⟨.ref s.heap.objs.size, _, I1, rfl, ⟨_, c, rfl, I.hok.fresh (Nat.le_refl _), hcx, rfl⟩, ⟨⟨.str ⟨#[c]⟩ u, ?_⟩, ?_, hne, hg⟩, fun b hb => ?_⟩
    · have e1 : ((i + 1 : Nat) : Int) = (i : Int) + 1 := by omega
      rw [e1]; exact he'
    · obtain ⟨o, q, r⟩ := hit'
      exact ⟨o, (sb.2 it (Ne.symm hne)).trans q, r⟩
    · have hb' : b < s.heap.objs.size := by
        have e' : b = e ∨ b = it := by simpa using hb
        rcases e' with z | z
        · rw [z]; exact hel
        · rw [z]; exact hil
      rw [upd_ne (Nat.ne_of_lt hb')]
      exact (hf b hb).1
  done := by
    intro X hP hw hK hc i pins s σ H E I hf st hg
    subst hP hw hK
    obtain ⟨⟨old, he⟩, hit, hne, hle⟩ := st
    have hg : x.cps.size ≤ i := hg
    have ei : i = x.cps.size := Nat.le_antisymm hle hg
    subst ei
    obtain ⟨f0, f1, f2, f3, f4, f5⟩ := hf it (by simp)
    have D : Draws X.prog X.w X.A.in1 it [it] x.cps.size (fun i v => ∃ c u, x.cps[i]? = some c ∧ v = .str ⟨#[c]⟩ u) (fun i h => h.IsStrIter it (strIterType x) x t i) := by
      unfold strIterType
      split
      · exact Draws.strAscii (A := X.A.in1) (I.ok.hd hc) it x t
      · exact Draws.strWide (A := X.A.in1) (I.ok.hd hc) it x t
    exact wpAny_pyNext_enum_endD D he hit fun h' eb => ⟨rfl, I.turned (t' := s.toks) (fun b o hb q => eb b o hb q) f0 f1 f3 f4 f5⟩
  self := fun A i s Q E st h => let ⟨⟨_, he⟩, _⟩ := st; wpAny_pyIter_enum he h
def iEnumS (ta : TA) : TI := fun σ H R => ta σ H fun vs H1 => ∃ x, vs = [.str x] ∧ R (Ites x) H1
theorem pi_enumS {X : Cx} {e : Expr} {ta : TA} {p pos tpos : Pos} {elts : List Expr} {kk : Nat} (hg : Gl X "enumerate") (hm : X.mg "enumerate" = none) (ha : PA X [e] ta) (hs : starEach [e] X.env = [(false, eval e X.env)] := by rfl) :
    PI X (.Tuple elts kk tpos) (.Call (.Name "enumerate" p) [e] [] pos) (iEnumS ta) := by
  refine ⟨fun pins s σ H R I h => ?_⟩
  refine Call_ (ld_blt I hg hm boot_enumerate (PyProof.Rows.callWith_type1 (thn (ha.run pos pins s σ H _ I h) fun us s1 ⟨vs, H1, I1, r1, q1⟩ => ?_) hs rfl))
  obtain ⟨x, ex, q⟩ := q1
  subst ex
  cases r1 with
  | cons r rr =>
    cases rr
    obtain ⟨t, rfl⟩ := r
    refine call_enumerate_str fun h' he hit hsz hk => wpAny_pyIter_enum he ?_
    have I2 : Inv X pins σ H1 { s1 with heap := h' } := I1.kept (t' := s1.toks) hk
    refine ⟨s1.heap.objs.size + 1, [s1.heap.objs.size + 1, s1.heap.objs.size], _, _, H1, rfl, I2, turn_enumS x t (s1.heap.objs.size + 1) s1.heap.objs.size, ⟨⟨.none, he⟩, hit, Nat.succ_ne_self _, Nat.zero_le _⟩, fun b hb => ?_, q⟩
    have e' : b = s1.heap.objs.size + 1 ∨ b = s1.heap.objs.size := by simpa using hb
    have hle : s1.heap.objs.size ≤ b := by
      rcases e' with z | z
      · rw [z]; exact Nat.le_add_right _ _
      · rw [z]; exact Nat.le_refl _
    exact I1.fpOk hle (I1.hok.fresh hle)
theorem walk_enumS {x : Str} : Walk (Ites x) x.cps.size (fun _ => True) (YPair (fun i => some (.int (i : Nat))) (fun i => x.cps[i]?.map fun c => .str ⟨#[c]⟩)) := by
  refine ⟨fun i _ hi _ => hi, fun _ _ => Nat.le_refl _, fun i H v H' _ _ y => ?_⟩
  obtain ⟨T, c, h1, h2, h3, h4⟩ := y
  exact ⟨T, .int (i : Nat), .str ⟨#[c]⟩, h1, h2, h4, rfl, by show x.cps[i]?.map _ = _; rw [h3]; rfl⟩
end OB
namespace OB
open PySem PySem.Spec PyProof.Rows L2
open AutoSeq1 (wpAny_loadPart')
section
variable {prog : Program} {w : World} {A : Around} {E : Value → Shared → Prop} {s : Shared}
theorem nextOf_rev_item {it l : Addr} {i : Nat} {items : Array Value} {x : Value} {Q : Value → Shared → Prop} (hit : s.heap.IsRevIter it l (i : Int)) (hl : s.heap.IsList l items) (hx : items[i]? = some x)
    (hQ : ∀ h', h'.IsRevIter it l ((i : Int) - 1) → Heap.SameBut it s.heap h' → Q x { s with heap := h' }) : wpAny (model prog w) A (Builtin.SmallTypes.nextOf (.ref it)) Q E s := by
  obtain ⟨o, ho, hc, hd⟩ := id hit
  obtain ⟨ol, hol, _, nl, hdl⟩ := hl
  unfold Builtin.SmallTypes.nextOf
  refine wpAny_bind (wpAny_callSpecial?_slot (name := Str.ofString "__next__") hit.typeIs F.slot_lri_next
    (wpAny_call_entry F.slot_lri_next hit.typeIs F.entry_lri_next ?_ (F.args_lri_next_1 _)))
  unfold Builtin.«list_reverseiterator.__next__»
  refine wpAny_bind (wpAny_of_eq (a := (Value.ref it, [])) rfl ?_)
  try dsimp only
  refine wpAny_bind (wpAny_field ho hd (x := rawInt (i : Int)) rfl ?_)
  show wpAny _ _ (if (i : Int) < 0 then _ else _) _ _ s
  rw [if_neg (by omega)]
  show wpAny _ _ (field (.ref it) 0 >>= _) _ _ s
  refine wpAny_bind (wpAny_field ho hd (x := .ref l) rfl ?_)
  show wpAny _ _ (seqItems? (.ref l) >>= _) _ _ s
  refine wpAny_bind (wpAny_seqItems hol hdl ?_)
  simp only [Int.toNat_natCast, hx]
  refine wpAny_bind (wpAny_setField ho hd (by simp) ?_)
  first
  | refine wpAny_pure ⟨x, rfl, wpAny_pure (hQ _ ?_ (Heap.SameBut.update ..))⟩
  | refine wpAny_bind (wpAny_pure (wpAny_pure ⟨x, rfl, wpAny_pure (hQ _ ?_ (Heap.SameBut.update ..))⟩))
  exact ⟨_, Heap.get?_update_self _ ho (Obj.isFreed_of_fields (Obj.data_mapFields hd _)), (Obj.cls_mapFields ..).trans hc, by
    rw [Obj.data_mapFields hd]; simp⟩
theorem nextOf_rev_end {it l : Addr} {Q : Value → Shared → Prop} (hh : A.handled = none) (hit : s.heap.IsRevIter it l (-1))
    (hE : ∀ h' e, Heap.ExtBut it s.heap h' → (∃ o, h'.get? e = some o ∧ o.cls = .type "StopIteration") → E (.ref e) { s with heap := h' }) :
    wpAny (model prog w) A (Builtin.SmallTypes.nextOf (.ref it)) Q E s := by
  obtain ⟨o, ho, hc, hd⟩ := id hit
  unfold Builtin.SmallTypes.nextOf
  refine wpAny_bind (wpAny_callSpecial?_slot (name := Str.ofString "__next__") hit.typeIs F.slot_lri_next
    (wpAny_call_entry F.slot_lri_next hit.typeIs F.entry_lri_next ?_ (F.args_lri_next_1 _)))
  unfold Builtin.«list_reverseiterator.__next__»
  refine wpAny_bind (wpAny_of_eq (a := (Value.ref it, [])) rfl ?_)
  try dsimp only
  refine wpAny_bind (wpAny_field ho hd (x := rawInt (-1)) rfl ?_)
  show wpAny _ _ (if (-1 : Int) < 0 then _ else _) _ _ s
  rw [if_pos (by decide)]
  refine wpAny_bind (wpAny_rule ?_)
  first
  | show wpAny _ _ (newExc (.type "StopIteration") [] >>= _) _ _ _
  | (refine wpAny_bind ?_; show wpAny _ _ (newExc (.type "StopIteration") [] >>= _) _ _ _)
  refine wpAny_bind ?_
  simp only [newExc, newTuple]
  refine wpAny_bind (wpAny_newObj_type ?_ (by size_fits))
  refine wpAny_bind (m := firstArgMember _ _) (wpAny_of_eq (a := Value.none) (by first | rfl | (simp only [firstArgMember]; rfl)) ?_)
  refine wpAny_newObj_type ?_ (by size_fits)
  simp only [raiseNew]
  refine wpAny_bind (wpAny_handled ?_)
  first | rw [show A.in1.handled = none from hh] | rw [hh]
  refine wpAny_bind (wpAny_pure (wpAny_throw ?_))
  exact hE _ _ (((Heap.ExtBut.refl _ _).push _).push _) ⟨_, Heap.get?_push_size _ rfl, rfl⟩
end
theorem drawsRev {prog : Program} {w : World} {A : Around} (hh : A.handled = none) (it l : Addr) (hne : l ≠ it) (items : Array Value) :
    Draws prog w A it [it, l] items.size (fun i v => items[items.size - 1 - i]? = some v) (fun i h => i ≤ items.size ∧ h.IsRevIter it l ((items.size : Int) - 1 - (i : Int)) ∧ h.IsList l items) where
  live := fun _ _ st => let ⟨_, ⟨o, ho, _⟩, _⟩ := st; ⟨o, ho⟩
  frame := fun _ _ _ x hk => ⟨x.1, x.2.1.at fun o e => hk it (by simp) o e, x.2.2.at fun o e => hk l (by simp) o e⟩
  item := fun i s Q E hi x hQ => by
    have e : (items.size : Int) - 1 - (i : Int) = ((items.size - 1 - i : Nat) : Int) := by omega
    have hit := x.2.1
    rw [e] at hit
    have hx : items[items.size - 1 - i]? = some (items[items.size - 1 - i]'(by omega)) := Array.getElem?_eq_getElem (by omega)
    refine nextOf_rev_item hit x.2.2 hx fun h' hit' hs' => ?_
    have e2 : ((items.size - 1 - i : Nat) : Int) - 1 = (items.size : Int) - 1 - ((i + 1 : Nat) : Int) := by omega
    rw [e2] at hit'
    exact hQ _ h' s.toks hx ⟨hi, hit', x.2.2.at fun o eo => (hs'.2 l hne).trans eo⟩ hs'
  done := fun s Q E x hE => by
    have e : (items.size : Int) - 1 - (items.size : Int) = -1 := by omega
    have hit := x.2.1
    rw [e] at hit
    exact nextOf_rev_end hh hit hE
theorem meets_enumerate_newR (l it : Addr) (i : Int) :
    Meets (Builtin.«enumerate.__new__» ⟨[.type "enumerate", .ref it], []⟩) (fun _ R s => s.heap.get? it = some (revObj l i) ∧
      R (.ok (.ret (.ref s.heap.objs.size)))
        { s with heap := s.heap.push { cls := .type "enumerate", data := .fields #[.none, .bool false, .ref it, rawInt 0, .none, .none] } }) :=
  .of_wp fun prog w A R s h => by
    obtain ⟨hp, g, d, tk, os⟩ := s; obtain ⟨hl, h⟩ := h
    have hsub := sub_enumerate
    have hL : Heap.IsRevIter (Shared.heap ⟨hp, g, d, tk, os⟩) it l i := ⟨_, hl, rfl, rfl⟩
    wp_walk using wpAny_loadPart' hl
    refine wpAny_stack_any fun st => wpAny_pure ?_
    split
    · rename_i c _ _ _ _ _
      cases (c == Value.type "enumerate")
      · wp_walk using wpAny_loadPart' hl, wpAny_pyIter_revIter hL
        exact ⟨_, rfl, h⟩
      · wp_walk using wpAny_loadPart' hl, wpAny_pyIter_revIter hL
        exact ⟨_, rfl, h⟩
    · wp_walk using wpAny_loadPart' hl, wpAny_pyIter_revIter hL
      exact ⟨_, rfl, h⟩
end OB
namespace OB
open PySem PySem.Spec PyProof.Rows L2
/-- enumerate(reversed(list)): the list at a keeps its n items -/
def Iter (K : PySem.W.Frag) (a : Addr) (n : Nat) : It :=
  ⟨fun i H => ∃ (xs : List V) (x : V), SqL K H a xs ∧ xs.length = n ∧ i < n ∧ xs[n - 1 - i]? = some x, fun i H v H' => ∃ T x, v = .ref T ∧ H T = none ∧ H' = upd H T (.tup [.int (i : Nat), x]) ∧ ∀ xs, SqL K H a xs → xs[n - 1 - i]? = some x,
    fun i H => ∃ xs : List V, SqL K H a xs ∧ xs.length = n ∧ n ≤ i⟩
theorem turn_enumR {P : Program} {w : World} {K : PySem.W.Frag} {elts : List Expr} {kk : Nat} {tpos : Pos} (a e it : Addr) (n : Nat) (hae : a ≠ e) (hai : a ≠ it) :
    Turn P w K (.Tuple elts kk tpos) (Iter K a n) [e, it] e (fun i h => (∃ old, IsEnum h e it ((i : Nat) : Int) old) ∧ h.IsRevIter it a ((n : Int) - 1 - (i : Nat)) ∧ e ≠ it ∧ i ≤ n) where
  mem := by simp
  obj := fun i h st b hb => by
    obtain ⟨⟨old, he⟩, ⟨o, ho, hc, hd⟩, _⟩ := st
    have e' : b = e ∨ b = it := by simpa using hb
    rcases e' with z | z
    · rw [z]; exact ⟨_, he, fun v q => nomatch q⟩
    · rw [z]; exact ⟨o, ho, fun v q => by rw [hd] at q; cases q⟩
  keep := fun i h h' st k => let ⟨⟨old, he⟩, hi, hne⟩ := st; ⟨⟨old, k e (by simp) _ he⟩, hi.at fun o q => k it (by simp) o q, hne⟩
  item := by
    intro X hP hw hK hc i pins s σ H E I hf st hg
    subst hP hw hK
    obtain ⟨⟨old, he⟩, hit, hne, hle⟩ := st
    obtain ⟨xs, x, hq, hn, hin, hx⟩ := hg
    subst hn
    obtain ⟨its, rv, p, hz⟩ := I.list hq
    have hlen := rv.length
    obtain ⟨u, hu, ru⟩ := rv.get hx
    have hel : e < s.heap.objs.size := Heap.lt_size he
    have hil : it < s.heap.objs.size := by obtain ⟨_, q, _⟩ := hit; exact Heap.lt_size q
    have hsz : its.toArray.size = xs.length := by rw [List.size_toArray, hlen]
    have D := drawsRev (prog := X.prog) (w := X.w) (A := X.A.in1) (I.ok.hd hc) it a hai its.toArray
    refine wpAny_pyNext_enum_itemD D he ⟨by omega, by rw [hsz]; exact hit, p.isList⟩ (by omega) hne (by simp [hne, hae.symm]) fun v h' tk hv ho hit' hT hsz' hk => ?_
    have ev : v = u := by
      rw [hsz] at hv
      have h2 : its.toArray[xs.length - 1 - i]? = some u := by simpa using hu
      exact Option.some.inj (hv.symm.trans h2)
    subst ev
    refine ⟨_, rfl, wpAny_letOwnedTupleGo_enum (s := { s with heap := h', toks := tk + 1 }) ho fun h'' he' sb => ?_⟩
    have hT2 : h''.get? s.heap.objs.size = some { cls := .type "tuple", data := .seq #[.int i tk, v] } := (sb.2 _ (Nat.ne_of_gt hel)).trans hT
    have new : ObjOk X.prog X.w (upd H s.heap.objs.size (.tup [.int (i : Nat), x])) h'' s.heap.objs.size (.tup [.int (i : Nat), x]) :=
      ⟨by show 2 ≤ sizeLine; decide, [.int i tk, v], .cons ⟨_, rfl⟩ (.cons ru .nil), ⟨_, hT2, rfl, _, rfl⟩⟩
    have I1 : Inv X pins σ (upd H s.heap.objs.size (.tup [.int (i : Nat), x])) { s with heap := h'', toks := tk + 1 } :=
      I.turnedNew (ch := [e, it]) (fun b ob hb q => (sb.2 b (fun z => hb (by simp [z]))).trans (hk b ob (fun z => hb (by simp [z])) (fun z => hb (by simp [z])) q)) hf (Nat.le_refl _) new
    refine ⟨.ref s.heap.objs.size, _, I1, rfl, ⟨_, x, rfl, I.hok.fresh (Nat.le_refl _), rfl, fun ys hy => by rw [I.list_inj hy hq]; exact hx⟩, ⟨⟨v, ?_⟩, ?_, hne, hin⟩, fun b hb => ?_⟩
    · have e1 : ((i + 1 : Nat) : Int) = (i : Int) + 1 := by omega
      rw [e1]; exact he'
    · have h3 := hit'.2.1
      rw [hsz] at h3
      exact h3.at fun o q => (sb.2 it (Ne.symm hne)).trans q
    · have hb' : b < s.heap.objs.size := by
        have e' : b = e ∨ b = it := by simpa using hb
        rcases e' with z | z
        · rw [z]; exact hel
        · rw [z]; exact hil
      rw [upd_ne (Nat.ne_of_lt hb')]
      exact (hf b hb).1
  done := by
    intro X hP hw hK hc i pins s σ H E I hf st hg
    subst hP hw hK
    obtain ⟨⟨old, he⟩, hit, hne, hle⟩ := st
    obtain ⟨xs, hq, hn, hge⟩ := hg
    subst hn
    obtain ⟨its, rv, p, hz⟩ := I.list hq
    have hlen := rv.length
    have ei : i = xs.length := Nat.le_antisymm hle hge
    subst ei
    have hsz : its.toArray.size = xs.length := by rw [List.size_toArray, hlen]
    obtain ⟨f0, f1, f2, f3, f4, f5⟩ := hf it (by simp)
    have D := drawsRev (prog := X.prog) (w := X.w) (A := X.A.in1) (I.ok.hd hc) it a hai its.toArray
    exact wpAny_pyNext_enum_endD D he ⟨Nat.le_refl _, by rw [hsz]; exact hit, p.isList⟩ fun h' eb => ⟨rfl, I.turned (t' := s.toks) (fun b o hb q => eb b o hb q) f0 f1 f3 f4 f5⟩
  self := fun A i s Q E st h => let ⟨⟨_, he⟩, _⟩ := st; wpAny_pyIter_enum he h
section
variable {prog : Program} {w : World} {A : Around} {E : Value → Shared → Prop} {s : Shared}
theorem call_enumerate_rev {l it : Addr} {i : Int} {Q : Value → Shared → Prop} (hL : s.heap.get? it = some (revObj l i))
    (h : Q (.ref s.heap.objs.size) { s with heap := s.heap.push { cls := .type "enumerate", data := .fields #[.none, .bool false, .ref it, rawInt 0, .none, .none] } }) :
    wpAny (model prog w) A (call (.type "enumerate") [.ref it]) Q E s := by
  refine callType_new F.called_enumerate (by decide) (F.typeCall_enumerate_1 _) (F.newCall_enumerate_1 _) (fun obj => F.args_object_init_2 obj _) F.entry_enumerate_new
    (meets_enumerate_newR l it i) ⟨hL, ?_⟩
  exact ⟨⟨_, Heap.get?_push_size _ rfl, rfl⟩, h⟩
end
def iEnumR (K : PySem.W.Frag) (te : TE) : TI := fun σ H R => te σ H fun v H1 => ∃ (a : Addr) (xs : List V), v = .ref a ∧ SqL K H1 a xs ∧ R (Iter K a xs.length) H1
theorem pi_enumR {X : Cx} {e : Expr} {te : TE} {p pos p2 pos2 tpos : Pos} {elts : List Expr} {kk : Nat} (hg : Gl X "enumerate") (hm : X.mg "enumerate" = none) (hg2 : Gl X "reversed") (hm2 : X.mg "reversed" = none) (he : PE X e te)
    (hs : starEach [e] X.env = (false, eval e X.env) :: starEach [] X.env := by rfl)
    (hs2 : starEach [.Call (.Name "reversed" p2) [e] [] pos2] X.env = (false, eval (.Call (.Name "reversed" p2) [e] [] pos2) X.env) :: starEach [] X.env := by rfl) :
    PI X (.Tuple elts kk tpos) (.Call (.Name "enumerate" p) [.Call (.Name "reversed" p2) [e] [] pos2] [] pos) (iEnumR X.K te) := by
  refine ⟨fun pins s σ H R I h => ?_⟩
  refine Call_ (ld_blt I hg hm boot_enumerate (PyProof.Rows.callWith_type1 (args_cons ?_ hs2) hs2 rfl))
  refine Call_ (ld_blt I hg2 hm2 PyProof.Rows.boot_reversed (PyProof.Rows.callWith_type1 (args_cons (thn (he.run pins s σ H _ I h) fun u s1 ⟨v, H1, I1, r1, q1⟩ => args_nil ?_) hs) hs rfl))
  obtain ⟨a, xs, ev, hq, q⟩ := q1
  subst ev
  obtain rfl : u = Value.ref a := r1
  obtain ⟨its, rv, p', hz⟩ := I1.list hq
  have hl := rv.length
  have hal : a < s1.heap.objs.size := by obtain ⟨_, z, _⟩ := p'.isList; exact Heap.lt_size z
  have e1 : ((its.toArray.size : Nat) : Int) - 1 = (xs.length : Int) - 1 - ((0 : Nat) : Int) := by simp only [List.size_toArray]; omega
  refine call_reversed_list p'.isList (args_nil ?_)
  refine call_enumerate_rev (l := a) (i := ((its.toArray.size : Nat) : Int) - 1) (Heap.get?_push_size _ rfl) ?_
  have hz1 : (s1.heap.push (revObj a ((its.toArray.size : Nat) - 1))).objs.size = s1.heap.objs.size + 1 := Heap.size_push ..
  have he1 : IsEnum ((s1.heap.push (revObj a (((its.toArray.size : Nat) : Int) - 1))).push { cls := .type "enumerate", data := .fields #[.none, .bool false, .ref s1.heap.objs.size, rawInt 0, .none, .none] }) (s1.heap.objs.size + 1) s1.heap.objs.size 0 .none := by
    have := Heap.get?_push_size (s1.heap.push (revObj a (((its.toArray.size : Nat) : Int) - 1))) (o := { cls := .type "enumerate", data := .fields #[.none, .bool false, .ref s1.heap.objs.size, rawInt 0, .none, .none] }) rfl
    rw [hz1] at this; exact this
  show wpAny _ _ (pyIter (.ref (s1.heap.push (revObj a (((its.toArray.size : Nat) : Int) - 1))).objs.size)) _ _ _
  rw [hz1]
  refine wpAny_pyIter_enum he1 ?_
  have I2 := I1.kept (t' := s1.toks) (h' := (s1.heap.push (revObj a (((its.toArray.size : Nat) : Int) - 1))).push { cls := .type "enumerate", data := .fields #[.none, .bool false, .ref s1.heap.objs.size, rawInt 0, .none, .none] }) fun b ob z => Heap.get?_push_of_some _ (Heap.get?_push_of_some _ z)
  refine ⟨s1.heap.objs.size + 1, [s1.heap.objs.size + 1, s1.heap.objs.size], _, _, H1, rfl, I2, turn_enumR a (s1.heap.objs.size + 1) s1.heap.objs.size xs.length (Nat.ne_of_lt (Nat.lt_succ_of_lt hal)) (Nat.ne_of_lt hal), ⟨⟨.none, he1⟩, ?_, Nat.succ_ne_self _, Nat.zero_le _⟩, fun b hb => ?_, q⟩
  · rw [← e1]
    exact ⟨_, Heap.get?_push_of_some _ (Heap.get?_push_size _ rfl), rfl, rfl⟩
  · have e' : b = s1.heap.objs.size + 1 ∨ b = s1.heap.objs.size := by simpa using hb
    have hle : s1.heap.objs.size ≤ b := by
      rcases e' with z | z
      · rw [z]; exact Nat.le_add_right _ _
      · rw [z]; exact Nat.le_refl _
    exact I1.fpOk hle (I1.hok.fresh hle)
theorem walk_enumR {K : PySem.W.Frag} {a : Addr} {xs : List V} : Walk (Iter K a xs.length) xs.length (fun H => SqL K H a xs) (YPair (fun i => some (.int (i : Nat))) (fun i => xs[xs.length - 1 - i]?)) := by
  refine ⟨fun i _ hi q => ⟨xs, xs[xs.length - 1 - i]'(by omega), q, rfl, hi, by simp [show xs.length - 1 - i < xs.length by omega]⟩, fun _ q => ⟨xs, q, rfl, Nat.le_refl _⟩, fun i H v H' _ q y => ?_⟩
  obtain ⟨T, x, h1, h2, h3, h4⟩ := y
  exact ⟨T, .int (i : Nat), x, h1, h2, h3, rfl, h4 xs q⟩
end OB
namespace K53
open PySem PySem.Spec PyProof.Rows L2 OB SkE LamX
/-- the law's own reading of a number's text -/
def spNum : Sp := fun vs H Q _ => ∃ (z : Str) (lo hi : Int), vs = [.str z, .int lo, .int hi] ∧ z.length ≤ 100000 ∧ MN.asc z ∧ ∀ H', Same H H' → Q (.bl (MN.inR z lo hi)) H'
def oN : Option Nat → V
  | none => .non
  | some n => .int (n : Int)
def spDue : Sp := fun vs H Q _ => ∃ (q : Addr) (ys : List Str), vs = [.ref q] ∧ H q = some (.lst (ys.map V.str)) ∧ (∀ y ∈ ys, y.length ≤ 100000 ∧ MN.asc y) ∧ ∀ H', Same H H' → Q (oN (dueOf ys)) H'
/-- the signs that are no digits -/
def odds (l : List Nat) : List Nat := l.filter fun c => !MT.dig c
def signs (l : List Nat) : List V := l.map fun c => V.str ⟨#[c]⟩
def signD (l : List Nat) : PyData := .list (l.map fun c => PyData.str ⟨#[c]⟩)
theorem dp_signs {K : PySem.W.Frag} {H : Hp} : ∀ l : List Nat, DpAll K H (signs l) (l.map fun c => PyData.str ⟨#[c]⟩)
  | [] => .nil
  | c :: r => .cons (.str _) (dp_signs r)
theorem sign_flat : ∀ l : List Nat, (∀ c ∈ l, c < 256) → PyData.canLayAll0 (l.map fun c => PyData.str ⟨#[c]⟩) = true ∧ PyData.depthAll (l.map fun c => PyData.str ⟨#[c]⟩) ≤ 1
  | [], _ => by simp [PyData.canLayAll0, PyData.depthAll]
  | c :: r, h => by
    obtain ⟨h1, h2⟩ := sign_flat r fun x hx => h x (List.mem_cons_of_mem _ hx)
    have hc := h c List.mem_cons_self
    have ok : PyData.strOk ⟨#[c]⟩ = true := by
      unfold PyData.strOk
      simp
      omega
    refine ⟨by simp [PyData.canLayAll0, PyData.canLay0, h1, ok], ?_⟩
    simp only [List.map_cons, PyData.depthAll, PyData.depth]
    omega
theorem sign_shaped {l : List Nat} (h : ∀ c ∈ l, c < 256) : SeqAt.shaped (signD l) = true := by
  obtain ⟨h1, h2⟩ := sign_flat l h
  unfold SeqAt.shaped
  rw [Bool.and_eq_true]
  refine ⟨by simp [signD, PyData.canLay0, h1], decide_eq_true ?_⟩
  simp only [signD, PyData.depth]
  omega
theorem sign_nil (l : List Nat) : PyData.eqv (signD l) (.list []) = decide (l = []) := by
  cases l with
  | nil => simp [signD, PyData.eqv, PyData.eqvAll]
  | cons n r => simp [signD, PyData.eqv, PyData.eqvAll]
theorem odds_nil {l : List Nat} (h : odds l = []) (ne : l ≠ []) : MT.digs l = true := by
  unfold MT.digs
  rw [Bool.and_eq_true]
  constructor
  · cases l with
    | nil => exact absurd rfl ne
    | cons a r => rfl
  · rw [List.all_eq_true]
    intro c hc
    cases e : MT.dig c with
    | true => rfl
    | false =>
      have : c ∈ odds l := List.mem_filter.mpr ⟨hc, by rw [e]; rfl⟩
      rw [h] at this
      exact absurd this List.not_mem_nil
theorem odds_ne {l : List Nat} (h : odds l ≠ []) : MT.digs l = false := by
  cases e : MT.digs l with
  | false => rfl
  | true =>
    refine absurd (List.filter_eq_nil_iff.mpr fun c hc => ?_) h
    unfold MT.digs at e
    rw [Bool.and_eq_true] at e
    rw [List.all_eq_true.mp e.2 c hc]
    decide
theorem sign_in (c : Nat) : decide (c ∈ ("0123456789" : Str).cps.toList) = MT.dig c := by
  rw [← MT.in_digits, StrLaws.found_one]
theorem pick_int {ks : List Int} {j : Nat} {x : V} (h : (ks.map V.int)[j]? = some x) : ∃ k ∈ ks, x = V.int k := by
  rw [List.getElem?_map] at h
  cases e : ks[j]? with
  | none => rw [e] at h; cases h
  | some k => rw [e] at h; exact ⟨k, List.mem_of_getElem? e, (Option.some.inj h).symm⟩
theorem nat9 {k : Int} (h : k.natAbs < 1000) : k.natAbs < 2 ^ 9000 := Nat.lt_of_lt_of_le h (by decide)
theorem two_of {α : Type} : ∀ {l : List α}, l.length = 2 → ∃ a b, l = [a, b]
  | [a, b], _ => ⟨a, b, rfl⟩
/-- what stands between two steps of the law -/
structure Mid (T : List (Addr × Str)) (p b n : Nat) (H : Hp) : Prop where
  o : Orch H p b n
  t : Tabs T H
theorem Mid.same {T : List (Addr × Str)} {p b n : Nat} {H H' : Hp} (m : Mid T p b n H) (s : Same H H') : Mid T p b n H' := ⟨m.o.same s, m.t.ext s⟩
theorem Mid.draw {T : List (Addr × Str)} {p b n k : Nat} {H H' : Hp} (m : Mid T p b n H) (o : Orch H' p b k) (B : But p H H') : Mid T p b k H' := ⟨o, tabs_orchN m.t B m.o⟩
theorem Mid.mono {T : List (Addr × Str)} {p b n k : Nat} {H : Hp} (m : Mid T p b n H) (h : n ≤ k) : Mid T p b k H := ⟨m.o.mono h, m.t⟩
theorem Mid.put {T : List (Addr × Str)} {p b n : Nat} {H : Hp} {D : Addr} {xs ys : List V} (m : Mid T p b n H) (hD : H D = some (.lst xs)) (n1 : D ≠ p) (n2 : b ≠ D) : Mid T p b n (upd H D (.lst ys)) :=
  ⟨m.o.keep (fun u e => by rw [upd_ne n1.symm]; exact e) (fun u e => by rw [upd_ne n2]; exact e), tabs_butN m.t but_at hD⟩
theorem Mid.pD {T : List (Addr × Str)} {p b n : Nat} {H : Hp} {D : Addr} (m : Mid T p b n H) (h : H D = none) : D ≠ p := by
  obtain ⟨u, hu⟩ := m.o.pn
  exact (ne_of_none hu h).symm
theorem Mid.bD {T : List (Addr × Str)} {p b n : Nat} {H : Hp} {D : Addr} (m : Mid T p b n H) (h : H D = none) : b ≠ D := by
  obtain ⟨u, hu⟩ := m.o.bn
  exact ne_of_none hu h
theorem Mid.ext {T : List (Addr × Str)} {p b n : Nat} {H H' : Hp} (m : Mid T p b n H) (e : ExtN H H') (t : Tabs T H') : Mid T p b n H' := ⟨orch_extN m.o e, t⟩
theorem but_put {p D : Addr} {H H' : Hp} {o : HO} (hD : H D = none) (B : But p H H') : But p H (upd H' D o) := fun a u e na => by
  rw [upd_ne (ne_of_none e hD)]
  exact B _ _ e na
theorem new_facts {H H' : Hp} {l : Addr} {o : HO} (h : H l = none) (e : upd H l o = H') : Same H H' ∧ H' l = some o := by
  subst e
  exact ⟨same_new h, upd_same⟩
structure Hid (P : Prop) : Prop where
  out : P
theorem int_txt {y : Str} {n : Nat} (h : MN.num y = some n) : intText? y = some (n : Int) ∧ y.length ≤ 140 := by
  unfold MN.num at h
  split at h
  · rename_i e
    cases h
    exact ⟨MT.int_pos y e.1 (by omega), e.2.1⟩
  · cases h
def bnd (i : Nat) : Int := if i = 0 then 256 else if i = 1 then 48 else 8
theorem num_2 {y : Option Str} {c : Nat} : numIn y 1 (mr c) = (match numIn y 1 8 with | none => none | some m => if m ≤ c then some m else none) := by
  cases y with
  | none => rfl
  | some y =>
    rw [numIn_eq, numIn_eq]
    cases MN.num y with
    | none => rfl
    | some n =>
      show (if (1 : Int) ≤ (n : Int) ∧ (n : Int) ≤ (if (c : Int) < 8 then (c : Int) else 8) then some n else none) = (match (if (1 : Int) ≤ (n : Int) ∧ (n : Int) ≤ 8 then some n else none) with | none => none | some m => if m ≤ c then some m else none)
      by_cases h1 : (1 : Int) ≤ (n : Int) ∧ (n : Int) ≤ 8
      · rw [if_pos h1]
        show _ = if n ≤ c then some n else none
        by_cases h2 : n ≤ c
        · rw [if_pos h2, if_pos ⟨h1.1, by split <;> omega⟩]
        · rw [if_neg h2, if_neg fun z => h2 (by have := z.2; split at this <;> omega)]
      · rw [if_neg h1]
        refine if_neg fun z => h1 ⟨z.1, ?_⟩
        have := z.2
        split at this <;> omega
/-- where a number cannot stand -/
theorem due_at {ys : List Str} {i : Nat} (i3 : i < 3) (h : ∀ j, j < i → ∃ n, numIn ys[j]? 1 (bnd j) = some n) (h2 : numIn ys[i]? 1 (bnd i) = none) : dueOf ys = some i := by
  match i, i3, h, h2 with
  | 0, _, _, h2 => exact due_a h2
  | 1, _, h, h2 =>
    obtain ⟨c, hc⟩ := h 0 (by omega)
    exact due_b hc h2
  | 2, _, h, h2 =>
    obtain ⟨c, hc⟩ := h 0 (by omega)
    obtain ⟨s, hs⟩ := h 1 (by omega)
    have h2 : numIn ys[2]? 1 8 = none := h2
    exact due_c hc hs (by rw [num_2, h2])
theorem due_end {ys : List Str} {c s m : Nat} (hc : numIn ys[0]? 1 256 = some c) (hs : numIn ys[1]? 1 48 = some s) (hm : numIn ys[2]? 1 8 = some m) : dueOf ys = if c < m then some 2 else if ys.length ≤ 3 then none else some 3 := by
  by_cases h : c < m
  · rw [if_pos h]
    exact due_c hc hs (by rw [num_2, hm]; exact if_neg (by omega))
  · rw [if_neg h]
    exact due_d (m := m) hc hs (by rw [num_2, hm]; exact if_pos (by omega))
section
variable {P : Program} {w : World} {K : PySem.W.Frag} {mg : Str → Option Value} {base : Heap}
theorem sc__law_number : FnScope ["item", "least", "most", "sign"] ["item", "least", "most"] (defScope s__law_number) := ⟨rfl, rfl, rfl, by decide +kernel, rfl, by decide +kernel, by decide +kernel⟩
abbrev N__law_number : List Str := ["item", "least", "most", "sign"]
theorem ok__law_number {f : Addr} {fd : FuncData} (F : Fun K "_law_number" "_law_number" s__law_number f fd) (T : Blt mg) : FnOk P w K mg base CX0 1 f fd ["item", "least", "most"] spNum := by
  refine F.ok sc__law_number (fun vs H Q E h => ?_) (fun cdv A outer s H vs Q E hr h => ?_)
  · obtain ⟨z, lo, hi, rfl, _⟩ := h
    rfl
  · obtain ⟨z, lo, hi, rfl, hz, hA, k⟩ := h
    refine ⟨_, (pss_cons (ps_if (PW.pt (pw_or (pt_cmpR op_eq (pv 0) pe_str (nomark _)) (pw_or (pt_cmpR op_gt (pe_callB call_len_str (by rfl) T.n_len (by decide +kernel) (pa_cons (pv 0) pa_nil)) pe_int (nomark _)) (pw_or (pt_cmpR (op_neD hr.units) (pe_lc (own := [("sign", 3)]) (g := (gName 3)) rfl sc__law_number.nd (pi_str (pv 0)) (blkOk_by (N := N__law_number) (own := [("sign", 3)]) (sc := defScope s__law_number) (by decide +kernel)) (fun _ _ _ _ _ => (pg_name (i := 3) sc__law_number.nd rfl (Or.inl rfl))) (fun _ _ _ _ _ => (pts_one (pt_cmpR op_notIn_sign (pv 3) pe_str (by rfl)))) (fun _ _ _ _ _ => (pv 3))) (pe_lst pa_nil) (nomark _)) (pw_or1 (PW.pt (pw_and (pt_cmpR op_eq (pe_ix ix_str (pv 0) pe_int (fun _ _ => rfl)) pe_str (nomark _)) (pw_and1 (pt_cmpR op_ne (pv 0) pe_str (nomark _)))))))))) (pss_one (ps_ret pe_bl)) pss_nil)
  (pss_one (ps_ret (pe_chain op_le op_le (pv 1) (pe_callTy call_int_str (by rfl) T.n_int (by decide +kernel) (pa_cons (pv 0) pa_nil)) (pv 2))))), ?_⟩
    have no : MN.num z = none → ∀ H', Same H H' → Q (.bl false) H' := fun e H' S => by
      have := k H' S
      rw [show MN.inR z lo hi = false by unfold MN.inR; rw [e]] at this
      exact this
    have hz1 : z.length ≤ sizeLine := by rw [sizeLine_eq]; omega
    by_cases e0 : z = ""
    · have nn : MN.num z = none := by rw [e0]; decide +kernel
      exact ⟨_, rfl, rfl, _, rfl, iteT' (decide_eq_true (by rw [e0])) (iteT (no nn _ (.refl _)))⟩
    refine ⟨_, rfl, rfl, _, rfl, iteF' (decide_eq_false fun h => e0 (V.str.inj h)) ?_⟩
    have ne : MT.cs z ≠ [] := fun h => e0 (MT.str_ext (by rw [h]; decide +kernel))
    refine ⟨_, rfl, _, rfl, hz1, _, _, rfl, rfl, _, rfl, ?_⟩
    refine ite2 (fun c => ?_) (fun c => ?_)
    · rw [decide_eq_true_iff] at c
      exact iteT (no (if_neg fun e => by omega) _ (.refl _))
    rw [decide_eq_true_iff] at c
    refine ⟨_, rfl, z, rfl, fun D hD => ?_⟩
    have zs : (MT.cs z).length = z.length := MT.len_cs z
    refine lc_it (walk_str (z := z)) (fun i H' => Same H H' ∧ H' D = some (.lst (signs (odds ((MT.cs z).take i))))) ⟨same_new hD, upd_same⟩ (fun _ _ _ _ => trivial) ?_ ?_
    · rintro i x H0 H1 hi ⟨S1, h1⟩ ⟨rfl, c', hc', rfl⟩
      have hci : (MT.cs z)[i]? = some c' := by
        rw [← hc']
        exact Array.getElem?_toList ..
      have tk : (MT.cs z).take (i + 1) = (MT.cs z).take i ++ [c'] := by rw [List.take_add_one, hci]; rfl
      refine ⟨rfl, ?_⟩
      refine ⟨_, rfl, c', _, rfl, rfl, _, rfl, ?_⟩
      rw [sign_in]
      cases e : MT.dig c' with
      | true =>
        refine iteF ⟨S1, ?_⟩
        rw [h1, tk]
        unfold odds
        rw [List.filter_append]
        simp [e]
      | false =>
        refine iteT ⟨_, rfl, _, h1, ?_, fun a o ea => ?_, ?_⟩
        · have := List.length_filter_le (fun c => !MT.dig c) ((MT.cs z).take i)
          unfold signs odds
          rw [List.length_map, sizeLine_eq]
          rw [List.length_take] at this
          omega
        · rw [upd_ne (ne_of_none ea hD)]
          exact S1 a o ea
        · rw [upd_same, tk]
          unfold odds
          rw [List.filter_append]
          simp [e, signs]
    · rintro H1 ⟨S1, h1⟩
      rw [show z.cps.size = (MT.cs z).length by rw [zs]; rfl, List.take_length] at h1
      refine ⟨Nat.zero_le _, fun l hl => ?_⟩
      have S2 := same_new (o := .lst []) hl
      have ob : ∀ c ∈ odds (MT.cs z), c < 256 := fun c hc => hA c (List.mem_filter.mp hc).1
      refine ⟨signD (odds (MT.cs z)), .list [], Dp.lst (SqL.of (S2 _ _ h1)) (dp_signs _), Dp.lst (SqL.of upd_same) .nil, sign_shaped ob, by decide +kernel, _, rfl, ?_⟩
      rw [sign_nil]
      by_cases od : odds (MT.cs z) = []
      · rw [decide_eq_true od]
        refine iteF ?_
        have dg := odds_nil od ne
        cases ez : MT.cs z with
        | nil => exact absurd ez ne
        | cons a r =>
        have at0 : atI z.cps.toList 0 = some a := by
          show atI (MT.cs z) 0 = some a
          rw [ez]
          exact atI_nat (j := 0) rfl
        refine ⟨_, rfl, z, 0, a, rfl, rfl, hz1, at0, rfl, _, rfl, ?_⟩
        have S3 := S1.trans S2
        have fin : (a = 48 → z = "0") → Q (.bl (MN.inR z lo hi)) (upd H1 l (.lst [])) ∧ ∃ n : Nat, MN.num z = some n ∧ intText? z = some (n : Int) := fun h3 => by
          have h3' : (MT.cs z).head? = some 48 → z = "0" := fun y => by
            rw [ez] at y
            exact h3 (Option.some.inj y)
          exact ⟨k _ S3, _, if_pos ⟨dg, by omega, h3'⟩, MT.int_pos z dg (by omega)⟩
        have last : (a = 48 → z = "0") → tRet (tChain (rI0 fun i j => V.bl (decide (i ≤ j))) (rI0 fun i j => V.bl (decide (i ≤ j))) (tVar 1) (tCB (fun xs H Q => ∃ a n, xs = [V.str a] ∧ intText? a = some n ∧ a.length ≤ 640 ∧ Q (V.int n) H) (tCons (tVar 0) tNil)) (tVar 2)) { nx := fun x H' => Q V.non H', rt := Q } (L2.start ["item", "least", "most", "sign"] [V.str z, V.int lo, V.int hi]) (upd H1 l (HO.lst [])) := fun h3 => by
          obtain ⟨q, n, e1, e2⟩ := fin h3
          refine ⟨_, rfl, _, rfl, _, _, rfl, e2, by omega, _, _, rfl, rfl, _, rfl, ?_⟩
          unfold MN.inR at q
          rw [e1] at q
          have q : Q (.bl (decide (lo ≤ (n : Int)) && decide ((n : Int) ≤ hi))) (upd H1 l (.lst [])) := q
          by_cases c1 : lo ≤ (n : Int)
          · rw [decide_eq_true c1] at q
            refine iteT' (decide_eq_true c1) ⟨_, rfl, _, _, rfl, rfl, q⟩
          · rw [decide_eq_false c1] at q
            exact iteF' (decide_eq_false c1) q
        by_cases ea : a = 48
        · refine iteT' (by rw [ea]; decide +kernel) ⟨_, rfl, rfl, _, rfl, ?_⟩
          by_cases e1 : z = "0"
          · exact iteF' (by rw [e1]; decide) (last fun _ => e1)
          · exact iteT' (by rw [decide_eq_false (fun h => e1 (V.str.inj h))]; rfl) (no (if_neg fun e => e1 (e.2.2 (by rw [ez, ea]; rfl))) _ S3)
        · exact iteF' (decide_eq_false fun h => ea (by
            have h := congrArg (fun s : Str => s.cps.toList) (V.str.inj h)
            have h : [a] = [48] := h.trans (by decide +kernel)
            exact (List.cons.inj h).1)) (last fun z => absurd z ea)
      · rw [decide_eq_false od]
        refine iteT (iteT (no (if_neg fun e => by rw [odds_ne od] at e; exact nomatch e.1) _ (S1.trans S2)))
theorem sc__law_due : FnScope ["items", "at", "most"] ["items"] (defScope s__law_due) := ⟨rfl, rfl, rfl, by decide +kernel, rfl, by decide +kernel, by decide +kernel⟩
abbrev N__law_due : List Str := ["items", "at", "most"]
theorem ok__law_due {f f1 : Addr} {fd fd1 : FuncData} (F : Fun K "_law_due" "_law_due" s__law_due f fd) (T : Blt mg) (D__law_number : Df K mg "_law_number" s__law_number ["item", "least", "most"] f1 fd1) : FnOk P w K mg base CX0 2 f fd ["items"] spDue := by
  have G__law_number : FnOk P w K mg base CX0 1 f1 fd1 ["item", "least", "most"] spNum := ok__law_number D__law_number.F T
  refine F.ok sc__law_due (fun vs H Q E h => ?_) (fun cdv A outer s H vs Q E hr h => ?_)
  · obtain ⟨q, ys, rfl, _⟩ := h
    rfl
  · obtain ⟨q, ys, rfl, g_q, hL, k⟩ := h
    refine ⟨_, (pss_cons (ps_for PassesOwn.never rfl (pi_enum (by rfl) T.n_enumerate (pa_cons (pe_lst (pa_cons pe_int (pa_cons pe_int (pa_cons pe_int pa_nil)))) pa_nil)) (pg_tup (by rfl) (pgs_cons (pg_name (i := 1) sc__law_due.nd rfl (Or.inl rfl)) (pgs_cons (pg_name (i := 2) sc__law_due.nd rfl (Or.inl rfl)) pgs_nil))) (pss_one (ps_if (PW.pt (pw_or (pt_cmpR op_ge (pv 1) (pe_callB call_len_seq (by rfl) T.n_len (by decide +kernel) (pa_cons (pv 0) pa_nil)) (nomark _)) (pw_or1 (pt_not (pt_val (pe_call G__law_number (hr.mono (by decide)) (by rfl) D__law_number.g D__law_number.F.kp D__law_number.b .nil pass0 (pa_cons (pe_ix ix_list (pv 0) (pv 1) (fun _ _ => rfl)) (pa_cons pe_int (pa_cons (pv 2) pa_nil))))))))) (pss_one (ps_ret (pv 1))) pss_nil)))
  (pss_cons (ps_if (pt_cmpR op_gt (pe_callTy call_int_str (by rfl) T.n_int (by decide +kernel) (pa_cons (pe_ix ix_list (pv 0) pe_int (fun _ _ => rfl)) pa_nil)) (pe_callTy call_int_str (by rfl) T.n_int (by decide +kernel) (pa_cons (pe_ix ix_list (pv 0) pe_int (fun _ _ => rfl)) pa_nil)) (nomark _)) (pss_one (ps_ret pe_int)) pss_nil)
  (pss_one (ps_ret (pe_ifExp (pt_cmpR op_gt (pe_callB call_len_seq (by rfl) T.n_len (by decide +kernel) (pa_cons (pv 0) pa_nil)) pe_int (nomark _)) pe_int pe_non))))), ?_⟩
    repeat (first | (with_reducible refine st_tC ?_) | (with_reducible refine st_tOp ?_) | ((with_reducible apply st_n); rfl; rfl; (first | trivial | (show _ ≤ _; omega) | (show _ < _; omega) | (show _ ∨ _; omega) | assumption | exact ⟨by assumption, by omega⟩ | exact ⟨W30.one, by omega⟩ | fail); rfl) | (with_reducible refine st_i0 rfl rfl rfl ?_) | ((with_reducible refine st_i rfl rfl ?_ rfl ?_); first | omega | exact ⟨by decide, by decide, by decide⟩ | exact .inl ⟨by decide, by decide⟩ | exact .inl ⟨by omega, by omega⟩ | exact .inr ⟨by omega, by omega⟩ | fail) | ((fail_if_success refine Exists.intro (α := Nat → Nat → L2.St → Hp → Prop) ?_ ?_); (fail_if_success refine Exists.intro (α := L2.St → Hp → Prop) ?_ ?_); (fail_if_success refine Exists.intro (α := Nat → L2.St → Hp → Prop) ?_ ?_); apply Exists.intro) | ((refine And.intro ?_ ?_); first | with_reducible rfl | with_reducible assumption | rfl | ((with_reducible apply SqL.of); assumption) | ((with_reducible apply SqT.of); assumption) | ((with_reducible apply OwnC.cl); assumption) | (with_reducible exact isI_int _) | exact within_args | (with_reducible exact upd_same) | ((with_reducible apply Mid.o); assumption) | ((with_reducible apply Mid.t); assumption) | exact .inl ⟨rfl, _, SqL.of (by assumption)⟩ | (with_reducible exact ⟨_, SqT.of (by assumption)⟩) | (with_reducible exact ⟨_, SqL.of (by assumption)⟩) | omega | exact Nat.le_of_ble_eq_true rfl | exact nat9 (by omega) | exact ⟨_, rfl⟩ | (show _ ≤ sizeLine; decide) | exact ⟨by decide, by decide, by decide⟩ | exact .inl ⟨by decide, by decide⟩ | exact .inl ⟨by omega, by omega⟩ | exact .inr ⟨by omega, by omega⟩ | assumption | fail) | ((with_reducible refine iteF' ?_ ?_); first | rfl | exact decide_eq_false (by omega) | exact in_no (by omega) (by omega) | exact in_no (by omega) (by assumption) | (simp <;> fail) | fail) | ((with_reducible refine iteT' ?_ ?_); first | rfl | exact decide_eq_true (by omega) | (simp <;> fail) | fail))
    intro L h_L; generalize hE : upd _ L _ = H1; obtain ⟨S_L, g_L⟩ := new_facts h_L hE; clear hE
    repeat (first | (with_reducible refine st_tC ?_) | (with_reducible refine st_tOp ?_) | ((with_reducible apply st_n); rfl; rfl; (first | trivial | (show _ ≤ _; omega) | (show _ < _; omega) | (show _ ∨ _; omega) | assumption | exact ⟨by assumption, by omega⟩ | exact ⟨W30.one, by omega⟩ | fail); rfl) | (with_reducible refine st_i0 rfl rfl rfl ?_) | ((with_reducible refine st_i rfl rfl ?_ rfl ?_); first | omega | exact ⟨by decide, by decide, by decide⟩ | exact .inl ⟨by decide, by decide⟩ | exact .inl ⟨by omega, by omega⟩ | exact .inr ⟨by omega, by omega⟩ | fail) | ((fail_if_success refine Exists.intro (α := Nat → Nat → L2.St → Hp → Prop) ?_ ?_); (fail_if_success refine Exists.intro (α := L2.St → Hp → Prop) ?_ ?_); (fail_if_success refine Exists.intro (α := Nat → L2.St → Hp → Prop) ?_ ?_); apply Exists.intro) | ((refine And.intro ?_ ?_); first | with_reducible rfl | with_reducible assumption | rfl | ((with_reducible apply SqL.of); assumption) | ((with_reducible apply SqT.of); assumption) | ((with_reducible apply OwnC.cl); assumption) | (with_reducible exact isI_int _) | exact within_args | (with_reducible exact upd_same) | ((with_reducible apply Mid.o); assumption) | ((with_reducible apply Mid.t); assumption) | exact .inl ⟨rfl, _, SqL.of (by assumption)⟩ | (with_reducible exact ⟨_, SqT.of (by assumption)⟩) | (with_reducible exact ⟨_, SqL.of (by assumption)⟩) | omega | exact Nat.le_of_ble_eq_true rfl | exact nat9 (by omega) | exact ⟨_, rfl⟩ | (show _ ≤ sizeLine; decide) | exact ⟨by decide, by decide, by decide⟩ | exact .inl ⟨by decide, by decide⟩ | exact .inl ⟨by omega, by omega⟩ | exact .inr ⟨by omega, by omega⟩ | assumption | fail) | ((with_reducible refine iteF' ?_ ?_); first | rfl | exact decide_eq_false (by omega) | exact in_no (by omega) (by omega) | exact in_no (by omega) (by assumption) | (simp <;> fail) | fail) | ((with_reducible refine iteT' ?_ ?_); first | rfl | exact decide_eq_true (by omega) | (simp <;> fail) | fail))
    refine for_it (walk_enum (K := K) (a := L) (xs := [V.int 256, V.int 48, V.int 8])) (fun i σ H' => Same H1 H' ∧ Hid (∃ u1 u2 : Option V, (∀ j, j < i → ∃ n, numIn ys[j]? 1 (bnd j) = some n) ∧ σ = [some (.ref q), u1, u2])) ⟨.refl _, ⟨_, _, (fun j z => by omega), rfl⟩⟩ (fun i σ H' _ w => SqL.of (w.1 _ _ g_L)) ?_ ?_
    · rintro i y σ H' H'' hi ⟨S17, ⟨u1, u2, hj, rfl⟩⟩ ⟨Tq, a1, b1, rfl, hT, rfl, ea, eb⟩
      obtain rfl : V.int (i : Int) = a1 := Option.some.inj ea
      have i3 : i < 3 := hi
      obtain rfl : b1 = V.int (bnd i) := by
        match i, i3, eb with
        | 0, _, eb => exact (Option.some.inj eb).symm
        | 1, _, eb => exact (Option.some.inj eb).symm
        | 2, _, eb => exact (Option.some.inj eb).symm
      clear eb ea
      have S8 := same_new (o := .tup [V.int (i : Int), V.int (bnd i)]) hT
      have S18 := S17.trans S8
      refine ⟨Tq, _, rfl, SqT.of upd_same, rfl, _, _, rfl, _, _, rfl, rfl, ?_⟩
      generalize upd H' Tq _ = H8 at S8 S18 ⊢
      have Sq := S_L.trans S18
      have g8 := Sq _ _ g_q
      have sq8 : SqL K H8 q (ys.map V.str) ∨ SqT K H8 q (ys.map V.str) := .inl (SqL.of g8)
      clear S8 hT
      repeat (first | (with_reducible refine st_tC ?_) | (with_reducible refine st_tOp ?_) | ((with_reducible apply st_n); rfl; rfl; (first | trivial | (show _ ≤ _; omega) | (show _ < _; omega) | (show _ ∨ _; omega) | assumption | exact ⟨by assumption, by omega⟩ | exact ⟨W30.one, by omega⟩ | fail); rfl) | (with_reducible refine st_i0 rfl rfl rfl ?_) | ((with_reducible refine st_i rfl rfl ?_ rfl ?_); first | omega | exact ⟨by decide, by decide, by decide⟩ | exact .inl ⟨by decide, by decide⟩ | exact .inl ⟨by omega, by omega⟩ | exact .inr ⟨by omega, by omega⟩ | fail) | ((fail_if_success refine Exists.intro (α := Nat → Nat → L2.St → Hp → Prop) ?_ ?_); (fail_if_success refine Exists.intro (α := L2.St → Hp → Prop) ?_ ?_); (fail_if_success refine Exists.intro (α := Nat → L2.St → Hp → Prop) ?_ ?_); apply Exists.intro) | ((refine And.intro ?_ ?_); first | with_reducible rfl | with_reducible assumption | rfl | ((with_reducible apply SqL.of); assumption) | ((with_reducible apply SqT.of); assumption) | ((with_reducible apply OwnC.cl); assumption) | (with_reducible exact isI_int _) | exact within_args | (with_reducible exact upd_same) | ((with_reducible apply Mid.o); assumption) | ((with_reducible apply Mid.t); assumption) | exact .inl ⟨rfl, _, SqL.of (by assumption)⟩ | (with_reducible exact ⟨_, SqT.of (by assumption)⟩) | (with_reducible exact ⟨_, SqL.of (by assumption)⟩) | omega | exact Nat.le_of_ble_eq_true rfl | exact nat9 (by omega) | exact ⟨_, rfl⟩ | (show _ ≤ sizeLine; decide) | exact ⟨by decide, by decide, by decide⟩ | exact .inl ⟨by decide, by decide⟩ | exact .inl ⟨by omega, by omega⟩ | exact .inr ⟨by omega, by omega⟩ | assumption | fail) | ((with_reducible refine iteF' ?_ ?_); first | rfl | exact decide_eq_false (by omega) | exact in_no (by omega) (by omega) | exact in_no (by omega) (by assumption) | (simp <;> fail) | fail) | ((with_reducible refine iteT' ?_ ?_); first | rfl | exact decide_eq_true (by omega) | (simp <;> fail) | fail))
      by_cases il : i < ys.length
      · refine iteF' (decide_eq_false (by rw [List.length_map]; omega)) ?_
        have ey : ys[i]? = some ys[i] := List.getElem?_eq_getElem il
        obtain ⟨yl, ya⟩ := hL _ (List.getElem_mem il)
        generalize ys[i] = y at ey yl ya
        have sqq := SqL.of (K := K) g8
        have at8 : atI (ys.map V.str) (i : Int) = some (.str y) := atI_nat (by rw [List.getElem?_map, ey]; rfl)
        repeat (first | (refine ⟨y, 1, bnd i, rfl, yl, ya, ?_⟩) | (with_reducible refine st_tC ?_) | (with_reducible refine st_tOp ?_) | ((with_reducible apply st_n); rfl; rfl; (first | trivial | (show _ ≤ _; omega) | (show _ < _; omega) | (show _ ∨ _; omega) | assumption | exact ⟨by assumption, by omega⟩ | exact ⟨W30.one, by omega⟩ | fail); rfl) | (with_reducible refine st_i0 rfl rfl rfl ?_) | ((with_reducible refine st_i rfl rfl ?_ rfl ?_); first | omega | exact ⟨by decide, by decide, by decide⟩ | exact .inl ⟨by decide, by decide⟩ | exact .inl ⟨by omega, by omega⟩ | exact .inr ⟨by omega, by omega⟩ | fail) | ((fail_if_success refine Exists.intro (α := Nat → Nat → L2.St → Hp → Prop) ?_ ?_); (fail_if_success refine Exists.intro (α := L2.St → Hp → Prop) ?_ ?_); (fail_if_success refine Exists.intro (α := Nat → L2.St → Hp → Prop) ?_ ?_); apply Exists.intro) | ((refine And.intro ?_ ?_); first | with_reducible rfl | with_reducible assumption | rfl | ((with_reducible apply SqL.of); assumption) | ((with_reducible apply SqT.of); assumption) | ((with_reducible apply OwnC.cl); assumption) | (with_reducible exact isI_int _) | exact within_args | (with_reducible exact upd_same) | ((with_reducible apply Mid.o); assumption) | ((with_reducible apply Mid.t); assumption) | exact .inl ⟨rfl, _, SqL.of (by assumption)⟩ | (with_reducible exact ⟨_, SqT.of (by assumption)⟩) | (with_reducible exact ⟨_, SqL.of (by assumption)⟩) | omega | exact Nat.le_of_ble_eq_true rfl | exact nat9 (by omega) | exact ⟨_, rfl⟩ | (show _ ≤ sizeLine; decide) | exact ⟨by decide, by decide, by decide⟩ | exact .inl ⟨by decide, by decide⟩ | exact .inl ⟨by omega, by omega⟩ | exact .inr ⟨by omega, by omega⟩ | assumption | fail) | ((with_reducible refine iteF' ?_ ?_); first | rfl | exact decide_eq_false (by omega) | exact in_no (by omega) (by omega) | exact in_no (by omega) (by assumption) | (simp <;> fail) | fail) | ((with_reducible refine iteT' ?_ ?_); first | rfl | exact decide_eq_true (by omega) | (simp <;> fail) | fail))
        intro H9 S9
        rw [inR_numIn, ← ey]
        have S19 := S18.trans S9
        cases e : numIn ys[i]? 1 (bnd i) with
        | none =>
          have kk := k _ (Sq.trans S9)
          rw [due_at i3 hj e] at kk
          refine ⟨false, rfl, ?_⟩
          refine iteT ?_
          repeat (first | (with_reducible refine st_tC ?_) | (with_reducible refine st_tOp ?_) | ((with_reducible apply st_n); rfl; rfl; (first | trivial | (show _ ≤ _; omega) | (show _ < _; omega) | (show _ ∨ _; omega) | assumption | exact ⟨by assumption, by omega⟩ | exact ⟨W30.one, by omega⟩ | fail); rfl) | (with_reducible refine st_i0 rfl rfl rfl ?_) | ((with_reducible refine st_i rfl rfl ?_ rfl ?_); first | omega | exact ⟨by decide, by decide, by decide⟩ | exact .inl ⟨by decide, by decide⟩ | exact .inl ⟨by omega, by omega⟩ | exact .inr ⟨by omega, by omega⟩ | fail) | ((fail_if_success refine Exists.intro (α := Nat → Nat → L2.St → Hp → Prop) ?_ ?_); (fail_if_success refine Exists.intro (α := L2.St → Hp → Prop) ?_ ?_); (fail_if_success refine Exists.intro (α := Nat → L2.St → Hp → Prop) ?_ ?_); apply Exists.intro) | ((refine And.intro ?_ ?_); first | with_reducible rfl | with_reducible assumption | rfl | ((with_reducible apply SqL.of); assumption) | ((with_reducible apply SqT.of); assumption) | ((with_reducible apply OwnC.cl); assumption) | (with_reducible exact isI_int _) | exact within_args | (with_reducible exact upd_same) | ((with_reducible apply Mid.o); assumption) | ((with_reducible apply Mid.t); assumption) | exact .inl ⟨rfl, _, SqL.of (by assumption)⟩ | (with_reducible exact ⟨_, SqT.of (by assumption)⟩) | (with_reducible exact ⟨_, SqL.of (by assumption)⟩) | omega | exact Nat.le_of_ble_eq_true rfl | exact nat9 (by omega) | exact ⟨_, rfl⟩ | (show _ ≤ sizeLine; decide) | exact ⟨by decide, by decide, by decide⟩ | exact .inl ⟨by decide, by decide⟩ | exact .inl ⟨by omega, by omega⟩ | exact .inr ⟨by omega, by omega⟩ | assumption | fail) | ((with_reducible refine iteF' ?_ ?_); first | rfl | exact decide_eq_false (by omega) | exact in_no (by omega) (by omega) | exact in_no (by omega) (by assumption) | (simp <;> fail) | fail) | ((with_reducible refine iteT' ?_ ?_); first | rfl | exact decide_eq_true (by omega) | (simp <;> fail) | fail))
          exact kk
        | some n =>
          refine ⟨true, rfl, ?_⟩
          refine iteF ?_
          refine ⟨S19, ⟨_, _, fun j jl => ?_, rfl⟩⟩
          by_cases ji : j < i
          · exact hj j ji
          · obtain rfl : j = i := by omega
            exact ⟨n, e⟩
      · refine iteT' (decide_eq_true (by rw [List.length_map]; omega)) ?_
        have kk := k _ Sq
        rw [due_at i3 hj (numIn_no (List.getElem?_eq_none_iff.mpr (by omega)))] at kk
        repeat (first | (with_reducible refine st_tC ?_) | (with_reducible refine st_tOp ?_) | ((with_reducible apply st_n); rfl; rfl; (first | trivial | (show _ ≤ _; omega) | (show _ < _; omega) | (show _ ∨ _; omega) | assumption | exact ⟨by assumption, by omega⟩ | exact ⟨W30.one, by omega⟩ | fail); rfl) | (with_reducible refine st_i0 rfl rfl rfl ?_) | ((with_reducible refine st_i rfl rfl ?_ rfl ?_); first | omega | exact ⟨by decide, by decide, by decide⟩ | exact .inl ⟨by decide, by decide⟩ | exact .inl ⟨by omega, by omega⟩ | exact .inr ⟨by omega, by omega⟩ | fail) | ((fail_if_success refine Exists.intro (α := Nat → Nat → L2.St → Hp → Prop) ?_ ?_); (fail_if_success refine Exists.intro (α := L2.St → Hp → Prop) ?_ ?_); (fail_if_success refine Exists.intro (α := Nat → L2.St → Hp → Prop) ?_ ?_); apply Exists.intro) | ((refine And.intro ?_ ?_); first | with_reducible rfl | with_reducible assumption | rfl | ((with_reducible apply SqL.of); assumption) | ((with_reducible apply SqT.of); assumption) | ((with_reducible apply OwnC.cl); assumption) | (with_reducible exact isI_int _) | exact within_args | (with_reducible exact upd_same) | ((with_reducible apply Mid.o); assumption) | ((with_reducible apply Mid.t); assumption) | exact .inl ⟨rfl, _, SqL.of (by assumption)⟩ | (with_reducible exact ⟨_, SqT.of (by assumption)⟩) | (with_reducible exact ⟨_, SqL.of (by assumption)⟩) | omega | exact Nat.le_of_ble_eq_true rfl | exact nat9 (by omega) | exact ⟨_, rfl⟩ | (show _ ≤ sizeLine; decide) | exact ⟨by decide, by decide, by decide⟩ | exact .inl ⟨by decide, by decide⟩ | exact .inl ⟨by omega, by omega⟩ | exact .inr ⟨by omega, by omega⟩ | assumption | fail) | ((with_reducible refine iteF' ?_ ?_); first | rfl | exact decide_eq_false (by omega) | exact in_no (by omega) (by omega) | exact in_no (by omega) (by assumption) | (simp <;> fail) | fail) | ((with_reducible refine iteT' ?_ ?_); first | rfl | exact decide_eq_true (by omega) | (simp <;> fail) | fail))
        exact kk
    · rintro σ H' ⟨S17, ⟨u1, u2, hj, rfl⟩⟩
      have Sq := S_L.trans S17
      have g8 := Sq _ _ g_q
      have sq8 : SqL K H' q (ys.map V.str) ∨ SqT K H' q (ys.map V.str) := .inl (SqL.of g8)
      obtain ⟨c0, hc⟩ := hj 0 (by decide)
      obtain ⟨s0, hs⟩ := hj 1 (by decide)
      obtain ⟨m0, hm⟩ := hj 2 (by decide)
      have kk := k _ Sq
      rw [due_end hc hs hm] at kk
      obtain ⟨a1, a2, a3, a4⟩ := numIn_some hc
      obtain ⟨b1, b2, b3, b4⟩ := numIn_some hm
      obtain ⟨t1, l1⟩ := int_txt a2
      obtain ⟨t2, l2⟩ := int_txt b2
      have at0 : atI (ys.map V.str) 0 = some (.str (ds c0)) := atI_nat (j := 0) (by rw [List.getElem?_map, a1]; rfl)
      have at2 : atI (ys.map V.str) 2 = some (.str (ds m0)) := atI_nat (j := 2) (by rw [List.getElem?_map, b1]; rfl)
      have sqq := SqL.of (K := K) g8
      have l1' : (ds c0).length ≤ 640 := by omega
      have l2' : (ds m0).length ≤ 640 := by omega
      repeat (first | (with_reducible refine st_tC ?_) | (with_reducible refine st_tOp ?_) | ((with_reducible apply st_n); rfl; rfl; (first | trivial | (show _ ≤ _; omega) | (show _ < _; omega) | (show _ ∨ _; omega) | assumption | exact ⟨by assumption, by omega⟩ | exact ⟨W30.one, by omega⟩ | fail); rfl) | (with_reducible refine st_i0 rfl rfl rfl ?_) | ((with_reducible refine st_i rfl rfl ?_ rfl ?_); first | omega | exact ⟨by decide, by decide, by decide⟩ | exact .inl ⟨by decide, by decide⟩ | exact .inl ⟨by omega, by omega⟩ | exact .inr ⟨by omega, by omega⟩ | fail) | ((fail_if_success refine Exists.intro (α := Nat → Nat → L2.St → Hp → Prop) ?_ ?_); (fail_if_success refine Exists.intro (α := L2.St → Hp → Prop) ?_ ?_); (fail_if_success refine Exists.intro (α := Nat → L2.St → Hp → Prop) ?_ ?_); apply Exists.intro) | ((refine And.intro ?_ ?_); first | with_reducible rfl | with_reducible assumption | rfl | ((with_reducible apply SqL.of); assumption) | ((with_reducible apply SqT.of); assumption) | ((with_reducible apply OwnC.cl); assumption) | (with_reducible exact isI_int _) | exact within_args | (with_reducible exact upd_same) | ((with_reducible apply Mid.o); assumption) | ((with_reducible apply Mid.t); assumption) | exact .inl ⟨rfl, _, SqL.of (by assumption)⟩ | (with_reducible exact ⟨_, SqT.of (by assumption)⟩) | (with_reducible exact ⟨_, SqL.of (by assumption)⟩) | omega | exact Nat.le_of_ble_eq_true rfl | exact nat9 (by omega) | exact ⟨_, rfl⟩ | (show _ ≤ sizeLine; decide) | exact ⟨by decide, by decide, by decide⟩ | exact .inl ⟨by decide, by decide⟩ | exact .inl ⟨by omega, by omega⟩ | exact .inr ⟨by omega, by omega⟩ | assumption | fail) | ((with_reducible refine iteF' ?_ ?_); first | rfl | exact decide_eq_false (by omega) | exact in_no (by omega) (by omega) | exact in_no (by omega) (by assumption) | (simp <;> fail) | fail) | ((with_reducible refine iteT' ?_ ?_); first | rfl | exact decide_eq_true (by omega) | (simp <;> fail) | fail))
      by_cases hcm : c0 < m0
      · rw [if_pos hcm] at kk
        refine iteT' (decide_eq_true (by omega)) ?_
        exact kk
      · rw [if_neg hcm] at kk
        refine iteF' (decide_eq_false (by omega)) ?_
        repeat (first | (with_reducible refine st_tC ?_) | (with_reducible refine st_tOp ?_) | ((with_reducible apply st_n); rfl; rfl; (first | trivial | (show _ ≤ _; omega) | (show _ < _; omega) | (show _ ∨ _; omega) | assumption | exact ⟨by assumption, by omega⟩ | exact ⟨W30.one, by omega⟩ | fail); rfl) | (with_reducible refine st_i0 rfl rfl rfl ?_) | ((with_reducible refine st_i rfl rfl ?_ rfl ?_); first | omega | exact ⟨by decide, by decide, by decide⟩ | exact .inl ⟨by decide, by decide⟩ | exact .inl ⟨by omega, by omega⟩ | exact .inr ⟨by omega, by omega⟩ | fail) | ((fail_if_success refine Exists.intro (α := Nat → Nat → L2.St → Hp → Prop) ?_ ?_); (fail_if_success refine Exists.intro (α := L2.St → Hp → Prop) ?_ ?_); (fail_if_success refine Exists.intro (α := Nat → L2.St → Hp → Prop) ?_ ?_); apply Exists.intro) | ((refine And.intro ?_ ?_); first | with_reducible rfl | with_reducible assumption | rfl | ((with_reducible apply SqL.of); assumption) | ((with_reducible apply SqT.of); assumption) | ((with_reducible apply OwnC.cl); assumption) | (with_reducible exact isI_int _) | exact within_args | (with_reducible exact upd_same) | ((with_reducible apply Mid.o); assumption) | ((with_reducible apply Mid.t); assumption) | exact .inl ⟨rfl, _, SqL.of (by assumption)⟩ | (with_reducible exact ⟨_, SqT.of (by assumption)⟩) | (with_reducible exact ⟨_, SqL.of (by assumption)⟩) | omega | exact Nat.le_of_ble_eq_true rfl | exact nat9 (by omega) | exact ⟨_, rfl⟩ | (show _ ≤ sizeLine; decide) | exact ⟨by decide, by decide, by decide⟩ | exact .inl ⟨by decide, by decide⟩ | exact .inl ⟨by omega, by omega⟩ | exact .inr ⟨by omega, by omega⟩ | assumption | fail) | ((with_reducible refine iteF' ?_ ?_); first | rfl | exact decide_eq_false (by omega) | exact in_no (by omega) (by omega) | exact in_no (by omega) (by assumption) | (simp <;> fail) | fail) | ((with_reducible refine iteT' ?_ ?_); first | rfl | exact decide_eq_true (by omega) | (simp <;> fail) | fail))
        by_cases l3 : ys.length ≤ 3
        · rw [if_pos l3] at kk
          refine iteF' (decide_eq_false (by rw [List.length_map]; omega)) ?_
          exact kk
        · rw [if_neg l3] at kk
          refine iteT' (decide_eq_true (by rw [List.length_map]; omega)) ?_
          exact kk
end
end K53
namespace K53
open PySem PySem.Spec PyProof.Rows L2 OB SkE LamX
/-- what stands but for the draws' own list -/
structure Bt (p : Addr) (H0 H : Hp) : Prop where
  b : But p H0 H
theorem Bt.same {p : Addr} {H0 H H' : Hp} (t : Bt p H0 H) (s : Same H H') : Bt p H0 H' := ⟨t.b.trans (But.of s)⟩
theorem Bt.but {p : Addr} {H0 H H' : Hp} {xs : List V} (t : Bt p H0 H) (s : But p H H') (_ : H p = some (.lst xs)) : Bt p H0 H' := ⟨t.b.trans s⟩
theorem Mid.none {p b n : Addr} {H : Hp} (O : Orch H p b n) : Mid [] p b n H := ⟨O, fun x hx => absurd hx List.not_mem_nil⟩
theorem cut_to (xs : List V) (i : Nat) : cutV xs none (some (i : Int)) = xs.take i := by
  unfold cutV
  have a : HT.sIx xs.length 0 none = 0 := rfl
  have e : HT.sIx xs.length xs.length (some (i : Int)) = min i xs.length := HT.sIx_nat _ _ i
  rw [a, e, List.drop_zero, Nat.sub_zero]
  by_cases h : i ≤ xs.length
  · rw [Nat.min_eq_left h]
  · rw [Nat.min_eq_right (by omega), List.take_length, List.take_of_length_le (by omega)]
theorem cut_from (xs : List V) (i : Nat) : cutV xs (some (i : Int)) none = xs.drop i := by
  unfold cutV
  have a : HT.sIx xs.length xs.length none = xs.length := rfl
  have e : HT.sIx xs.length 0 (some (i : Int)) = min i xs.length := HT.sIx_nat _ _ i
  rw [a, e]
  by_cases h : i ≤ xs.length
  · rw [Nat.min_eq_left h, List.take_of_length_le (by rw [List.length_drop]; exact Nat.le_refl _)]
  · rw [Nat.min_eq_right (by omega), List.drop_length, List.take_nil, List.drop_of_length_le (by omega)]
theorem cut_from1 (xs : List V) (i : Nat) : cutV xs (some ((i : Int) + 1)) none = xs.drop (i + 1) := cut_from xs (i + 1)
def okS (s : Str) : Prop := MN.asc s ∧ s.length ≤ 5000
theorem lit {s : Str} (h : (MT.cs s).all (fun c => decide (c < 256)) = true) (h2 : s.length ≤ 5000) : okS s := ⟨fun c hc => of_decide_eq_true (List.all_eq_true.mp h c hc), h2⟩
def spBent : Sp := fun vs H Q _ => ∃ (p b n : Nat), vs = [.ref p] ∧ Orch H p b n ∧ n + 6 < 1000000 ∧ ∀ z H', MN.asc z → z.length ≤ 30000 → Orch H' p b (n + 6) → But p H H' → Q (.str z) H'
section
variable {P : Program} {w : World} {K : PySem.W.Frag} {mg : Str → Option Value} {base : Heap}
theorem sc__law_bent : FnScope ["shed", "items", "at", "way", "odd"] ["shed"] (defScope s__law_bent) := ⟨rfl, rfl, rfl, by decide +kernel, rfl, by decide +kernel, by decide +kernel⟩
abbrev N__law_bent : List Str := ["shed", "items", "at", "way", "odd"]
theorem ok__law_bent {f f1 f2 : Addr} {fd fd1 fd2 : FuncData} (F : Fun K "_law_bent" "_law_bent" s__law_bent f fd) (T : Blt mg) (D__law_hang : Df K mg "_law_hang" s__law_hang ["shed", "many"] f1 fd1) (D__law_pick : Df K mg "_law_pick" s__law_pick ["shed", "some"] f2 fd2) : FnOk P w K mg base CX0 3 f fd ["shed"] spBent := by
  have G__law_hang : FnOk P w K mg base CX0 1 f1 fd1 ["shed", "many"] spDraw := ok__law_hang D__law_hang.F T
  have G__law_pick : FnOk P w K mg base CX0 2 f2 fd2 ["shed", "some"] spOne := ok__law_pick D__law_pick.F T D__law_hang
  refine F.ok sc__law_bent (fun vs H Q E h => ?_) (fun cdv A outer s H vs Q E hr h => ?_)
  · obtain ⟨p, b, n, rfl, _⟩ := h
    rfl
  · obtain ⟨p, b, n, rfl, O, hn, k⟩ := h
    refine ⟨_, (pss_cons (ps_set (i := 1) sc__law_bent.nd rfl (Or.inl rfl) (pe_lst (pa_cons (pe_callTy call_str_int (by rfl) T.n_str (by decide +kernel) (pa_cons (pe_op op_add pe_int (pe_call G__law_hang (hr.mono (by decide)) (by rfl) D__law_hang.g D__law_hang.F.kp D__law_hang.b .nil pass0 (pa_cons (pv 0) (pa_cons pe_int pa_nil)))) pa_nil)) (pa_cons (pe_callTy call_str_int (by rfl) T.n_str (by decide +kernel) (pa_cons (pe_op op_add pe_int (pe_call G__law_hang (hr.mono (by decide)) (by rfl) D__law_hang.g D__law_hang.F.kp D__law_hang.b .nil pass0 (pa_cons (pv 0) (pa_cons pe_int pa_nil)))) pa_nil)) (pa_cons (pe_callTy call_str_int (by rfl) T.n_str (by decide +kernel) (pa_cons (pe_op op_add pe_int (pe_call G__law_hang (hr.mono (by decide)) (by rfl) D__law_hang.g D__law_hang.F.kp D__law_hang.b .nil pass0 (pa_cons (pv 0) (pa_cons pe_int pa_nil)))) pa_nil)) pa_nil)))))
  (pss_cons (ps_par (i := 2) (j := 3) (by rfl) sc__law_bent.nd rfl rfl (by decide) rfl rfl (pa_cons (pe_call G__law_hang (hr.mono (by decide)) (by rfl) D__law_hang.g D__law_hang.F.kp D__law_hang.b .nil pass0 (pa_cons (pv 0) (pa_cons pe_int pa_nil))) (pa_cons (pe_call G__law_hang (hr.mono (by decide)) (by rfl) D__law_hang.g D__law_hang.F.kp D__law_hang.b .nil pass0 (pa_cons (pv 0) (pa_cons pe_int pa_nil))) pa_nil)) (by rfl))
  (pss_cons (ps_set (i := 4) sc__law_bent.nd rfl (Or.inl rfl) (pe_call G__law_pick (hr.mono (by decide)) (by rfl) D__law_pick.g D__law_pick.F.kp D__law_pick.b .nil pass0 (pa_cons (pv 0) (pa_cons (pe_lst (pa_cons pe_str (pa_cons pe_str (pa_cons pe_str (pa_cons pe_str (pa_cons pe_str (pa_cons pe_str (pa_cons pe_str (pa_cons pe_str (pa_cons pe_str (pa_cons pe_str (pa_cons pe_str (pa_cons pe_str (pa_cons pe_str (pa_cons (pe_op op_mulS pe_str pe_int) (pa_cons (pe_op op_mulS pe_str pe_int) (pa_cons (pe_op op_mulS pe_str pe_int) (pa_cons pe_str (pa_cons pe_str (pa_cons pe_str pa_nil)))))))))))))))))))) pa_nil))))
  (pss_cons (ps_if (pt_cmpR op_eq (pv 3) pe_int (nomark _)) (pss_one (ps_ret (pe_join pe_str (pe_op op_cat (pe_op op_cat (pe_slice sl_list (pv 1) po_none (po_some (pv 2))) (pe_lst (pa_cons (pv 4) pa_nil))) (pe_slice sl_list (pv 1) (po_some (pv 2)) po_none))))) pss_nil)
  (pss_cons (ps_if (pt_cmpR op_eq (pv 3) pe_int (nomark _)) (pss_one (ps_ret (pe_join pe_str (pe_op op_cat (pe_slice sl_list (pv 1) po_none (po_some (pv 2))) (pe_slice sl_list (pv 1) (po_some (pe_op op_add (pv 2) pe_int)) po_none))))) pss_nil)
  (pss_cons (ps_if (pt_cmpR op_eq (pv 3) pe_int (nomark _)) (pss_one (ps_ret (pe_join pe_str (pe_op op_cat (pv 1) (pe_lst (pa_cons (pv 4) pa_nil)))))) pss_nil)
  (pss_one (ps_ret (pe_join pe_str (pe_op op_cat (pe_op op_cat (pe_slice sl_list (pv 1) po_none (po_some (pv 2))) (pe_lst (pa_cons (pv 4) pa_nil))) (pe_slice sl_list (pv 1) (po_some (pe_op op_add (pv 2) pe_int)) po_none))))))))))), ?_⟩
    have M := Mid.none O
    have bt : Bt p H H := ⟨But.of (.refl _)⟩
    have lg : ∀ n : Nat, n < 1000 → ((n : Nat) : Int).natAbs.log2 < 1920 := fun n hn => by
      rw [Int.natAbs_natCast]
      exact Nat.lt_of_le_of_lt (Nat.log2_le_self n) (by omega)
    repeat (first | (with_reducible refine st_tC ?_) | (with_reducible refine st_tOp ?_) | ((with_reducible apply st_n); rfl; rfl; (first | trivial | (show _ ≤ _; omega) | (show _ < _; omega) | (show _ ∨ _; omega) | assumption | exact ⟨by assumption, by omega⟩ | exact ⟨W30.one, by omega⟩ | fail); rfl) | (with_reducible refine st_i0 rfl rfl rfl ?_) | ((with_reducible refine st_i rfl rfl ?_ rfl ?_); first | omega | exact ⟨by decide, by decide, by decide⟩ | exact .inl ⟨by decide, by decide⟩ | exact .inl ⟨by omega, by omega⟩ | exact .inr ⟨by omega, by omega⟩ | fail) | ((fail_if_success refine Exists.intro (α := Nat → Nat → L2.St → Hp → Prop) ?_ ?_); (fail_if_success refine Exists.intro (α := L2.St → Hp → Prop) ?_ ?_); (fail_if_success refine Exists.intro (α := Nat → L2.St → Hp → Prop) ?_ ?_); apply Exists.intro) | ((refine And.intro ?_ ?_); first | with_reducible rfl | with_reducible assumption | rfl | ((with_reducible apply SqL.of); assumption) | ((with_reducible apply SqT.of); assumption) | ((with_reducible apply OwnC.cl); assumption) | (with_reducible exact isI_int _) | exact within_args | (with_reducible exact upd_same) | ((with_reducible apply Mid.o); assumption) | ((with_reducible apply Mid.t); assumption) | exact .inl ⟨rfl, _, SqL.of (by assumption)⟩ | (with_reducible exact ⟨_, SqT.of (by assumption)⟩) | (with_reducible exact ⟨_, SqL.of (by assumption)⟩) | omega | exact Nat.le_of_ble_eq_true rfl | exact nat9 (by omega) | exact ⟨_, rfl⟩ | (show _ ≤ sizeLine; decide) | exact ⟨by decide, by decide, by decide⟩ | exact .inl ⟨by decide, by decide⟩ | exact .inl ⟨by omega, by omega⟩ | exact .inr ⟨by omega, by omega⟩ | assumption | fail) | ((with_reducible refine iteF' ?_ ?_); first | rfl | exact decide_eq_false (by omega) | exact in_no (by omega) (by omega) | exact in_no (by omega) (by assumption) | (simp <;> fail) | fail) | ((with_reducible refine iteT' ?_ ?_); first | rfl | exact decide_eq_true (by omega) | (simp <;> fail) | fail))
    intro r1 H1 r10 r11 O_r1 B_r1; obtain ⟨_, _, _, hpX, _⟩ := id M.o; replace bt := bt.but B_r1 hpX; replace M := M.draw O_r1 B_r1; obtain ⟨r1, rfl⟩ := Int.eq_ofNat_of_zero_le r10; clear O_r1 B_r1
    repeat (first | (with_reducible refine st_tC ?_) | (with_reducible refine st_tOp ?_) | ((with_reducible apply st_n); rfl; rfl; (first | trivial | (show _ ≤ _; omega) | (show _ < _; omega) | (show _ ∨ _; omega) | assumption | exact ⟨by assumption, by omega⟩ | exact ⟨W30.one, by omega⟩ | fail); rfl) | (with_reducible refine st_i0 rfl rfl rfl ?_) | ((with_reducible refine st_i rfl rfl ?_ rfl ?_); first | omega | exact ⟨by decide, by decide, by decide⟩ | exact .inl ⟨by decide, by decide⟩ | exact .inl ⟨by omega, by omega⟩ | exact .inr ⟨by omega, by omega⟩ | fail) | ((fail_if_success refine Exists.intro (α := Nat → Nat → L2.St → Hp → Prop) ?_ ?_); (fail_if_success refine Exists.intro (α := L2.St → Hp → Prop) ?_ ?_); (fail_if_success refine Exists.intro (α := Nat → L2.St → Hp → Prop) ?_ ?_); apply Exists.intro) | ((refine And.intro ?_ ?_); first | with_reducible rfl | with_reducible assumption | rfl | ((with_reducible apply SqL.of); assumption) | ((with_reducible apply SqT.of); assumption) | ((with_reducible apply OwnC.cl); assumption) | (with_reducible exact isI_int _) | exact within_args | (with_reducible exact upd_same) | ((with_reducible apply Mid.o); assumption) | ((with_reducible apply Mid.t); assumption) | exact .inl ⟨rfl, _, SqL.of (by assumption)⟩ | (with_reducible exact ⟨_, SqT.of (by assumption)⟩) | (with_reducible exact ⟨_, SqL.of (by assumption)⟩) | omega | exact Nat.le_of_ble_eq_true rfl | exact nat9 (by omega) | exact ⟨_, rfl⟩ | (show _ ≤ sizeLine; decide) | exact ⟨by decide, by decide, by decide⟩ | exact .inl ⟨by decide, by decide⟩ | exact .inl ⟨by omega, by omega⟩ | exact .inr ⟨by omega, by omega⟩ | assumption | fail) | ((with_reducible refine iteF' ?_ ?_); first | rfl | exact decide_eq_false (by omega) | exact in_no (by omega) (by omega) | exact in_no (by omega) (by assumption) | (simp <;> fail) | fail) | ((with_reducible refine iteT' ?_ ?_); first | rfl | exact decide_eq_true (by omega) | (simp <;> fail) | fail))
    rw [show (1 + (r1 : Int)) = ((1 + r1 : Nat) : Int) by omega]
    refine ⟨lg _ (by omega), ?_⟩
    repeat (first | (with_reducible refine st_tC ?_) | (with_reducible refine st_tOp ?_) | ((with_reducible apply st_n); rfl; rfl; (first | trivial | (show _ ≤ _; omega) | (show _ < _; omega) | (show _ ∨ _; omega) | assumption | exact ⟨by assumption, by omega⟩ | exact ⟨W30.one, by omega⟩ | fail); rfl) | (with_reducible refine st_i0 rfl rfl rfl ?_) | ((with_reducible refine st_i rfl rfl ?_ rfl ?_); first | omega | exact ⟨by decide, by decide, by decide⟩ | exact .inl ⟨by decide, by decide⟩ | exact .inl ⟨by omega, by omega⟩ | exact .inr ⟨by omega, by omega⟩ | fail) | ((fail_if_success refine Exists.intro (α := Nat → Nat → L2.St → Hp → Prop) ?_ ?_); (fail_if_success refine Exists.intro (α := L2.St → Hp → Prop) ?_ ?_); (fail_if_success refine Exists.intro (α := Nat → L2.St → Hp → Prop) ?_ ?_); apply Exists.intro) | ((refine And.intro ?_ ?_); first | with_reducible rfl | with_reducible assumption | rfl | ((with_reducible apply SqL.of); assumption) | ((with_reducible apply SqT.of); assumption) | ((with_reducible apply OwnC.cl); assumption) | (with_reducible exact isI_int _) | exact within_args | (with_reducible exact upd_same) | ((with_reducible apply Mid.o); assumption) | ((with_reducible apply Mid.t); assumption) | exact .inl ⟨rfl, _, SqL.of (by assumption)⟩ | (with_reducible exact ⟨_, SqT.of (by assumption)⟩) | (with_reducible exact ⟨_, SqL.of (by assumption)⟩) | omega | exact Nat.le_of_ble_eq_true rfl | exact nat9 (by omega) | exact ⟨_, rfl⟩ | (show _ ≤ sizeLine; decide) | exact ⟨by decide, by decide, by decide⟩ | exact .inl ⟨by decide, by decide⟩ | exact .inl ⟨by omega, by omega⟩ | exact .inr ⟨by omega, by omega⟩ | assumption | fail) | ((with_reducible refine iteF' ?_ ?_); first | rfl | exact decide_eq_false (by omega) | exact in_no (by omega) (by omega) | exact in_no (by omega) (by assumption) | (simp <;> fail) | fail) | ((with_reducible refine iteT' ?_ ?_); first | rfl | exact decide_eq_true (by omega) | (simp <;> fail) | fail))
    intro r2 H2 r20 r21 O_r2 B_r2; obtain ⟨_, _, _, hpX, _⟩ := id M.o; replace bt := bt.but B_r2 hpX; replace M := M.draw O_r2 B_r2; obtain ⟨r2, rfl⟩ := Int.eq_ofNat_of_zero_le r20; clear O_r2 B_r2
    repeat (first | (with_reducible refine st_tC ?_) | (with_reducible refine st_tOp ?_) | ((with_reducible apply st_n); rfl; rfl; (first | trivial | (show _ ≤ _; omega) | (show _ < _; omega) | (show _ ∨ _; omega) | assumption | exact ⟨by assumption, by omega⟩ | exact ⟨W30.one, by omega⟩ | fail); rfl) | (with_reducible refine st_i0 rfl rfl rfl ?_) | ((with_reducible refine st_i rfl rfl ?_ rfl ?_); first | omega | exact ⟨by decide, by decide, by decide⟩ | exact .inl ⟨by decide, by decide⟩ | exact .inl ⟨by omega, by omega⟩ | exact .inr ⟨by omega, by omega⟩ | fail) | ((fail_if_success refine Exists.intro (α := Nat → Nat → L2.St → Hp → Prop) ?_ ?_); (fail_if_success refine Exists.intro (α := L2.St → Hp → Prop) ?_ ?_); (fail_if_success refine Exists.intro (α := Nat → L2.St → Hp → Prop) ?_ ?_); apply Exists.intro) | ((refine And.intro ?_ ?_); first | with_reducible rfl | with_reducible assumption | rfl | ((with_reducible apply SqL.of); assumption) | ((with_reducible apply SqT.of); assumption) | ((with_reducible apply OwnC.cl); assumption) | (with_reducible exact isI_int _) | exact within_args | (with_reducible exact upd_same) | ((with_reducible apply Mid.o); assumption) | ((with_reducible apply Mid.t); assumption) | exact .inl ⟨rfl, _, SqL.of (by assumption)⟩ | (with_reducible exact ⟨_, SqT.of (by assumption)⟩) | (with_reducible exact ⟨_, SqL.of (by assumption)⟩) | omega | exact Nat.le_of_ble_eq_true rfl | exact nat9 (by omega) | exact ⟨_, rfl⟩ | (show _ ≤ sizeLine; decide) | exact ⟨by decide, by decide, by decide⟩ | exact .inl ⟨by decide, by decide⟩ | exact .inl ⟨by omega, by omega⟩ | exact .inr ⟨by omega, by omega⟩ | assumption | fail) | ((with_reducible refine iteF' ?_ ?_); first | rfl | exact decide_eq_false (by omega) | exact in_no (by omega) (by omega) | exact in_no (by omega) (by assumption) | (simp <;> fail) | fail) | ((with_reducible refine iteT' ?_ ?_); first | rfl | exact decide_eq_true (by omega) | (simp <;> fail) | fail))
    rw [show (1 + (r2 : Int)) = ((1 + r2 : Nat) : Int) by omega]
    refine ⟨lg _ (by omega), ?_⟩
    repeat (first | (with_reducible refine st_tC ?_) | (with_reducible refine st_tOp ?_) | ((with_reducible apply st_n); rfl; rfl; (first | trivial | (show _ ≤ _; omega) | (show _ < _; omega) | (show _ ∨ _; omega) | assumption | exact ⟨by assumption, by omega⟩ | exact ⟨W30.one, by omega⟩ | fail); rfl) | (with_reducible refine st_i0 rfl rfl rfl ?_) | ((with_reducible refine st_i rfl rfl ?_ rfl ?_); first | omega | exact ⟨by decide, by decide, by decide⟩ | exact .inl ⟨by decide, by decide⟩ | exact .inl ⟨by omega, by omega⟩ | exact .inr ⟨by omega, by omega⟩ | fail) | ((fail_if_success refine Exists.intro (α := Nat → Nat → L2.St → Hp → Prop) ?_ ?_); (fail_if_success refine Exists.intro (α := L2.St → Hp → Prop) ?_ ?_); (fail_if_success refine Exists.intro (α := Nat → L2.St → Hp → Prop) ?_ ?_); apply Exists.intro) | ((refine And.intro ?_ ?_); first | with_reducible rfl | with_reducible assumption | rfl | ((with_reducible apply SqL.of); assumption) | ((with_reducible apply SqT.of); assumption) | ((with_reducible apply OwnC.cl); assumption) | (with_reducible exact isI_int _) | exact within_args | (with_reducible exact upd_same) | ((with_reducible apply Mid.o); assumption) | ((with_reducible apply Mid.t); assumption) | exact .inl ⟨rfl, _, SqL.of (by assumption)⟩ | (with_reducible exact ⟨_, SqT.of (by assumption)⟩) | (with_reducible exact ⟨_, SqL.of (by assumption)⟩) | omega | exact Nat.le_of_ble_eq_true rfl | exact nat9 (by omega) | exact ⟨_, rfl⟩ | (show _ ≤ sizeLine; decide) | exact ⟨by decide, by decide, by decide⟩ | exact .inl ⟨by decide, by decide⟩ | exact .inl ⟨by omega, by omega⟩ | exact .inr ⟨by omega, by omega⟩ | assumption | fail) | ((with_reducible refine iteF' ?_ ?_); first | rfl | exact decide_eq_false (by omega) | exact in_no (by omega) (by omega) | exact in_no (by omega) (by assumption) | (simp <;> fail) | fail) | ((with_reducible refine iteT' ?_ ?_); first | rfl | exact decide_eq_true (by omega) | (simp <;> fail) | fail))
    intro r3 H3 r30 r31 O_r3 B_r3; obtain ⟨_, _, _, hpX, _⟩ := id M.o; replace bt := bt.but B_r3 hpX; replace M := M.draw O_r3 B_r3; obtain ⟨r3, rfl⟩ := Int.eq_ofNat_of_zero_le r30; clear O_r3 B_r3
    repeat (first | (with_reducible refine st_tC ?_) | (with_reducible refine st_tOp ?_) | ((with_reducible apply st_n); rfl; rfl; (first | trivial | (show _ ≤ _; omega) | (show _ < _; omega) | (show _ ∨ _; omega) | assumption | exact ⟨by assumption, by omega⟩ | exact ⟨W30.one, by omega⟩ | fail); rfl) | (with_reducible refine st_i0 rfl rfl rfl ?_) | ((with_reducible refine st_i rfl rfl ?_ rfl ?_); first | omega | exact ⟨by decide, by decide, by decide⟩ | exact .inl ⟨by decide, by decide⟩ | exact .inl ⟨by omega, by omega⟩ | exact .inr ⟨by omega, by omega⟩ | fail) | ((fail_if_success refine Exists.intro (α := Nat → Nat → L2.St → Hp → Prop) ?_ ?_); (fail_if_success refine Exists.intro (α := L2.St → Hp → Prop) ?_ ?_); (fail_if_success refine Exists.intro (α := Nat → L2.St → Hp → Prop) ?_ ?_); apply Exists.intro) | ((refine And.intro ?_ ?_); first | with_reducible rfl | with_reducible assumption | rfl | ((with_reducible apply SqL.of); assumption) | ((with_reducible apply SqT.of); assumption) | ((with_reducible apply OwnC.cl); assumption) | (with_reducible exact isI_int _) | exact within_args | (with_reducible exact upd_same) | ((with_reducible apply Mid.o); assumption) | ((with_reducible apply Mid.t); assumption) | exact .inl ⟨rfl, _, SqL.of (by assumption)⟩ | (with_reducible exact ⟨_, SqT.of (by assumption)⟩) | (with_reducible exact ⟨_, SqL.of (by assumption)⟩) | omega | exact Nat.le_of_ble_eq_true rfl | exact nat9 (by omega) | exact ⟨_, rfl⟩ | (show _ ≤ sizeLine; decide) | exact ⟨by decide, by decide, by decide⟩ | exact .inl ⟨by decide, by decide⟩ | exact .inl ⟨by omega, by omega⟩ | exact .inr ⟨by omega, by omega⟩ | assumption | fail) | ((with_reducible refine iteF' ?_ ?_); first | rfl | exact decide_eq_false (by omega) | exact in_no (by omega) (by omega) | exact in_no (by omega) (by assumption) | (simp <;> fail) | fail) | ((with_reducible refine iteT' ?_ ?_); first | rfl | exact decide_eq_true (by omega) | (simp <;> fail) | fail))
    rw [show (1 + (r3 : Int)) = ((1 + r3 : Nat) : Int) by omega]
    refine ⟨lg _ (by omega), ?_⟩
    repeat (first | (with_reducible refine st_tC ?_) | (with_reducible refine st_tOp ?_) | ((with_reducible apply st_n); rfl; rfl; (first | trivial | (show _ ≤ _; omega) | (show _ < _; omega) | (show _ ∨ _; omega) | assumption | exact ⟨by assumption, by omega⟩ | exact ⟨W30.one, by omega⟩ | fail); rfl) | (with_reducible refine st_i0 rfl rfl rfl ?_) | ((with_reducible refine st_i rfl rfl ?_ rfl ?_); first | omega | exact ⟨by decide, by decide, by decide⟩ | exact .inl ⟨by decide, by decide⟩ | exact .inl ⟨by omega, by omega⟩ | exact .inr ⟨by omega, by omega⟩ | fail) | ((fail_if_success refine Exists.intro (α := Nat → Nat → L2.St → Hp → Prop) ?_ ?_); (fail_if_success refine Exists.intro (α := L2.St → Hp → Prop) ?_ ?_); (fail_if_success refine Exists.intro (α := Nat → L2.St → Hp → Prop) ?_ ?_); apply Exists.intro) | ((refine And.intro ?_ ?_); first | with_reducible rfl | with_reducible assumption | rfl | ((with_reducible apply SqL.of); assumption) | ((with_reducible apply SqT.of); assumption) | ((with_reducible apply OwnC.cl); assumption) | (with_reducible exact isI_int _) | exact within_args | (with_reducible exact upd_same) | ((with_reducible apply Mid.o); assumption) | ((with_reducible apply Mid.t); assumption) | exact .inl ⟨rfl, _, SqL.of (by assumption)⟩ | (with_reducible exact ⟨_, SqT.of (by assumption)⟩) | (with_reducible exact ⟨_, SqL.of (by assumption)⟩) | omega | exact Nat.le_of_ble_eq_true rfl | exact nat9 (by omega) | exact ⟨_, rfl⟩ | (show _ ≤ sizeLine; decide) | exact ⟨by decide, by decide, by decide⟩ | exact .inl ⟨by decide, by decide⟩ | exact .inl ⟨by omega, by omega⟩ | exact .inr ⟨by omega, by omega⟩ | assumption | fail) | ((with_reducible refine iteF' ?_ ?_); first | rfl | exact decide_eq_false (by omega) | exact in_no (by omega) (by omega) | exact in_no (by omega) (by assumption) | (simp <;> fail) | fail) | ((with_reducible refine iteT' ?_ ?_); first | rfl | exact decide_eq_true (by omega) | (simp <;> fail) | fail))
    intro it h_it; have np_it := M.pD h_it; have nb_it := M.bD h_it; generalize hE : upd _ it _ = H4; obtain ⟨S_it, g_it⟩ := new_facts h_it hE; clear hE; replace M := M.same S_it; replace bt := bt.same S_it
    have oA : ∀ n, n < 1000 → okS (ds n) := fun n h => ⟨MN.asc_ds _, by have := ds_short h; omega⟩
    have oy : ∀ y ∈ [ds (1 + r1), ds (1 + r2), ds (1 + r3)], okS y := fun y hy => by
      simp only [List.mem_cons, List.not_mem_nil, or_false] at hy
      rcases hy with rfl | rfl | rfl <;> exact oA _ (by omega)
    have ly : [ds (1 + r1), ds (1 + r2), ds (1 + r3)].length = 3 := rfl
    replace g_it : H4 it = some (.lst (([ds (1 + r1), ds (1 + r2), ds (1 + r3)]).map V.str)) := g_it
    generalize [ds (1 + r1), ds (1 + r2), ds (1 + r3)] = ys at *
    repeat (first | (with_reducible refine st_tC ?_) | (with_reducible refine st_tOp ?_) | ((with_reducible apply st_n); rfl; rfl; (first | trivial | (show _ ≤ _; omega) | (show _ < _; omega) | (show _ ∨ _; omega) | assumption | exact ⟨by assumption, by omega⟩ | exact ⟨W30.one, by omega⟩ | fail); rfl) | (with_reducible refine st_i0 rfl rfl rfl ?_) | ((with_reducible refine st_i rfl rfl ?_ rfl ?_); first | omega | exact ⟨by decide, by decide, by decide⟩ | exact .inl ⟨by decide, by decide⟩ | exact .inl ⟨by omega, by omega⟩ | exact .inr ⟨by omega, by omega⟩ | fail) | ((fail_if_success refine Exists.intro (α := Nat → Nat → L2.St → Hp → Prop) ?_ ?_); (fail_if_success refine Exists.intro (α := L2.St → Hp → Prop) ?_ ?_); (fail_if_success refine Exists.intro (α := Nat → L2.St → Hp → Prop) ?_ ?_); apply Exists.intro) | ((refine And.intro ?_ ?_); first | with_reducible rfl | with_reducible assumption | rfl | ((with_reducible apply SqL.of); assumption) | ((with_reducible apply SqT.of); assumption) | ((with_reducible apply OwnC.cl); assumption) | (with_reducible exact isI_int _) | exact within_args | (with_reducible exact upd_same) | ((with_reducible apply Mid.o); assumption) | ((with_reducible apply Mid.t); assumption) | exact .inl ⟨rfl, _, SqL.of (by assumption)⟩ | (with_reducible exact ⟨_, SqT.of (by assumption)⟩) | (with_reducible exact ⟨_, SqL.of (by assumption)⟩) | omega | exact Nat.le_of_ble_eq_true rfl | exact nat9 (by omega) | exact ⟨_, rfl⟩ | (show _ ≤ sizeLine; decide) | exact ⟨by decide, by decide, by decide⟩ | exact .inl ⟨by decide, by decide⟩ | exact .inl ⟨by omega, by omega⟩ | exact .inr ⟨by omega, by omega⟩ | assumption | fail) | ((with_reducible refine iteF' ?_ ?_); first | rfl | exact decide_eq_false (by omega) | exact in_no (by omega) (by omega) | exact in_no (by omega) (by assumption) | (simp <;> fail) | fail) | ((with_reducible refine iteT' ?_ ?_); first | rfl | exact decide_eq_true (by omega) | (simp <;> fail) | fail))
    intro at' H5 at'0 at'1 O_at' B_at'; obtain ⟨_, _, _, hpX, _⟩ := id M.o; replace bt := bt.but B_at' hpX; replace g_it := B_at' _ _ g_it np_it; replace M := M.draw O_at' B_at'; obtain ⟨at', rfl⟩ := Int.eq_ofNat_of_zero_le at'0; clear O_at' B_at'
    repeat (first | (with_reducible refine st_tC ?_) | (with_reducible refine st_tOp ?_) | ((with_reducible apply st_n); rfl; rfl; (first | trivial | (show _ ≤ _; omega) | (show _ < _; omega) | (show _ ∨ _; omega) | assumption | exact ⟨by assumption, by omega⟩ | exact ⟨W30.one, by omega⟩ | fail); rfl) | (with_reducible refine st_i0 rfl rfl rfl ?_) | ((with_reducible refine st_i rfl rfl ?_ rfl ?_); first | omega | exact ⟨by decide, by decide, by decide⟩ | exact .inl ⟨by decide, by decide⟩ | exact .inl ⟨by omega, by omega⟩ | exact .inr ⟨by omega, by omega⟩ | fail) | ((fail_if_success refine Exists.intro (α := Nat → Nat → L2.St → Hp → Prop) ?_ ?_); (fail_if_success refine Exists.intro (α := L2.St → Hp → Prop) ?_ ?_); (fail_if_success refine Exists.intro (α := Nat → L2.St → Hp → Prop) ?_ ?_); apply Exists.intro) | ((refine And.intro ?_ ?_); first | with_reducible rfl | with_reducible assumption | rfl | ((with_reducible apply SqL.of); assumption) | ((with_reducible apply SqT.of); assumption) | ((with_reducible apply OwnC.cl); assumption) | (with_reducible exact isI_int _) | exact within_args | (with_reducible exact upd_same) | ((with_reducible apply Mid.o); assumption) | ((with_reducible apply Mid.t); assumption) | exact .inl ⟨rfl, _, SqL.of (by assumption)⟩ | (with_reducible exact ⟨_, SqT.of (by assumption)⟩) | (with_reducible exact ⟨_, SqL.of (by assumption)⟩) | omega | exact Nat.le_of_ble_eq_true rfl | exact nat9 (by omega) | exact ⟨_, rfl⟩ | (show _ ≤ sizeLine; decide) | exact ⟨by decide, by decide, by decide⟩ | exact .inl ⟨by decide, by decide⟩ | exact .inl ⟨by omega, by omega⟩ | exact .inr ⟨by omega, by omega⟩ | assumption | fail) | ((with_reducible refine iteF' ?_ ?_); first | rfl | exact decide_eq_false (by omega) | exact in_no (by omega) (by omega) | exact in_no (by omega) (by assumption) | (simp <;> fail) | fail) | ((with_reducible refine iteT' ?_ ?_); first | rfl | exact decide_eq_true (by omega) | (simp <;> fail) | fail))
    intro way H6 way0 way1 O_way B_way; obtain ⟨_, _, _, hpX, _⟩ := id M.o; replace bt := bt.but B_way hpX; replace g_it := B_way _ _ g_it np_it; replace M := M.draw O_way B_way; obtain ⟨way, rfl⟩ := Int.eq_ofNat_of_zero_le way0; clear O_way B_way
    repeat (first | (refine ⟨"9", 140, rfl, rfl, by decide +kernel, by decide, fun N0 hN0 => ?_⟩) | (refine ⟨"9", 141, rfl, rfl, by decide +kernel, by decide, fun N1 hN1 => ?_⟩) | (refine ⟨"8", 5000, rfl, rfl, by decide +kernel, by decide, fun N2 hN2 => ?_⟩) | (with_reducible refine st_tC ?_) | (with_reducible refine st_tOp ?_) | ((with_reducible apply st_n); rfl; rfl; (first | trivial | (show _ ≤ _; omega) | (show _ < _; omega) | (show _ ∨ _; omega) | assumption | exact ⟨by assumption, by omega⟩ | exact ⟨W30.one, by omega⟩ | fail); rfl) | (with_reducible refine st_i0 rfl rfl rfl ?_) | ((with_reducible refine st_i rfl rfl ?_ rfl ?_); first | omega | exact ⟨by decide, by decide, by decide⟩ | exact .inl ⟨by decide, by decide⟩ | exact .inl ⟨by omega, by omega⟩ | exact .inr ⟨by omega, by omega⟩ | fail) | ((fail_if_success refine Exists.intro (α := Nat → Nat → L2.St → Hp → Prop) ?_ ?_); (fail_if_success refine Exists.intro (α := L2.St → Hp → Prop) ?_ ?_); (fail_if_success refine Exists.intro (α := Nat → L2.St → Hp → Prop) ?_ ?_); apply Exists.intro) | ((refine And.intro ?_ ?_); first | with_reducible rfl | with_reducible assumption | rfl | ((with_reducible apply SqL.of); assumption) | ((with_reducible apply SqT.of); assumption) | ((with_reducible apply OwnC.cl); assumption) | (with_reducible exact isI_int _) | exact within_args | (with_reducible exact upd_same) | ((with_reducible apply Mid.o); assumption) | ((with_reducible apply Mid.t); assumption) | exact .inl ⟨rfl, _, SqL.of (by assumption)⟩ | (with_reducible exact ⟨_, SqT.of (by assumption)⟩) | (with_reducible exact ⟨_, SqL.of (by assumption)⟩) | omega | exact Nat.le_of_ble_eq_true rfl | exact nat9 (by omega) | exact ⟨_, rfl⟩ | (show _ ≤ sizeLine; decide) | exact ⟨by decide, by decide, by decide⟩ | exact .inl ⟨by decide, by decide⟩ | exact .inl ⟨by omega, by omega⟩ | exact .inr ⟨by omega, by omega⟩ | assumption | fail) | ((with_reducible refine iteF' ?_ ?_); first | rfl | exact decide_eq_false (by omega) | exact in_no (by omega) (by omega) | exact in_no (by omega) (by assumption) | (simp <;> fail) | fail) | ((with_reducible refine iteT' ?_ ?_); first | rfl | exact decide_eq_true (by omega) | (simp <;> fail) | fail))
    have mk : ∀ (s : Str) (n : Nat) (z : Str), z = Txt.mul s (n : Int) → MN.asc s → s.length * n ≤ 5000 → okS z := fun s n z e h1 h2 => by
      rw [e]
      exact ⟨MN.mul_asc h1, Nat.le_trans (mul_len s n) h2⟩
    have o0 := mk _ _ _ hN0 (lit (by decide +kernel) (by decide +kernel)).1 (by decide +kernel)
    have o1 := mk _ _ _ hN1 (lit (by decide +kernel) (by decide +kernel)).1 (by decide +kernel)
    have o2 := mk _ _ _ hN2 (lit (by decide +kernel) (by decide +kernel)).1 (by decide +kernel)
    clear hN0 hN1 hN2 mk
    intro l2 h_l2; have np_l2 := M.pD h_l2; have nb_l2 := M.bD h_l2; generalize hE : upd _ l2 _ = H8; obtain ⟨S_l2, g_l2⟩ := new_facts h_l2 hE; clear hE; replace M := M.same S_l2; replace bt := bt.same S_l2; replace g_it := S_l2 _ _ g_it
    repeat (first | (with_reducible refine st_tC ?_) | (with_reducible refine st_tOp ?_) | ((with_reducible apply st_n); rfl; rfl; (first | trivial | (show _ ≤ _; omega) | (show _ < _; omega) | (show _ ∨ _; omega) | assumption | exact ⟨by assumption, by omega⟩ | exact ⟨W30.one, by omega⟩ | fail); rfl) | (with_reducible refine st_i0 rfl rfl rfl ?_) | ((with_reducible refine st_i rfl rfl ?_ rfl ?_); first | omega | exact ⟨by decide, by decide, by decide⟩ | exact .inl ⟨by decide, by decide⟩ | exact .inl ⟨by omega, by omega⟩ | exact .inr ⟨by omega, by omega⟩ | fail) | ((fail_if_success refine Exists.intro (α := Nat → Nat → L2.St → Hp → Prop) ?_ ?_); (fail_if_success refine Exists.intro (α := L2.St → Hp → Prop) ?_ ?_); (fail_if_success refine Exists.intro (α := Nat → L2.St → Hp → Prop) ?_ ?_); apply Exists.intro) | ((refine And.intro ?_ ?_); first | with_reducible rfl | with_reducible assumption | rfl | ((with_reducible apply SqL.of); assumption) | ((with_reducible apply SqT.of); assumption) | ((with_reducible apply OwnC.cl); assumption) | (with_reducible exact isI_int _) | exact within_args | (with_reducible exact upd_same) | ((with_reducible apply Mid.o); assumption) | ((with_reducible apply Mid.t); assumption) | exact .inl ⟨rfl, _, SqL.of (by assumption)⟩ | (with_reducible exact ⟨_, SqT.of (by assumption)⟩) | (with_reducible exact ⟨_, SqL.of (by assumption)⟩) | omega | exact Nat.le_of_ble_eq_true rfl | exact nat9 (by omega) | exact ⟨_, rfl⟩ | (show _ ≤ sizeLine; decide) | exact ⟨by decide, by decide, by decide⟩ | exact .inl ⟨by decide, by decide⟩ | exact .inl ⟨by omega, by omega⟩ | exact .inr ⟨by omega, by omega⟩ | assumption | fail) | ((with_reducible refine iteF' ?_ ?_); first | rfl | exact decide_eq_false (by omega) | exact in_no (by omega) (by omega) | exact in_no (by omega) (by assumption) | (simp <;> fail) | fail) | ((with_reducible refine iteT' ?_ ?_); first | rfl | exact decide_eq_true (by omega) | (simp <;> fail) | fail))
    intro j_odd odd H9 e_odd O_odd B_odd; obtain ⟨_, _, _, hpX, _⟩ := id M.o; replace bt := bt.but B_odd hpX; replace g_it := B_odd _ _ g_it np_it; replace M := M.draw O_odd B_odd; clear O_odd B_odd
    obtain ⟨o, rfl, oO⟩ : ∃ o, odd = V.str o ∧ okS o := by
      have m := List.mem_of_getElem? e_odd
      simp only [List.mem_cons, List.not_mem_nil, or_false] at m
      rcases m with rfl | rfl | rfl | rfl | rfl | rfl | rfl | rfl | rfl | rfl | rfl | rfl | rfl | rfl | rfl | rfl | rfl | rfl | rfl
      all_goals first | exact ⟨_, rfl, o0⟩ | exact ⟨_, rfl, o1⟩ | exact ⟨_, rfl, o2⟩ | exact ⟨_, rfl, lit (by decide +kernel) (by decide +kernel)⟩
    clear e_odd j_odd g_l2 S_l2 h_l2
    have fin : ∀ (zs : List Str) (l : Addr) (Hn : Hp), Hn l = some (.lst (zs.map V.str)) → Mid [] p b (n + 6) Hn → Bt p H Hn → (∀ y ∈ zs, y ∈ ys ∨ y = o) → zs.length ≤ 4 → (SqL K Hn l (zs.map V.str) ∨ SqT K Hn l (zs.map V.str)) ∧ (zs.map (fun x => x.length)).sum + zs.length * (" " : Str).length ≤ 16777216 ∧ Q (.str (Txt.join " " zs)) Hn := fun zs l Hn hl M' bt' hz h4 => by
      have hy : ∀ y ∈ zs, okS y := fun y h => by
        rcases hz y h with z | rfl
        · exact oy y z
        · exact oO
      have e1 : (" " : Str).length = 1 := by decide +kernel
      have j1 := MN.join_len 5000 zs fun y hm => (hy y hm).2
      have j2 : (zs.map (fun x => x.length)).sum ≤ zs.length * 5000 := by
        clear hl j1 h4 hz
        induction zs with
        | nil => exact Nat.le_refl _
        | cons a r ih =>
          have := ih fun y hm => hy y (List.mem_cons_of_mem _ hm)
          have := (hy a List.mem_cons_self).2
          rw [List.map_cons, List.sum_cons, List.length_cons, Nat.succ_mul]
          omega
      have j3 : zs.length * 5001 ≤ 4 * 5001 := Nat.mul_le_mul_right _ h4
      have j4 : zs.length * 5000 ≤ 4 * 5000 := Nat.mul_le_mul_right _ h4
      refine ⟨.inl (SqL.of hl), by rw [e1]; omega, ?_⟩
      exact k _ _ (MN.asc_join zs fun y hm => (hy y hm).1) (by omega) M'.o bt'.b
    have mt : ∀ {y : Str} {j : Nat}, y ∈ ys.take j → y ∈ ys := fun {y j} h => List.mem_of_mem_take h
    have md : ∀ {y : Str} {j : Nat}, y ∈ ys.drop j → y ∈ ys := fun {y j} h => List.mem_of_mem_drop h
    clear k
    have way5 : way = 0 ∨ way = 1 ∨ way = 2 ∨ (way ≠ 0 ∧ way ≠ 1 ∧ way ≠ 2) := by omega
    rcases way5 with rfl | rfl | rfl | ⟨n0, n1, n2⟩
    · repeat (first | (with_reducible refine st_tC ?_) | (with_reducible refine st_tOp ?_) | ((with_reducible apply st_n); rfl; rfl; (first | trivial | (show _ ≤ _; omega) | (show _ < _; omega) | (show _ ∨ _; omega) | assumption | exact ⟨by assumption, by omega⟩ | exact ⟨W30.one, by omega⟩ | fail); rfl) | (with_reducible refine st_i0 rfl rfl rfl ?_) | ((with_reducible refine st_i rfl rfl ?_ rfl ?_); first | omega | exact ⟨by decide, by decide, by decide⟩ | exact .inl ⟨by decide, by decide⟩ | exact .inl ⟨by omega, by omega⟩ | exact .inr ⟨by omega, by omega⟩ | fail) | ((fail_if_success refine Exists.intro (α := Nat → Nat → L2.St → Hp → Prop) ?_ ?_); (fail_if_success refine Exists.intro (α := L2.St → Hp → Prop) ?_ ?_); (fail_if_success refine Exists.intro (α := Nat → L2.St → Hp → Prop) ?_ ?_); apply Exists.intro) | ((refine And.intro ?_ ?_); first | with_reducible rfl | with_reducible assumption | rfl | ((with_reducible apply SqL.of); assumption) | ((with_reducible apply SqT.of); assumption) | ((with_reducible apply OwnC.cl); assumption) | (with_reducible exact isI_int _) | exact within_args | (with_reducible exact upd_same) | ((with_reducible apply Mid.o); assumption) | ((with_reducible apply Mid.t); assumption) | exact .inl ⟨rfl, _, SqL.of (by assumption)⟩ | (with_reducible exact ⟨_, SqT.of (by assumption)⟩) | (with_reducible exact ⟨_, SqL.of (by assumption)⟩) | omega | exact Nat.le_of_ble_eq_true rfl | exact nat9 (by omega) | exact ⟨_, rfl⟩ | (show _ ≤ sizeLine; decide) | exact ⟨by decide, by decide, by decide⟩ | exact .inl ⟨by decide, by decide⟩ | exact .inl ⟨by omega, by omega⟩ | exact .inr ⟨by omega, by omega⟩ | assumption | fail) | ((with_reducible refine iteF' ?_ ?_); first | rfl | exact decide_eq_false (by omega) | exact in_no (by omega) (by omega) | exact in_no (by omega) (by assumption) | (simp <;> fail) | fail) | ((with_reducible refine iteT' ?_ ?_); first | rfl | exact decide_eq_true (by omega) | (simp <;> fail) | fail))
      intro x1 h_x1; have np_x1 := M.pD h_x1; have nb_x1 := M.bD h_x1; generalize hE : upd _ x1 _ = Hx0; obtain ⟨S_x1, g_x1⟩ := new_facts h_x1 hE; clear hE; replace M := M.same S_x1; replace bt := bt.same S_x1; replace g_it := S_x1 _ _ g_it
      rw [cut_to, ← List.map_take] at g_x1
      repeat (first | (with_reducible refine st_tC ?_) | (with_reducible refine st_tOp ?_) | ((with_reducible apply st_n); rfl; rfl; (first | trivial | (show _ ≤ _; omega) | (show _ < _; omega) | (show _ ∨ _; omega) | assumption | exact ⟨by assumption, by omega⟩ | exact ⟨W30.one, by omega⟩ | fail); rfl) | (with_reducible refine st_i0 rfl rfl rfl ?_) | ((with_reducible refine st_i rfl rfl ?_ rfl ?_); first | omega | exact ⟨by decide, by decide, by decide⟩ | exact .inl ⟨by decide, by decide⟩ | exact .inl ⟨by omega, by omega⟩ | exact .inr ⟨by omega, by omega⟩ | fail) | ((fail_if_success refine Exists.intro (α := Nat → Nat → L2.St → Hp → Prop) ?_ ?_); (fail_if_success refine Exists.intro (α := L2.St → Hp → Prop) ?_ ?_); (fail_if_success refine Exists.intro (α := Nat → L2.St → Hp → Prop) ?_ ?_); apply Exists.intro) | ((refine And.intro ?_ ?_); first | with_reducible rfl | with_reducible assumption | rfl | ((with_reducible apply SqL.of); assumption) | ((with_reducible apply SqT.of); assumption) | ((with_reducible apply OwnC.cl); assumption) | (with_reducible exact isI_int _) | exact within_args | (with_reducible exact upd_same) | ((with_reducible apply Mid.o); assumption) | ((with_reducible apply Mid.t); assumption) | exact .inl ⟨rfl, _, SqL.of (by assumption)⟩ | (with_reducible exact ⟨_, SqT.of (by assumption)⟩) | (with_reducible exact ⟨_, SqL.of (by assumption)⟩) | omega | exact Nat.le_of_ble_eq_true rfl | exact nat9 (by omega) | exact ⟨_, rfl⟩ | (show _ ≤ sizeLine; decide) | exact ⟨by decide, by decide, by decide⟩ | exact .inl ⟨by decide, by decide⟩ | exact .inl ⟨by omega, by omega⟩ | exact .inr ⟨by omega, by omega⟩ | assumption | fail) | ((with_reducible refine iteF' ?_ ?_); first | rfl | exact decide_eq_false (by omega) | exact in_no (by omega) (by omega) | exact in_no (by omega) (by assumption) | (simp <;> fail) | fail) | ((with_reducible refine iteT' ?_ ?_); first | rfl | exact decide_eq_true (by omega) | (simp <;> fail) | fail))
      intro x2 h_x2; have np_x2 := M.pD h_x2; have nb_x2 := M.bD h_x2; generalize hE : upd _ x2 _ = Hx1; obtain ⟨S_x2, g_x2⟩ := new_facts h_x2 hE; clear hE; replace M := M.same S_x2; replace bt := bt.same S_x2; replace g_it := S_x2 _ _ g_it; replace g_x1 := S_x2 _ _ g_x1
      replace g_x2 : Hx1 x2 = some (.lst (([o] : List Str).map V.str)) := g_x2
      repeat (first | (with_reducible refine st_tC ?_) | (with_reducible refine st_tOp ?_) | ((with_reducible apply st_n); rfl; rfl; (first | trivial | (show _ ≤ _; omega) | (show _ < _; omega) | (show _ ∨ _; omega) | assumption | exact ⟨by assumption, by omega⟩ | exact ⟨W30.one, by omega⟩ | fail); rfl) | (with_reducible refine st_i0 rfl rfl rfl ?_) | ((with_reducible refine st_i rfl rfl ?_ rfl ?_); first | omega | exact ⟨by decide, by decide, by decide⟩ | exact .inl ⟨by decide, by decide⟩ | exact .inl ⟨by omega, by omega⟩ | exact .inr ⟨by omega, by omega⟩ | fail) | ((fail_if_success refine Exists.intro (α := Nat → Nat → L2.St → Hp → Prop) ?_ ?_); (fail_if_success refine Exists.intro (α := L2.St → Hp → Prop) ?_ ?_); (fail_if_success refine Exists.intro (α := Nat → L2.St → Hp → Prop) ?_ ?_); apply Exists.intro) | ((refine And.intro ?_ ?_); first | with_reducible rfl | with_reducible assumption | rfl | ((with_reducible apply SqL.of); assumption) | ((with_reducible apply SqT.of); assumption) | ((with_reducible apply OwnC.cl); assumption) | (with_reducible exact isI_int _) | exact within_args | (with_reducible exact upd_same) | ((with_reducible apply Mid.o); assumption) | ((with_reducible apply Mid.t); assumption) | exact .inl ⟨rfl, _, SqL.of (by assumption)⟩ | (with_reducible exact ⟨_, SqT.of (by assumption)⟩) | (with_reducible exact ⟨_, SqL.of (by assumption)⟩) | omega | exact Nat.le_of_ble_eq_true rfl | exact nat9 (by omega) | exact ⟨_, rfl⟩ | (show _ ≤ sizeLine; decide) | exact ⟨by decide, by decide, by decide⟩ | exact .inl ⟨by decide, by decide⟩ | exact .inl ⟨by omega, by omega⟩ | exact .inr ⟨by omega, by omega⟩ | assumption | fail) | ((with_reducible refine iteF' ?_ ?_); first | rfl | exact decide_eq_false (by omega) | exact in_no (by omega) (by omega) | exact in_no (by omega) (by assumption) | (simp <;> fail) | fail) | ((with_reducible refine iteT' ?_ ?_); first | rfl | exact decide_eq_true (by omega) | (simp <;> fail) | fail))
      refine ⟨by simp only [List.length_map, List.length_append, List.length_take, List.length_drop, List.length_cons, List.length_nil]; rw [sizeLine_eq]; omega, ?_⟩
      intro x3 h_x3; have np_x3 := M.pD h_x3; have nb_x3 := M.bD h_x3; generalize hE : upd _ x3 _ = Hx2; obtain ⟨S_x3, g_x3⟩ := new_facts h_x3 hE; clear hE; replace M := M.same S_x3; replace bt := bt.same S_x3; replace g_it := S_x3 _ _ g_it; replace g_x1 := S_x3 _ _ g_x1; replace g_x2 := S_x3 _ _ g_x2
      rw [← List.map_append] at g_x3
      repeat (first | (with_reducible refine st_tC ?_) | (with_reducible refine st_tOp ?_) | ((with_reducible apply st_n); rfl; rfl; (first | trivial | (show _ ≤ _; omega) | (show _ < _; omega) | (show _ ∨ _; omega) | assumption | exact ⟨by assumption, by omega⟩ | exact ⟨W30.one, by omega⟩ | fail); rfl) | (with_reducible refine st_i0 rfl rfl rfl ?_) | ((with_reducible refine st_i rfl rfl ?_ rfl ?_); first | omega | exact ⟨by decide, by decide, by decide⟩ | exact .inl ⟨by decide, by decide⟩ | exact .inl ⟨by omega, by omega⟩ | exact .inr ⟨by omega, by omega⟩ | fail) | ((fail_if_success refine Exists.intro (α := Nat → Nat → L2.St → Hp → Prop) ?_ ?_); (fail_if_success refine Exists.intro (α := L2.St → Hp → Prop) ?_ ?_); (fail_if_success refine Exists.intro (α := Nat → L2.St → Hp → Prop) ?_ ?_); apply Exists.intro) | ((refine And.intro ?_ ?_); first | with_reducible rfl | with_reducible assumption | rfl | ((with_reducible apply SqL.of); assumption) | ((with_reducible apply SqT.of); assumption) | ((with_reducible apply OwnC.cl); assumption) | (with_reducible exact isI_int _) | exact within_args | (with_reducible exact upd_same) | ((with_reducible apply Mid.o); assumption) | ((with_reducible apply Mid.t); assumption) | exact .inl ⟨rfl, _, SqL.of (by assumption)⟩ | (with_reducible exact ⟨_, SqT.of (by assumption)⟩) | (with_reducible exact ⟨_, SqL.of (by assumption)⟩) | omega | exact Nat.le_of_ble_eq_true rfl | exact nat9 (by omega) | exact ⟨_, rfl⟩ | (show _ ≤ sizeLine; decide) | exact ⟨by decide, by decide, by decide⟩ | exact .inl ⟨by decide, by decide⟩ | exact .inl ⟨by omega, by omega⟩ | exact .inr ⟨by omega, by omega⟩ | assumption | fail) | ((with_reducible refine iteF' ?_ ?_); first | rfl | exact decide_eq_false (by omega) | exact in_no (by omega) (by omega) | exact in_no (by omega) (by assumption) | (simp <;> fail) | fail) | ((with_reducible refine iteT' ?_ ?_); first | rfl | exact decide_eq_true (by omega) | (simp <;> fail) | fail))
      intro x4 h_x4; have np_x4 := M.pD h_x4; have nb_x4 := M.bD h_x4; generalize hE : upd _ x4 _ = Hx3; obtain ⟨S_x4, g_x4⟩ := new_facts h_x4 hE; clear hE; replace M := M.same S_x4; replace bt := bt.same S_x4; replace g_it := S_x4 _ _ g_it; replace g_x1 := S_x4 _ _ g_x1; replace g_x2 := S_x4 _ _ g_x2; replace g_x3 := S_x4 _ _ g_x3
      rw [cut_from, ← List.map_drop] at g_x4
      repeat (first | (with_reducible refine st_tC ?_) | (with_reducible refine st_tOp ?_) | ((with_reducible apply st_n); rfl; rfl; (first | trivial | (show _ ≤ _; omega) | (show _ < _; omega) | (show _ ∨ _; omega) | assumption | exact ⟨by assumption, by omega⟩ | exact ⟨W30.one, by omega⟩ | fail); rfl) | (with_reducible refine st_i0 rfl rfl rfl ?_) | ((with_reducible refine st_i rfl rfl ?_ rfl ?_); first | omega | exact ⟨by decide, by decide, by decide⟩ | exact .inl ⟨by decide, by decide⟩ | exact .inl ⟨by omega, by omega⟩ | exact .inr ⟨by omega, by omega⟩ | fail) | ((fail_if_success refine Exists.intro (α := Nat → Nat → L2.St → Hp → Prop) ?_ ?_); (fail_if_success refine Exists.intro (α := L2.St → Hp → Prop) ?_ ?_); (fail_if_success refine Exists.intro (α := Nat → L2.St → Hp → Prop) ?_ ?_); apply Exists.intro) | ((refine And.intro ?_ ?_); first | with_reducible rfl | with_reducible assumption | rfl | ((with_reducible apply SqL.of); assumption) | ((with_reducible apply SqT.of); assumption) | ((with_reducible apply OwnC.cl); assumption) | (with_reducible exact isI_int _) | exact within_args | (with_reducible exact upd_same) | ((with_reducible apply Mid.o); assumption) | ((with_reducible apply Mid.t); assumption) | exact .inl ⟨rfl, _, SqL.of (by assumption)⟩ | (with_reducible exact ⟨_, SqT.of (by assumption)⟩) | (with_reducible exact ⟨_, SqL.of (by assumption)⟩) | omega | exact Nat.le_of_ble_eq_true rfl | exact nat9 (by omega) | exact ⟨_, rfl⟩ | (show _ ≤ sizeLine; decide) | exact ⟨by decide, by decide, by decide⟩ | exact .inl ⟨by decide, by decide⟩ | exact .inl ⟨by omega, by omega⟩ | exact .inr ⟨by omega, by omega⟩ | assumption | fail) | ((with_reducible refine iteF' ?_ ?_); first | rfl | exact decide_eq_false (by omega) | exact in_no (by omega) (by omega) | exact in_no (by omega) (by assumption) | (simp <;> fail) | fail) | ((with_reducible refine iteT' ?_ ?_); first | rfl | exact decide_eq_true (by omega) | (simp <;> fail) | fail))
      refine ⟨by simp only [List.length_map, List.length_append, List.length_take, List.length_drop, List.length_cons, List.length_nil]; rw [sizeLine_eq]; omega, ?_⟩
      intro x5 h_x5; have np_x5 := M.pD h_x5; have nb_x5 := M.bD h_x5; generalize hE : upd _ x5 _ = Hx4; obtain ⟨S_x5, g_x5⟩ := new_facts h_x5 hE; clear hE; replace M := M.same S_x5; replace bt := bt.same S_x5; replace g_it := S_x5 _ _ g_it; replace g_x1 := S_x5 _ _ g_x1; replace g_x2 := S_x5 _ _ g_x2; replace g_x3 := S_x5 _ _ g_x3; replace g_x4 := S_x5 _ _ g_x4
      rw [← List.map_append] at g_x5
      repeat (first | (with_reducible refine st_tC ?_) | (with_reducible refine st_tOp ?_) | ((with_reducible apply st_n); rfl; rfl; (first | trivial | (show _ ≤ _; omega) | (show _ < _; omega) | (show _ ∨ _; omega) | assumption | exact ⟨by assumption, by omega⟩ | exact ⟨W30.one, by omega⟩ | fail); rfl) | (with_reducible refine st_i0 rfl rfl rfl ?_) | ((with_reducible refine st_i rfl rfl ?_ rfl ?_); first | omega | exact ⟨by decide, by decide, by decide⟩ | exact .inl ⟨by decide, by decide⟩ | exact .inl ⟨by omega, by omega⟩ | exact .inr ⟨by omega, by omega⟩ | fail) | ((fail_if_success refine Exists.intro (α := Nat → Nat → L2.St → Hp → Prop) ?_ ?_); (fail_if_success refine Exists.intro (α := L2.St → Hp → Prop) ?_ ?_); (fail_if_success refine Exists.intro (α := Nat → L2.St → Hp → Prop) ?_ ?_); apply Exists.intro) | ((refine And.intro ?_ ?_); first | with_reducible rfl | with_reducible assumption | rfl | ((with_reducible apply SqL.of); assumption) | ((with_reducible apply SqT.of); assumption) | ((with_reducible apply OwnC.cl); assumption) | (with_reducible exact isI_int _) | exact within_args | (with_reducible exact upd_same) | ((with_reducible apply Mid.o); assumption) | ((with_reducible apply Mid.t); assumption) | exact .inl ⟨rfl, _, SqL.of (by assumption)⟩ | (with_reducible exact ⟨_, SqT.of (by assumption)⟩) | (with_reducible exact ⟨_, SqL.of (by assumption)⟩) | omega | exact Nat.le_of_ble_eq_true rfl | exact nat9 (by omega) | exact ⟨_, rfl⟩ | (show _ ≤ sizeLine; decide) | exact ⟨by decide, by decide, by decide⟩ | exact .inl ⟨by decide, by decide⟩ | exact .inl ⟨by omega, by omega⟩ | exact .inr ⟨by omega, by omega⟩ | assumption | fail) | ((with_reducible refine iteF' ?_ ?_); first | rfl | exact decide_eq_false (by omega) | exact in_no (by omega) (by omega) | exact in_no (by omega) (by assumption) | (simp <;> fail) | fail) | ((with_reducible refine iteT' ?_ ?_); first | rfl | exact decide_eq_true (by omega) | (simp <;> fail) | fail))
      refine fin (ys.take at' ++ [o] ++ ys.drop at') x5 Hx4 g_x5 (M.mono (by omega)) bt (fun y hy => ?_) (by simp only [List.length_append, List.length_take, List.length_drop, List.length_cons, List.length_nil]; omega)
      rcases List.mem_append.mp hy with z | z
      · rcases List.mem_append.mp z with z | z
        · exact .inl (mt z)
        · exact .inr (List.mem_singleton.mp z)
      · exact .inl (md z)
    · repeat (first | (with_reducible refine st_tC ?_) | (with_reducible refine st_tOp ?_) | ((with_reducible apply st_n); rfl; rfl; (first | trivial | (show _ ≤ _; omega) | (show _ < _; omega) | (show _ ∨ _; omega) | assumption | exact ⟨by assumption, by omega⟩ | exact ⟨W30.one, by omega⟩ | fail); rfl) | (with_reducible refine st_i0 rfl rfl rfl ?_) | ((with_reducible refine st_i rfl rfl ?_ rfl ?_); first | omega | exact ⟨by decide, by decide, by decide⟩ | exact .inl ⟨by decide, by decide⟩ | exact .inl ⟨by omega, by omega⟩ | exact .inr ⟨by omega, by omega⟩ | fail) | ((fail_if_success refine Exists.intro (α := Nat → Nat → L2.St → Hp → Prop) ?_ ?_); (fail_if_success refine Exists.intro (α := L2.St → Hp → Prop) ?_ ?_); (fail_if_success refine Exists.intro (α := Nat → L2.St → Hp → Prop) ?_ ?_); apply Exists.intro) | ((refine And.intro ?_ ?_); first | with_reducible rfl | with_reducible assumption | rfl | ((with_reducible apply SqL.of); assumption) | ((with_reducible apply SqT.of); assumption) | ((with_reducible apply OwnC.cl); assumption) | (with_reducible exact isI_int _) | exact within_args | (with_reducible exact upd_same) | ((with_reducible apply Mid.o); assumption) | ((with_reducible apply Mid.t); assumption) | exact .inl ⟨rfl, _, SqL.of (by assumption)⟩ | (with_reducible exact ⟨_, SqT.of (by assumption)⟩) | (with_reducible exact ⟨_, SqL.of (by assumption)⟩) | omega | exact Nat.le_of_ble_eq_true rfl | exact nat9 (by omega) | exact ⟨_, rfl⟩ | (show _ ≤ sizeLine; decide) | exact ⟨by decide, by decide, by decide⟩ | exact .inl ⟨by decide, by decide⟩ | exact .inl ⟨by omega, by omega⟩ | exact .inr ⟨by omega, by omega⟩ | assumption | fail) | ((with_reducible refine iteF' ?_ ?_); first | rfl | exact decide_eq_false (by omega) | exact in_no (by omega) (by omega) | exact in_no (by omega) (by assumption) | (simp <;> fail) | fail) | ((with_reducible refine iteT' ?_ ?_); first | rfl | exact decide_eq_true (by omega) | (simp <;> fail) | fail))
      intro x1 h_x1; have np_x1 := M.pD h_x1; have nb_x1 := M.bD h_x1; generalize hE : upd _ x1 _ = Hx0; obtain ⟨S_x1, g_x1⟩ := new_facts h_x1 hE; clear hE; replace M := M.same S_x1; replace bt := bt.same S_x1; replace g_it := S_x1 _ _ g_it
      rw [cut_to, ← List.map_take] at g_x1
      repeat (first | (with_reducible refine st_tC ?_) | (with_reducible refine st_tOp ?_) | ((with_reducible apply st_n); rfl; rfl; (first | trivial | (show _ ≤ _; omega) | (show _ < _; omega) | (show _ ∨ _; omega) | assumption | exact ⟨by assumption, by omega⟩ | exact ⟨W30.one, by omega⟩ | fail); rfl) | (with_reducible refine st_i0 rfl rfl rfl ?_) | ((with_reducible refine st_i rfl rfl ?_ rfl ?_); first | omega | exact ⟨by decide, by decide, by decide⟩ | exact .inl ⟨by decide, by decide⟩ | exact .inl ⟨by omega, by omega⟩ | exact .inr ⟨by omega, by omega⟩ | fail) | ((fail_if_success refine Exists.intro (α := Nat → Nat → L2.St → Hp → Prop) ?_ ?_); (fail_if_success refine Exists.intro (α := L2.St → Hp → Prop) ?_ ?_); (fail_if_success refine Exists.intro (α := Nat → L2.St → Hp → Prop) ?_ ?_); apply Exists.intro) | ((refine And.intro ?_ ?_); first | with_reducible rfl | with_reducible assumption | rfl | ((with_reducible apply SqL.of); assumption) | ((with_reducible apply SqT.of); assumption) | ((with_reducible apply OwnC.cl); assumption) | (with_reducible exact isI_int _) | exact within_args | (with_reducible exact upd_same) | ((with_reducible apply Mid.o); assumption) | ((with_reducible apply Mid.t); assumption) | exact .inl ⟨rfl, _, SqL.of (by assumption)⟩ | (with_reducible exact ⟨_, SqT.of (by assumption)⟩) | (with_reducible exact ⟨_, SqL.of (by assumption)⟩) | omega | exact Nat.le_of_ble_eq_true rfl | exact nat9 (by omega) | exact ⟨_, rfl⟩ | (show _ ≤ sizeLine; decide) | exact ⟨by decide, by decide, by decide⟩ | exact .inl ⟨by decide, by decide⟩ | exact .inl ⟨by omega, by omega⟩ | exact .inr ⟨by omega, by omega⟩ | assumption | fail) | ((with_reducible refine iteF' ?_ ?_); first | rfl | exact decide_eq_false (by omega) | exact in_no (by omega) (by omega) | exact in_no (by omega) (by assumption) | (simp <;> fail) | fail) | ((with_reducible refine iteT' ?_ ?_); first | rfl | exact decide_eq_true (by omega) | (simp <;> fail) | fail))
      intro x2 h_x2; have np_x2 := M.pD h_x2; have nb_x2 := M.bD h_x2; generalize hE : upd _ x2 _ = Hx1; obtain ⟨S_x2, g_x2⟩ := new_facts h_x2 hE; clear hE; replace M := M.same S_x2; replace bt := bt.same S_x2; replace g_it := S_x2 _ _ g_it; replace g_x1 := S_x2 _ _ g_x1
      rw [cut_from1, ← List.map_drop] at g_x2
      repeat (first | (with_reducible refine st_tC ?_) | (with_reducible refine st_tOp ?_) | ((with_reducible apply st_n); rfl; rfl; (first | trivial | (show _ ≤ _; omega) | (show _ < _; omega) | (show _ ∨ _; omega) | assumption | exact ⟨by assumption, by omega⟩ | exact ⟨W30.one, by omega⟩ | fail); rfl) | (with_reducible refine st_i0 rfl rfl rfl ?_) | ((with_reducible refine st_i rfl rfl ?_ rfl ?_); first | omega | exact ⟨by decide, by decide, by decide⟩ | exact .inl ⟨by decide, by decide⟩ | exact .inl ⟨by omega, by omega⟩ | exact .inr ⟨by omega, by omega⟩ | fail) | ((fail_if_success refine Exists.intro (α := Nat → Nat → L2.St → Hp → Prop) ?_ ?_); (fail_if_success refine Exists.intro (α := L2.St → Hp → Prop) ?_ ?_); (fail_if_success refine Exists.intro (α := Nat → L2.St → Hp → Prop) ?_ ?_); apply Exists.intro) | ((refine And.intro ?_ ?_); first | with_reducible rfl | with_reducible assumption | rfl | ((with_reducible apply SqL.of); assumption) | ((with_reducible apply SqT.of); assumption) | ((with_reducible apply OwnC.cl); assumption) | (with_reducible exact isI_int _) | exact within_args | (with_reducible exact upd_same) | ((with_reducible apply Mid.o); assumption) | ((with_reducible apply Mid.t); assumption) | exact .inl ⟨rfl, _, SqL.of (by assumption)⟩ | (with_reducible exact ⟨_, SqT.of (by assumption)⟩) | (with_reducible exact ⟨_, SqL.of (by assumption)⟩) | omega | exact Nat.le_of_ble_eq_true rfl | exact nat9 (by omega) | exact ⟨_, rfl⟩ | (show _ ≤ sizeLine; decide) | exact ⟨by decide, by decide, by decide⟩ | exact .inl ⟨by decide, by decide⟩ | exact .inl ⟨by omega, by omega⟩ | exact .inr ⟨by omega, by omega⟩ | assumption | fail) | ((with_reducible refine iteF' ?_ ?_); first | rfl | exact decide_eq_false (by omega) | exact in_no (by omega) (by omega) | exact in_no (by omega) (by assumption) | (simp <;> fail) | fail) | ((with_reducible refine iteT' ?_ ?_); first | rfl | exact decide_eq_true (by omega) | (simp <;> fail) | fail))
      refine ⟨by simp only [List.length_map, List.length_append, List.length_take, List.length_drop, List.length_cons, List.length_nil]; rw [sizeLine_eq]; omega, ?_⟩
      intro x3 h_x3; have np_x3 := M.pD h_x3; have nb_x3 := M.bD h_x3; generalize hE : upd _ x3 _ = Hx2; obtain ⟨S_x3, g_x3⟩ := new_facts h_x3 hE; clear hE; replace M := M.same S_x3; replace bt := bt.same S_x3; replace g_it := S_x3 _ _ g_it; replace g_x1 := S_x3 _ _ g_x1; replace g_x2 := S_x3 _ _ g_x2
      rw [← List.map_append] at g_x3
      repeat (first | (with_reducible refine st_tC ?_) | (with_reducible refine st_tOp ?_) | ((with_reducible apply st_n); rfl; rfl; (first | trivial | (show _ ≤ _; omega) | (show _ < _; omega) | (show _ ∨ _; omega) | assumption | exact ⟨by assumption, by omega⟩ | exact ⟨W30.one, by omega⟩ | fail); rfl) | (with_reducible refine st_i0 rfl rfl rfl ?_) | ((with_reducible refine st_i rfl rfl ?_ rfl ?_); first | omega | exact ⟨by decide, by decide, by decide⟩ | exact .inl ⟨by decide, by decide⟩ | exact .inl ⟨by omega, by omega⟩ | exact .inr ⟨by omega, by omega⟩ | fail) | ((fail_if_success refine Exists.intro (α := Nat → Nat → L2.St → Hp → Prop) ?_ ?_); (fail_if_success refine Exists.intro (α := L2.St → Hp → Prop) ?_ ?_); (fail_if_success refine Exists.intro (α := Nat → L2.St → Hp → Prop) ?_ ?_); apply Exists.intro) | ((refine And.intro ?_ ?_); first | with_reducible rfl | with_reducible assumption | rfl | ((with_reducible apply SqL.of); assumption) | ((with_reducible apply SqT.of); assumption) | ((with_reducible apply OwnC.cl); assumption) | (with_reducible exact isI_int _) | exact within_args | (with_reducible exact upd_same) | ((with_reducible apply Mid.o); assumption) | ((with_reducible apply Mid.t); assumption) | exact .inl ⟨rfl, _, SqL.of (by assumption)⟩ | (with_reducible exact ⟨_, SqT.of (by assumption)⟩) | (with_reducible exact ⟨_, SqL.of (by assumption)⟩) | omega | exact Nat.le_of_ble_eq_true rfl | exact nat9 (by omega) | exact ⟨_, rfl⟩ | (show _ ≤ sizeLine; decide) | exact ⟨by decide, by decide, by decide⟩ | exact .inl ⟨by decide, by decide⟩ | exact .inl ⟨by omega, by omega⟩ | exact .inr ⟨by omega, by omega⟩ | assumption | fail) | ((with_reducible refine iteF' ?_ ?_); first | rfl | exact decide_eq_false (by omega) | exact in_no (by omega) (by omega) | exact in_no (by omega) (by assumption) | (simp <;> fail) | fail) | ((with_reducible refine iteT' ?_ ?_); first | rfl | exact decide_eq_true (by omega) | (simp <;> fail) | fail))
      refine fin (ys.take at' ++ ys.drop (at' + 1)) x3 Hx2 g_x3 (M.mono (by omega)) bt (fun y hy => ?_) (by simp only [List.length_append, List.length_take, List.length_drop, List.length_cons, List.length_nil]; omega)
      rcases List.mem_append.mp hy with z | z
      · exact .inl (mt z)
      · exact .inl (md z)
    · repeat (first | (with_reducible refine st_tC ?_) | (with_reducible refine st_tOp ?_) | ((with_reducible apply st_n); rfl; rfl; (first | trivial | (show _ ≤ _; omega) | (show _ < _; omega) | (show _ ∨ _; omega) | assumption | exact ⟨by assumption, by omega⟩ | exact ⟨W30.one, by omega⟩ | fail); rfl) | (with_reducible refine st_i0 rfl rfl rfl ?_) | ((with_reducible refine st_i rfl rfl ?_ rfl ?_); first | omega | exact ⟨by decide, by decide, by decide⟩ | exact .inl ⟨by decide, by decide⟩ | exact .inl ⟨by omega, by omega⟩ | exact .inr ⟨by omega, by omega⟩ | fail) | ((fail_if_success refine Exists.intro (α := Nat → Nat → L2.St → Hp → Prop) ?_ ?_); (fail_if_success refine Exists.intro (α := L2.St → Hp → Prop) ?_ ?_); (fail_if_success refine Exists.intro (α := Nat → L2.St → Hp → Prop) ?_ ?_); apply Exists.intro) | ((refine And.intro ?_ ?_); first | with_reducible rfl | with_reducible assumption | rfl | ((with_reducible apply SqL.of); assumption) | ((with_reducible apply SqT.of); assumption) | ((with_reducible apply OwnC.cl); assumption) | (with_reducible exact isI_int _) | exact within_args | (with_reducible exact upd_same) | ((with_reducible apply Mid.o); assumption) | ((with_reducible apply Mid.t); assumption) | exact .inl ⟨rfl, _, SqL.of (by assumption)⟩ | (with_reducible exact ⟨_, SqT.of (by assumption)⟩) | (with_reducible exact ⟨_, SqL.of (by assumption)⟩) | omega | exact Nat.le_of_ble_eq_true rfl | exact nat9 (by omega) | exact ⟨_, rfl⟩ | (show _ ≤ sizeLine; decide) | exact ⟨by decide, by decide, by decide⟩ | exact .inl ⟨by decide, by decide⟩ | exact .inl ⟨by omega, by omega⟩ | exact .inr ⟨by omega, by omega⟩ | assumption | fail) | ((with_reducible refine iteF' ?_ ?_); first | rfl | exact decide_eq_false (by omega) | exact in_no (by omega) (by omega) | exact in_no (by omega) (by assumption) | (simp <;> fail) | fail) | ((with_reducible refine iteT' ?_ ?_); first | rfl | exact decide_eq_true (by omega) | (simp <;> fail) | fail))
      intro x1 h_x1; have np_x1 := M.pD h_x1; have nb_x1 := M.bD h_x1; generalize hE : upd _ x1 _ = Hx0; obtain ⟨S_x1, g_x1⟩ := new_facts h_x1 hE; clear hE; replace M := M.same S_x1; replace bt := bt.same S_x1; replace g_it := S_x1 _ _ g_it
      replace g_x1 : Hx0 x1 = some (.lst (([o] : List Str).map V.str)) := g_x1
      repeat (first | (with_reducible refine st_tC ?_) | (with_reducible refine st_tOp ?_) | ((with_reducible apply st_n); rfl; rfl; (first | trivial | (show _ ≤ _; omega) | (show _ < _; omega) | (show _ ∨ _; omega) | assumption | exact ⟨by assumption, by omega⟩ | exact ⟨W30.one, by omega⟩ | fail); rfl) | (with_reducible refine st_i0 rfl rfl rfl ?_) | ((with_reducible refine st_i rfl rfl ?_ rfl ?_); first | omega | exact ⟨by decide, by decide, by decide⟩ | exact .inl ⟨by decide, by decide⟩ | exact .inl ⟨by omega, by omega⟩ | exact .inr ⟨by omega, by omega⟩ | fail) | ((fail_if_success refine Exists.intro (α := Nat → Nat → L2.St → Hp → Prop) ?_ ?_); (fail_if_success refine Exists.intro (α := L2.St → Hp → Prop) ?_ ?_); (fail_if_success refine Exists.intro (α := Nat → L2.St → Hp → Prop) ?_ ?_); apply Exists.intro) | ((refine And.intro ?_ ?_); first | with_reducible rfl | with_reducible assumption | rfl | ((with_reducible apply SqL.of); assumption) | ((with_reducible apply SqT.of); assumption) | ((with_reducible apply OwnC.cl); assumption) | (with_reducible exact isI_int _) | exact within_args | (with_reducible exact upd_same) | ((with_reducible apply Mid.o); assumption) | ((with_reducible apply Mid.t); assumption) | exact .inl ⟨rfl, _, SqL.of (by assumption)⟩ | (with_reducible exact ⟨_, SqT.of (by assumption)⟩) | (with_reducible exact ⟨_, SqL.of (by assumption)⟩) | omega | exact Nat.le_of_ble_eq_true rfl | exact nat9 (by omega) | exact ⟨_, rfl⟩ | (show _ ≤ sizeLine; decide) | exact ⟨by decide, by decide, by decide⟩ | exact .inl ⟨by decide, by decide⟩ | exact .inl ⟨by omega, by omega⟩ | exact .inr ⟨by omega, by omega⟩ | assumption | fail) | ((with_reducible refine iteF' ?_ ?_); first | rfl | exact decide_eq_false (by omega) | exact in_no (by omega) (by omega) | exact in_no (by omega) (by assumption) | (simp <;> fail) | fail) | ((with_reducible refine iteT' ?_ ?_); first | rfl | exact decide_eq_true (by omega) | (simp <;> fail) | fail))
      refine ⟨by simp only [List.length_map, List.length_append, List.length_take, List.length_drop, List.length_cons, List.length_nil]; rw [sizeLine_eq]; omega, ?_⟩
      intro x2 h_x2; have np_x2 := M.pD h_x2; have nb_x2 := M.bD h_x2; generalize hE : upd _ x2 _ = Hx1; obtain ⟨S_x2, g_x2⟩ := new_facts h_x2 hE; clear hE; replace M := M.same S_x2; replace bt := bt.same S_x2; replace g_it := S_x2 _ _ g_it; replace g_x1 := S_x2 _ _ g_x1
      rw [← List.map_append] at g_x2
      repeat (first | (with_reducible refine st_tC ?_) | (with_reducible refine st_tOp ?_) | ((with_reducible apply st_n); rfl; rfl; (first | trivial | (show _ ≤ _; omega) | (show _ < _; omega) | (show _ ∨ _; omega) | assumption | exact ⟨by assumption, by omega⟩ | exact ⟨W30.one, by omega⟩ | fail); rfl) | (with_reducible refine st_i0 rfl rfl rfl ?_) | ((with_reducible refine st_i rfl rfl ?_ rfl ?_); first | omega | exact ⟨by decide, by decide, by decide⟩ | exact .inl ⟨by decide, by decide⟩ | exact .inl ⟨by omega, by omega⟩ | exact .inr ⟨by omega, by omega⟩ | fail) | ((fail_if_success refine Exists.intro (α := Nat → Nat → L2.St → Hp → Prop) ?_ ?_); (fail_if_success refine Exists.intro (α := L2.St → Hp → Prop) ?_ ?_); (fail_if_success refine Exists.intro (α := Nat → L2.St → Hp → Prop) ?_ ?_); apply Exists.intro) | ((refine And.intro ?_ ?_); first | with_reducible rfl | with_reducible assumption | rfl | ((with_reducible apply SqL.of); assumption) | ((with_reducible apply SqT.of); assumption) | ((with_reducible apply OwnC.cl); assumption) | (with_reducible exact isI_int _) | exact within_args | (with_reducible exact upd_same) | ((with_reducible apply Mid.o); assumption) | ((with_reducible apply Mid.t); assumption) | exact .inl ⟨rfl, _, SqL.of (by assumption)⟩ | (with_reducible exact ⟨_, SqT.of (by assumption)⟩) | (with_reducible exact ⟨_, SqL.of (by assumption)⟩) | omega | exact Nat.le_of_ble_eq_true rfl | exact nat9 (by omega) | exact ⟨_, rfl⟩ | (show _ ≤ sizeLine; decide) | exact ⟨by decide, by decide, by decide⟩ | exact .inl ⟨by decide, by decide⟩ | exact .inl ⟨by omega, by omega⟩ | exact .inr ⟨by omega, by omega⟩ | assumption | fail) | ((with_reducible refine iteF' ?_ ?_); first | rfl | exact decide_eq_false (by omega) | exact in_no (by omega) (by omega) | exact in_no (by omega) (by assumption) | (simp <;> fail) | fail) | ((with_reducible refine iteT' ?_ ?_); first | rfl | exact decide_eq_true (by omega) | (simp <;> fail) | fail))
      refine fin (ys ++ [o]) x2 Hx1 g_x2 (M.mono (by omega)) bt (fun y hy => ?_) (by simp only [List.length_append, List.length_take, List.length_drop, List.length_cons, List.length_nil]; omega)
      rcases List.mem_append.mp hy with z | z
      · exact .inl z
      · exact .inr (List.mem_singleton.mp z)
    · repeat (first | (with_reducible refine st_tC ?_) | (with_reducible refine st_tOp ?_) | ((with_reducible apply st_n); rfl; rfl; (first | trivial | (show _ ≤ _; omega) | (show _ < _; omega) | (show _ ∨ _; omega) | assumption | exact ⟨by assumption, by omega⟩ | exact ⟨W30.one, by omega⟩ | fail); rfl) | (with_reducible refine st_i0 rfl rfl rfl ?_) | ((with_reducible refine st_i rfl rfl ?_ rfl ?_); first | omega | exact ⟨by decide, by decide, by decide⟩ | exact .inl ⟨by decide, by decide⟩ | exact .inl ⟨by omega, by omega⟩ | exact .inr ⟨by omega, by omega⟩ | fail) | ((fail_if_success refine Exists.intro (α := Nat → Nat → L2.St → Hp → Prop) ?_ ?_); (fail_if_success refine Exists.intro (α := L2.St → Hp → Prop) ?_ ?_); (fail_if_success refine Exists.intro (α := Nat → L2.St → Hp → Prop) ?_ ?_); apply Exists.intro) | ((refine And.intro ?_ ?_); first | with_reducible rfl | with_reducible assumption | rfl | ((with_reducible apply SqL.of); assumption) | ((with_reducible apply SqT.of); assumption) | ((with_reducible apply OwnC.cl); assumption) | (with_reducible exact isI_int _) | exact within_args | (with_reducible exact upd_same) | ((with_reducible apply Mid.o); assumption) | ((with_reducible apply Mid.t); assumption) | exact .inl ⟨rfl, _, SqL.of (by assumption)⟩ | (with_reducible exact ⟨_, SqT.of (by assumption)⟩) | (with_reducible exact ⟨_, SqL.of (by assumption)⟩) | omega | exact Nat.le_of_ble_eq_true rfl | exact nat9 (by omega) | exact ⟨_, rfl⟩ | (show _ ≤ sizeLine; decide) | exact ⟨by decide, by decide, by decide⟩ | exact .inl ⟨by decide, by decide⟩ | exact .inl ⟨by omega, by omega⟩ | exact .inr ⟨by omega, by omega⟩ | assumption | fail) | ((with_reducible refine iteF' ?_ ?_); first | rfl | exact decide_eq_false (by omega) | exact in_no (by omega) (by omega) | exact in_no (by omega) (by assumption) | (simp <;> fail) | fail) | ((with_reducible refine iteT' ?_ ?_); first | rfl | exact decide_eq_true (by omega) | (simp <;> fail) | fail))
      refine iteF' (decide_eq_false fun z => n0 (by have := V.int.inj z; omega)) ?_
      repeat (first | (with_reducible refine st_tC ?_) | (with_reducible refine st_tOp ?_) | ((with_reducible apply st_n); rfl; rfl; (first | trivial | (show _ ≤ _; omega) | (show _ < _; omega) | (show _ ∨ _; omega) | assumption | exact ⟨by assumption, by omega⟩ | exact ⟨W30.one, by omega⟩ | fail); rfl) | (with_reducible refine st_i0 rfl rfl rfl ?_) | ((with_reducible refine st_i rfl rfl ?_ rfl ?_); first | omega | exact ⟨by decide, by decide, by decide⟩ | exact .inl ⟨by decide, by decide⟩ | exact .inl ⟨by omega, by omega⟩ | exact .inr ⟨by omega, by omega⟩ | fail) | ((fail_if_success refine Exists.intro (α := Nat → Nat → L2.St → Hp → Prop) ?_ ?_); (fail_if_success refine Exists.intro (α := L2.St → Hp → Prop) ?_ ?_); (fail_if_success refine Exists.intro (α := Nat → L2.St → Hp → Prop) ?_ ?_); apply Exists.intro) | ((refine And.intro ?_ ?_); first | with_reducible rfl | with_reducible assumption | rfl | ((with_reducible apply SqL.of); assumption) | ((with_reducible apply SqT.of); assumption) | ((with_reducible apply OwnC.cl); assumption) | (with_reducible exact isI_int _) | exact within_args | (with_reducible exact upd_same) | ((with_reducible apply Mid.o); assumption) | ((with_reducible apply Mid.t); assumption) | exact .inl ⟨rfl, _, SqL.of (by assumption)⟩ | (with_reducible exact ⟨_, SqT.of (by assumption)⟩) | (with_reducible exact ⟨_, SqL.of (by assumption)⟩) | omega | exact Nat.le_of_ble_eq_true rfl | exact nat9 (by omega) | exact ⟨_, rfl⟩ | (show _ ≤ sizeLine; decide) | exact ⟨by decide, by decide, by decide⟩ | exact .inl ⟨by decide, by decide⟩ | exact .inl ⟨by omega, by omega⟩ | exact .inr ⟨by omega, by omega⟩ | assumption | fail) | ((with_reducible refine iteF' ?_ ?_); first | rfl | exact decide_eq_false (by omega) | exact in_no (by omega) (by omega) | exact in_no (by omega) (by assumption) | (simp <;> fail) | fail) | ((with_reducible refine iteT' ?_ ?_); first | rfl | exact decide_eq_true (by omega) | (simp <;> fail) | fail))
      refine iteF' (decide_eq_false fun z => n1 (by have := V.int.inj z; omega)) ?_
      repeat (first | (with_reducible refine st_tC ?_) | (with_reducible refine st_tOp ?_) | ((with_reducible apply st_n); rfl; rfl; (first | trivial | (show _ ≤ _; omega) | (show _ < _; omega) | (show _ ∨ _; omega) | assumption | exact ⟨by assumption, by omega⟩ | exact ⟨W30.one, by omega⟩ | fail); rfl) | (with_reducible refine st_i0 rfl rfl rfl ?_) | ((with_reducible refine st_i rfl rfl ?_ rfl ?_); first | omega | exact ⟨by decide, by decide, by decide⟩ | exact .inl ⟨by decide, by decide⟩ | exact .inl ⟨by omega, by omega⟩ | exact .inr ⟨by omega, by omega⟩ | fail) | ((fail_if_success refine Exists.intro (α := Nat → Nat → L2.St → Hp → Prop) ?_ ?_); (fail_if_success refine Exists.intro (α := L2.St → Hp → Prop) ?_ ?_); (fail_if_success refine Exists.intro (α := Nat → L2.St → Hp → Prop) ?_ ?_); apply Exists.intro) | ((refine And.intro ?_ ?_); first | with_reducible rfl | with_reducible assumption | rfl | ((with_reducible apply SqL.of); assumption) | ((with_reducible apply SqT.of); assumption) | ((with_reducible apply OwnC.cl); assumption) | (with_reducible exact isI_int _) | exact within_args | (with_reducible exact upd_same) | ((with_reducible apply Mid.o); assumption) | ((with_reducible apply Mid.t); assumption) | exact .inl ⟨rfl, _, SqL.of (by assumption)⟩ | (with_reducible exact ⟨_, SqT.of (by assumption)⟩) | (with_reducible exact ⟨_, SqL.of (by assumption)⟩) | omega | exact Nat.le_of_ble_eq_true rfl | exact nat9 (by omega) | exact ⟨_, rfl⟩ | (show _ ≤ sizeLine; decide) | exact ⟨by decide, by decide, by decide⟩ | exact .inl ⟨by decide, by decide⟩ | exact .inl ⟨by omega, by omega⟩ | exact .inr ⟨by omega, by omega⟩ | assumption | fail) | ((with_reducible refine iteF' ?_ ?_); first | rfl | exact decide_eq_false (by omega) | exact in_no (by omega) (by omega) | exact in_no (by omega) (by assumption) | (simp <;> fail) | fail) | ((with_reducible refine iteT' ?_ ?_); first | rfl | exact decide_eq_true (by omega) | (simp <;> fail) | fail))
      refine iteF' (decide_eq_false fun z => n2 (by have := V.int.inj z; omega)) ?_
      repeat (first | (with_reducible refine st_tC ?_) | (with_reducible refine st_tOp ?_) | ((with_reducible apply st_n); rfl; rfl; (first | trivial | (show _ ≤ _; omega) | (show _ < _; omega) | (show _ ∨ _; omega) | assumption | exact ⟨by assumption, by omega⟩ | exact ⟨W30.one, by omega⟩ | fail); rfl) | (with_reducible refine st_i0 rfl rfl rfl ?_) | ((with_reducible refine st_i rfl rfl ?_ rfl ?_); first | omega | exact ⟨by decide, by decide, by decide⟩ | exact .inl ⟨by decide, by decide⟩ | exact .inl ⟨by omega, by omega⟩ | exact .inr ⟨by omega, by omega⟩ | fail) | ((fail_if_success refine Exists.intro (α := Nat → Nat → L2.St → Hp → Prop) ?_ ?_); (fail_if_success refine Exists.intro (α := L2.St → Hp → Prop) ?_ ?_); (fail_if_success refine Exists.intro (α := Nat → L2.St → Hp → Prop) ?_ ?_); apply Exists.intro) | ((refine And.intro ?_ ?_); first | with_reducible rfl | with_reducible assumption | rfl | ((with_reducible apply SqL.of); assumption) | ((with_reducible apply SqT.of); assumption) | ((with_reducible apply OwnC.cl); assumption) | (with_reducible exact isI_int _) | exact within_args | (with_reducible exact upd_same) | ((with_reducible apply Mid.o); assumption) | ((with_reducible apply Mid.t); assumption) | exact .inl ⟨rfl, _, SqL.of (by assumption)⟩ | (with_reducible exact ⟨_, SqT.of (by assumption)⟩) | (with_reducible exact ⟨_, SqL.of (by assumption)⟩) | omega | exact Nat.le_of_ble_eq_true rfl | exact nat9 (by omega) | exact ⟨_, rfl⟩ | (show _ ≤ sizeLine; decide) | exact ⟨by decide, by decide, by decide⟩ | exact .inl ⟨by decide, by decide⟩ | exact .inl ⟨by omega, by omega⟩ | exact .inr ⟨by omega, by omega⟩ | assumption | fail) | ((with_reducible refine iteF' ?_ ?_); first | rfl | exact decide_eq_false (by omega) | exact in_no (by omega) (by omega) | exact in_no (by omega) (by assumption) | (simp <;> fail) | fail) | ((with_reducible refine iteT' ?_ ?_); first | rfl | exact decide_eq_true (by omega) | (simp <;> fail) | fail))
      intro x1 h_x1; have np_x1 := M.pD h_x1; have nb_x1 := M.bD h_x1; generalize hE : upd _ x1 _ = Hx0; obtain ⟨S_x1, g_x1⟩ := new_facts h_x1 hE; clear hE; replace M := M.same S_x1; replace bt := bt.same S_x1; replace g_it := S_x1 _ _ g_it
      rw [cut_to, ← List.map_take] at g_x1
      repeat (first | (with_reducible refine st_tC ?_) | (with_reducible refine st_tOp ?_) | ((with_reducible apply st_n); rfl; rfl; (first | trivial | (show _ ≤ _; omega) | (show _ < _; omega) | (show _ ∨ _; omega) | assumption | exact ⟨by assumption, by omega⟩ | exact ⟨W30.one, by omega⟩ | fail); rfl) | (with_reducible refine st_i0 rfl rfl rfl ?_) | ((with_reducible refine st_i rfl rfl ?_ rfl ?_); first | omega | exact ⟨by decide, by decide, by decide⟩ | exact .inl ⟨by decide, by decide⟩ | exact .inl ⟨by omega, by omega⟩ | exact .inr ⟨by omega, by omega⟩ | fail) | ((fail_if_success refine Exists.intro (α := Nat → Nat → L2.St → Hp → Prop) ?_ ?_); (fail_if_success refine Exists.intro (α := L2.St → Hp → Prop) ?_ ?_); (fail_if_success refine Exists.intro (α := Nat → L2.St → Hp → Prop) ?_ ?_); apply Exists.intro) | ((refine And.intro ?_ ?_); first | with_reducible rfl | with_reducible assumption | rfl | ((with_reducible apply SqL.of); assumption) | ((with_reducible apply SqT.of); assumption) | ((with_reducible apply OwnC.cl); assumption) | (with_reducible exact isI_int _) | exact within_args | (with_reducible exact upd_same) | ((with_reducible apply Mid.o); assumption) | ((with_reducible apply Mid.t); assumption) | exact .inl ⟨rfl, _, SqL.of (by assumption)⟩ | (with_reducible exact ⟨_, SqT.of (by assumption)⟩) | (with_reducible exact ⟨_, SqL.of (by assumption)⟩) | omega | exact Nat.le_of_ble_eq_true rfl | exact nat9 (by omega) | exact ⟨_, rfl⟩ | (show _ ≤ sizeLine; decide) | exact ⟨by decide, by decide, by decide⟩ | exact .inl ⟨by decide, by decide⟩ | exact .inl ⟨by omega, by omega⟩ | exact .inr ⟨by omega, by omega⟩ | assumption | fail) | ((with_reducible refine iteF' ?_ ?_); first | rfl | exact decide_eq_false (by omega) | exact in_no (by omega) (by omega) | exact in_no (by omega) (by assumption) | (simp <;> fail) | fail) | ((with_reducible refine iteT' ?_ ?_); first | rfl | exact decide_eq_true (by omega) | (simp <;> fail) | fail))
      intro x2 h_x2; have np_x2 := M.pD h_x2; have nb_x2 := M.bD h_x2; generalize hE : upd _ x2 _ = Hx1; obtain ⟨S_x2, g_x2⟩ := new_facts h_x2 hE; clear hE; replace M := M.same S_x2; replace bt := bt.same S_x2; replace g_it := S_x2 _ _ g_it; replace g_x1 := S_x2 _ _ g_x1
      replace g_x2 : Hx1 x2 = some (.lst (([o] : List Str).map V.str)) := g_x2
      repeat (first | (with_reducible refine st_tC ?_) | (with_reducible refine st_tOp ?_) | ((with_reducible apply st_n); rfl; rfl; (first | trivial | (show _ ≤ _; omega) | (show _ < _; omega) | (show _ ∨ _; omega) | assumption | exact ⟨by assumption, by omega⟩ | exact ⟨W30.one, by omega⟩ | fail); rfl) | (with_reducible refine st_i0 rfl rfl rfl ?_) | ((with_reducible refine st_i rfl rfl ?_ rfl ?_); first | omega | exact ⟨by decide, by decide, by decide⟩ | exact .inl ⟨by decide, by decide⟩ | exact .inl ⟨by omega, by omega⟩ | exact .inr ⟨by omega, by omega⟩ | fail) | ((fail_if_success refine Exists.intro (α := Nat → Nat → L2.St → Hp → Prop) ?_ ?_); (fail_if_success refine Exists.intro (α := L2.St → Hp → Prop) ?_ ?_); (fail_if_success refine Exists.intro (α := Nat → L2.St → Hp → Prop) ?_ ?_); apply Exists.intro) | ((refine And.intro ?_ ?_); first | with_reducible rfl | with_reducible assumption | rfl | ((with_reducible apply SqL.of); assumption) | ((with_reducible apply SqT.of); assumption) | ((with_reducible apply OwnC.cl); assumption) | (with_reducible exact isI_int _) | exact within_args | (with_reducible exact upd_same) | ((with_reducible apply Mid.o); assumption) | ((with_reducible apply Mid.t); assumption) | exact .inl ⟨rfl, _, SqL.of (by assumption)⟩ | (with_reducible exact ⟨_, SqT.of (by assumption)⟩) | (with_reducible exact ⟨_, SqL.of (by assumption)⟩) | omega | exact Nat.le_of_ble_eq_true rfl | exact nat9 (by omega) | exact ⟨_, rfl⟩ | (show _ ≤ sizeLine; decide) | exact ⟨by decide, by decide, by decide⟩ | exact .inl ⟨by decide, by decide⟩ | exact .inl ⟨by omega, by omega⟩ | exact .inr ⟨by omega, by omega⟩ | assumption | fail) | ((with_reducible refine iteF' ?_ ?_); first | rfl | exact decide_eq_false (by omega) | exact in_no (by omega) (by omega) | exact in_no (by omega) (by assumption) | (simp <;> fail) | fail) | ((with_reducible refine iteT' ?_ ?_); first | rfl | exact decide_eq_true (by omega) | (simp <;> fail) | fail))
      refine ⟨by simp only [List.length_map, List.length_append, List.length_take, List.length_drop, List.length_cons, List.length_nil]; rw [sizeLine_eq]; omega, ?_⟩
      intro x3 h_x3; have np_x3 := M.pD h_x3; have nb_x3 := M.bD h_x3; generalize hE : upd _ x3 _ = Hx2; obtain ⟨S_x3, g_x3⟩ := new_facts h_x3 hE; clear hE; replace M := M.same S_x3; replace bt := bt.same S_x3; replace g_it := S_x3 _ _ g_it; replace g_x1 := S_x3 _ _ g_x1; replace g_x2 := S_x3 _ _ g_x2
      rw [← List.map_append] at g_x3
      repeat (first | (with_reducible refine st_tC ?_) | (with_reducible refine st_tOp ?_) | ((with_reducible apply st_n); rfl; rfl; (first | trivial | (show _ ≤ _; omega) | (show _ < _; omega) | (show _ ∨ _; omega) | assumption | exact ⟨by assumption, by omega⟩ | exact ⟨W30.one, by omega⟩ | fail); rfl) | (with_reducible refine st_i0 rfl rfl rfl ?_) | ((with_reducible refine st_i rfl rfl ?_ rfl ?_); first | omega | exact ⟨by decide, by decide, by decide⟩ | exact .inl ⟨by decide, by decide⟩ | exact .inl ⟨by omega, by omega⟩ | exact .inr ⟨by omega, by omega⟩ | fail) | ((fail_if_success refine Exists.intro (α := Nat → Nat → L2.St → Hp → Prop) ?_ ?_); (fail_if_success refine Exists.intro (α := L2.St → Hp → Prop) ?_ ?_); (fail_if_success refine Exists.intro (α := Nat → L2.St → Hp → Prop) ?_ ?_); apply Exists.intro) | ((refine And.intro ?_ ?_); first | with_reducible rfl | with_reducible assumption | rfl | ((with_reducible apply SqL.of); assumption) | ((with_reducible apply SqT.of); assumption) | ((with_reducible apply OwnC.cl); assumption) | (with_reducible exact isI_int _) | exact within_args | (with_reducible exact upd_same) | ((with_reducible apply Mid.o); assumption) | ((with_reducible apply Mid.t); assumption) | exact .inl ⟨rfl, _, SqL.of (by assumption)⟩ | (with_reducible exact ⟨_, SqT.of (by assumption)⟩) | (with_reducible exact ⟨_, SqL.of (by assumption)⟩) | omega | exact Nat.le_of_ble_eq_true rfl | exact nat9 (by omega) | exact ⟨_, rfl⟩ | (show _ ≤ sizeLine; decide) | exact ⟨by decide, by decide, by decide⟩ | exact .inl ⟨by decide, by decide⟩ | exact .inl ⟨by omega, by omega⟩ | exact .inr ⟨by omega, by omega⟩ | assumption | fail) | ((with_reducible refine iteF' ?_ ?_); first | rfl | exact decide_eq_false (by omega) | exact in_no (by omega) (by omega) | exact in_no (by omega) (by assumption) | (simp <;> fail) | fail) | ((with_reducible refine iteT' ?_ ?_); first | rfl | exact decide_eq_true (by omega) | (simp <;> fail) | fail))
      intro x4 h_x4; have np_x4 := M.pD h_x4; have nb_x4 := M.bD h_x4; generalize hE : upd _ x4 _ = Hx3; obtain ⟨S_x4, g_x4⟩ := new_facts h_x4 hE; clear hE; replace M := M.same S_x4; replace bt := bt.same S_x4; replace g_it := S_x4 _ _ g_it; replace g_x1 := S_x4 _ _ g_x1; replace g_x2 := S_x4 _ _ g_x2; replace g_x3 := S_x4 _ _ g_x3
      rw [cut_from1, ← List.map_drop] at g_x4
      repeat (first | (with_reducible refine st_tC ?_) | (with_reducible refine st_tOp ?_) | ((with_reducible apply st_n); rfl; rfl; (first | trivial | (show _ ≤ _; omega) | (show _ < _; omega) | (show _ ∨ _; omega) | assumption | exact ⟨by assumption, by omega⟩ | exact ⟨W30.one, by omega⟩ | fail); rfl) | (with_reducible refine st_i0 rfl rfl rfl ?_) | ((with_reducible refine st_i rfl rfl ?_ rfl ?_); first | omega | exact ⟨by decide, by decide, by decide⟩ | exact .inl ⟨by decide, by decide⟩ | exact .inl ⟨by omega, by omega⟩ | exact .inr ⟨by omega, by omega⟩ | fail) | ((fail_if_success refine Exists.intro (α := Nat → Nat → L2.St → Hp → Prop) ?_ ?_); (fail_if_success refine Exists.intro (α := L2.St → Hp → Prop) ?_ ?_); (fail_if_success refine Exists.intro (α := Nat → L2.St → Hp → Prop) ?_ ?_); apply Exists.intro) | ((refine And.intro ?_ ?_); first | with_reducible rfl | with_reducible assumption | rfl | ((with_reducible apply SqL.of); assumption) | ((with_reducible apply SqT.of); assumption) | ((with_reducible apply OwnC.cl); assumption) | (with_reducible exact isI_int _) | exact within_args | (with_reducible exact upd_same) | ((with_reducible apply Mid.o); assumption) | ((with_reducible apply Mid.t); assumption) | exact .inl ⟨rfl, _, SqL.of (by assumption)⟩ | (with_reducible exact ⟨_, SqT.of (by assumption)⟩) | (with_reducible exact ⟨_, SqL.of (by assumption)⟩) | omega | exact Nat.le_of_ble_eq_true rfl | exact nat9 (by omega) | exact ⟨_, rfl⟩ | (show _ ≤ sizeLine; decide) | exact ⟨by decide, by decide, by decide⟩ | exact .inl ⟨by decide, by decide⟩ | exact .inl ⟨by omega, by omega⟩ | exact .inr ⟨by omega, by omega⟩ | assumption | fail) | ((with_reducible refine iteF' ?_ ?_); first | rfl | exact decide_eq_false (by omega) | exact in_no (by omega) (by omega) | exact in_no (by omega) (by assumption) | (simp <;> fail) | fail) | ((with_reducible refine iteT' ?_ ?_); first | rfl | exact decide_eq_true (by omega) | (simp <;> fail) | fail))
      refine ⟨by simp only [List.length_map, List.length_append, List.length_take, List.length_drop, List.length_cons, List.length_nil]; rw [sizeLine_eq]; omega, ?_⟩
      intro x5 h_x5; have np_x5 := M.pD h_x5; have nb_x5 := M.bD h_x5; generalize hE : upd _ x5 _ = Hx4; obtain ⟨S_x5, g_x5⟩ := new_facts h_x5 hE; clear hE; replace M := M.same S_x5; replace bt := bt.same S_x5; replace g_it := S_x5 _ _ g_it; replace g_x1 := S_x5 _ _ g_x1; replace g_x2 := S_x5 _ _ g_x2; replace g_x3 := S_x5 _ _ g_x3; replace g_x4 := S_x5 _ _ g_x4
      rw [← List.map_append] at g_x5
      repeat (first | (with_reducible refine st_tC ?_) | (with_reducible refine st_tOp ?_) | ((with_reducible apply st_n); rfl; rfl; (first | trivial | (show _ ≤ _; omega) | (show _ < _; omega) | (show _ ∨ _; omega) | assumption | exact ⟨by assumption, by omega⟩ | exact ⟨W30.one, by omega⟩ | fail); rfl) | (with_reducible refine st_i0 rfl rfl rfl ?_) | ((with_reducible refine st_i rfl rfl ?_ rfl ?_); first | omega | exact ⟨by decide, by decide, by decide⟩ | exact .inl ⟨by decide, by decide⟩ | exact .inl ⟨by omega, by omega⟩ | exact .inr ⟨by omega, by omega⟩ | fail) | ((fail_if_success refine Exists.intro (α := Nat → Nat → L2.St → Hp → Prop) ?_ ?_); (fail_if_success refine Exists.intro (α := L2.St → Hp → Prop) ?_ ?_); (fail_if_success refine Exists.intro (α := Nat → L2.St → Hp → Prop) ?_ ?_); apply Exists.intro) | ((refine And.intro ?_ ?_); first | with_reducible rfl | with_reducible assumption | rfl | ((with_reducible apply SqL.of); assumption) | ((with_reducible apply SqT.of); assumption) | ((with_reducible apply OwnC.cl); assumption) | (with_reducible exact isI_int _) | exact within_args | (with_reducible exact upd_same) | ((with_reducible apply Mid.o); assumption) | ((with_reducible apply Mid.t); assumption) | exact .inl ⟨rfl, _, SqL.of (by assumption)⟩ | (with_reducible exact ⟨_, SqT.of (by assumption)⟩) | (with_reducible exact ⟨_, SqL.of (by assumption)⟩) | omega | exact Nat.le_of_ble_eq_true rfl | exact nat9 (by omega) | exact ⟨_, rfl⟩ | (show _ ≤ sizeLine; decide) | exact ⟨by decide, by decide, by decide⟩ | exact .inl ⟨by decide, by decide⟩ | exact .inl ⟨by omega, by omega⟩ | exact .inr ⟨by omega, by omega⟩ | assumption | fail) | ((with_reducible refine iteF' ?_ ?_); first | rfl | exact decide_eq_false (by omega) | exact in_no (by omega) (by omega) | exact in_no (by omega) (by assumption) | (simp <;> fail) | fail) | ((with_reducible refine iteT' ?_ ?_); first | rfl | exact decide_eq_true (by omega) | (simp <;> fail) | fail))
      refine fin (ys.take at' ++ [o] ++ ys.drop (at' + 1)) x5 Hx4 g_x5 (M.mono (by omega)) bt (fun y hy => ?_) (by simp only [List.length_append, List.length_take, List.length_drop, List.length_cons, List.length_nil]; omega)
      rcases List.mem_append.mp hy with z | z
      · rcases List.mem_append.mp z with z | z
        · exact .inl (mt z)
        · exact .inr (List.mem_singleton.mp z)
      · exact .inl (md z)
end
end K53
namespace K53
open PySem PySem.Spec PyProof.Rows L2 OB SkE LamX
structure ErrR (K : PySem.W.Frag) (CF C : Addr) : Prop where
  xf : XfC K C
  ec : ExcC K C
  ex : PySem.W.exmOne K (.ref C) (.ref CF) = some true
structure Kinds (K : PySem.W.Frag) (mg : Str → Option Value) (CF CC CT : Addr) : Prop where
  gF : mg "FlipError" = some (.ref CF)
  gC : mg "BadStore" = some (.ref CC)
  gT : mg "BadText" = some (.ref CT)
  rC : ErrR K CF CC
  rT : ErrR K CF CT
  nC : PySem.W.findIn K (.ref CC) "part" = some none
  n1 : PySem.W.findIn K (.ref CT) "line" = some none
  n2 : PySem.W.findIn K (.ref CT) "item" = some none
  kCC : PySem.W.kitOne K (.ref CC) (.ref CC) = some true
  kTC : PySem.W.kitOne K (.ref CT) (.ref CC) = some false
  kTT : PySem.W.kitOne K (.ref CT) (.ref CT) = some true
def TTheard (CC CT : Addr) : List V → (XK → Hp → VK → Prop) → Hp → VK → Prop := fun vs tl H Q => vs = [] ∧
  tl (fun cls d H' => ∃ dd : Addr, d = some dd ∧ ((cls = .ref CC ∧ ∃ part : Str, H' dd = some (.xd [(("part" : Str), .str part)]) ∧ ∀ p H'', Same H' H'' → H'' p = some (.tup [.str "store", .str part]) → Q (.ref p) H'') ∨
    (cls = .ref CT ∧ ∃ ln it : Int, H' dd = some (.xd [(("item" : Str), .int it), (("line" : Str), .int ln)]) ∧ ∀ p H'', Same H' H'' → H'' p = some (.tup [.str "text", .int ln, .int it]) → Q (.ref p) H''))) H fun _ _ => False
section
theorem sc__law_heard : FnScope ["ask", "caught", "error"] ["ask"] (defScope s__law_heard) := ⟨rfl, rfl, rfl, by decide +kernel, rfl, by decide +kernel, by decide +kernel⟩
abbrev N__law_heard : List Str := ["ask", "caught", "error"]
theorem heard_gives {X : Cx} {g CF CC CT : Addr} {cdg : Value} {q : Str} {kk : Nat} (Z : Kinds X.K X.mg CF CC CT) (T : Blt X.mg) : Gives X ["ask", "caught", "error"] "_law_heard" (defScope s__law_heard) g cdg (defBody s__law_heard) "ask" q kk (TTheard CC CT) := by
  intro f c' vs s H Q tl hr act hc mono h
  obtain ⟨rfl, h⟩ := h
  have g_FlipError := Z.gF
  have g_BadStore := Z.gC
  have g_BadText := Z.gT
  refine ⟨_, (pss_cons (ps_set (i := 1) sc__law_heard.nd rfl (Or.inl rfl) pe_non)
  (pss_cons (ps_try_keep (i := 2) (j := 1) (Wout := fun _ _ _ _ => False) rfl rfl rfl sc__law_heard.nd rfl rfl rfl rfl ⟨by rfl, by decide, .inl g_FlipError⟩ L2.takes0 (fun W pn xe tk _ => (pss_one (ps_expr (act W pn xe _ _ tk)))))
  (pss_cons (ps_if (pt_val (pe_callB (call_or call_isX call_isi) (by rfl) T.n_isinstance (by decide +kernel) (pa_cons (pv 1) (pa_cons (pe_glob (v := .ref _) (by rfl) g_BadStore rfl) pa_nil)))) (pss_one (ps_ret (pe_tup (pa_cons pe_str (pa_cons (pe_xa (pv 1)) pa_nil))))) pss_nil)
  (pss_cons (ps_if (pt_val (pe_callB (call_or call_isX call_isi) (by rfl) T.n_isinstance (by decide +kernel) (pa_cons (pv 1) (pa_cons (pe_glob (v := .ref _) (by rfl) g_BadText rfl) pa_nil)))) (pss_one (ps_ret (pe_tup (pa_cons pe_str (pa_cons (pe_xa (pv 1)) (pa_cons (pe_xa (pv 1)) pa_nil)))))) pss_nil)
  (pss_one ps_never))))), ?_⟩
  refine ⟨rfl, hc, ?_⟩
  refine mono _ _ _ _ _ ?_ ?_ h
  rotate_left
  · intro v H' k
    exact k.elim
  · rintro cls d H' ⟨dd, rfl, ⟨rfl, part, hd, k⟩ | ⟨rfl, ln, it, hd, k⟩⟩
    · refine ⟨true, Z.rC.ex, fun _ a ha => ?_, fun z => nomatch z⟩
      have nad : dd ≠ a := ne_of_none hd ha
      have hd1 : (upd H' a (ExA (.ref CC) (some dd) a)) dd = some (.xd [(("part" : Str), .str part)]) := by
        rw [upd_ne nad]
        exact hd
      have S0 := same_new (o := ExA (.ref CC) (some dd) a) ha
      refine ⟨_, rfl, .inl ⟨a, CC, some dd, .ref CC, .ref CC, true, rfl, Z.rC.ec, upd_same, (fun z e => by cases e; exact ⟨_, hd1⟩), .own CC, Z.kCC, ?_⟩⟩
      exact ⟨true, rfl, _, rfl, a, CC, dd, _, _, rfl, Z.rC.xf, Z.nC, upd_same, hd1, rfl, (by show 2 ≤ sizeLine; decide), fun p hp => k p _ (S0.trans (same_new hp)) upd_same⟩
    · refine ⟨true, Z.rT.ex, fun _ a ha => ?_, fun z => nomatch z⟩
      have nad : dd ≠ a := ne_of_none hd ha
      have hd1 : (upd H' a (ExA (.ref CT) (some dd) a)) dd = some (.xd [(("item" : Str), .int it), (("line" : Str), .int ln)]) := by
        rw [upd_ne nad]
        exact hd
      have S0 := same_new (o := ExA (.ref CT) (some dd) a) ha
      refine ⟨_, rfl, .inl ⟨a, CT, some dd, .ref CC, .ref CC, false, rfl, Z.rT.ec, upd_same, (fun z e => by cases e; exact ⟨_, hd1⟩), .own CC, Z.kTC, ?_⟩⟩
      refine ⟨false, rfl, ?_⟩
      refine ⟨_, rfl, .inl ⟨a, CT, some dd, .ref CT, .ref CT, true, rfl, Z.rT.ec, upd_same, (fun z e => by cases e; exact ⟨_, hd1⟩), .own CT, Z.kTT, ?_⟩⟩
      exact ⟨true, rfl, _, rfl, a, CT, dd, _, _, rfl, Z.rT.xf, Z.n1, upd_same, hd1, rfl, _, rfl, a, CT, dd, _, _, rfl, Z.rT.xf, Z.n2, upd_same, hd1, rfl, (by show 3 ≤ sizeLine; decide), fun p hp => k p _ (S0.trans (same_new hp)) upd_same⟩
end
end K53
namespace K53
open PySem PySem.Spec PyProof.Rows L2 OB SkE LamX
/-- what the law draws for a number that is none -/
def BadV (H : Hp) (x : V) : Prop := x = .non ∨ x = .bl true ∨ x = .str "3" ∨ ∃ a, x = .ref a ∧ (H a = some (.tup [.int 2]) ∨ H a = some (.lst [.int 1]))
structure Tv (H : Hp) (x : V) : Prop where
  is : (∃ i : Int, x = .int i) ∨ BadV H x
theorem Tv.imp {H H' : Hp} {x : V} (h : Tv H x) (k : ∀ a o, H a = some o → (o = .tup [.int 2] ∨ o = .lst [.int 1]) → H' a = some o) : Tv H' x := by
  rcases h.is with h | h | h | h | ⟨a, e, h | h⟩
  · exact ⟨.inl h⟩
  · exact ⟨.inr (.inl h)⟩
  · exact ⟨.inr (.inr (.inl h))⟩
  · exact ⟨.inr (.inr (.inr (.inl h)))⟩
  · exact ⟨.inr (.inr (.inr (.inr ⟨a, e, .inl (k _ _ h (.inl rfl))⟩)))⟩
  · exact ⟨.inr (.inr (.inr (.inr ⟨a, e, .inr (k _ _ h (.inr rfl))⟩)))⟩
theorem Tv.same {H H' : Hp} {x : V} (h : Tv H x) (S : Same H H') : Tv H' x := h.imp fun _ _ e _ => S _ _ e
theorem Tv.but {p b : Addr} {ys : List V} {H H' : Hp} {x : V} (h : Tv H x) (B : But p H H') (hp : H p = some (.lst (.ref b :: ys))) : Tv H' x :=
  h.imp fun a o e c => B _ _ e fun z => by rw [z, hp] at e; cases e; rcases c with c | c <;> cases c
theorem Tv.ext {H H' : Hp} {x : V} (h : Tv H x) (S : ExtN H H') : Tv H' x := h.imp fun a o e c => S _ _ e fun ps z => by rw [z] at c; rcases c with c | c <;> cases c
def isIn (x : V) (lo hi : Int) : Bool := match x with
  | .int i => decide (lo ≤ i) && decide (i ≤ hi)
  | _ => false
theorem Tv.bad {K : PySem.W.Frag} {H : Hp} {x : V} {lo hi : Int} (h : Tv H x) (e : isIn x lo hi = false) : Bad K H x (some lo) (some hi) := by
  rcases h.is with ⟨i, rfl⟩ | rfl | rfl | rfl | ⟨a, rfl, h | h⟩
  · exact ⟨true, isI_int _, e⟩
  · exact ⟨false, isI_non, rfl⟩
  · exact ⟨false, isI_bl _, rfl⟩
  · exact ⟨false, isI_str _, rfl⟩
  · exact ⟨false, isI_tup h, rfl⟩
  · exact ⟨false, isI_lst h, rfl⟩
theorem isIn_nat {x : V} {lo hi : Int} (h : isIn x lo hi = true) (l0 : 0 ≤ lo) : ∃ n : Nat, x = .int (n : Int) ∧ lo ≤ (n : Int) ∧ (n : Int) ≤ hi := by
  unfold isIn at h
  split at h
  · rename_i i
    rw [Bool.and_eq_true] at h
    have h1 := of_decide_eq_true h.1
    have h2 := of_decide_eq_true h.2
    obtain ⟨n, rfl⟩ := Int.eq_ofNat_of_zero_le (show 0 ≤ i by omega)
    exact ⟨n, rfl, h1, h2⟩
  · cases h
def spIsIn : Sp := fun vs H Q _ => ∃ (x : V) (lo hi : Int), vs = [x, .int lo, .int hi] ∧ Tv H x ∧ Q (.bl (isIn x lo hi)) H
section
variable {P : Program} {w : World} {K : PySem.W.Frag} {mg : Str → Option Value} {base : Heap}
theorem sc__law_is_in : FnScope ["value", "least", "most"] ["value", "least", "most"] (defScope s__law_is_in) := ⟨rfl, rfl, rfl, by decide +kernel, rfl, by decide +kernel, by decide +kernel⟩
abbrev N__law_is_in : List Str := ["value", "least", "most"]
theorem ok__law_is_in {f : Addr} {fd : FuncData} (F : Fun K "_law_is_in" "_law_is_in" s__law_is_in f fd) (T : Blt mg) : FnOk P w K mg base CX0 1 f fd ["value", "least", "most"] spIsIn := by
  refine F.ok sc__law_is_in (fun vs H Q E h => ?_) (fun cdv A outer s H vs Q E hr h => ?_)
  · obtain ⟨x, lo, hi, rfl, _⟩ := h
    rfl
  · obtain ⟨x, lo, hi, rfl, tv, k⟩ := h
    refine ⟨_, (pss_one (ps_ret (pe_and (pe_callB call_isi (by rfl) T.n_isinstance (by decide +kernel) (pa_cons (pv 0) (pa_cons (pe_bltn (v := .ty "int") (by rfl) T.n_int (by decide +kernel) rfl) pa_nil))) (pe_and (pe_not (pe_callB call_isi (by rfl) T.n_isinstance (by decide +kernel) (pa_cons (pv 0) (pa_cons (pe_bltn (v := .ty "bool") (by rfl) T.n_bool (by decide +kernel) rfl) pa_nil)))) (pe_one (pe_chain op_le op_le (pv 1) (pv 0) (pv 2))))))), ?_⟩
    rcases tv.is with ⟨i, rfl⟩ | rfl | rfl | rfl | ⟨a, rfl, ha | ha⟩
    · refine ⟨_, rfl, _, .ty "int", .type "int", .type "int", true, rfl, .ty _, .base (.int _), kit_ty (by decide +kernel), true, rfl, iteT ?_⟩
      refine ⟨_, rfl, _, .ty "bool", .type "int", .type "bool", false, rfl, .ty _, .base (.int _), kit_ty (by decide +kernel), false, rfl, ?_⟩
      refine ⟨true, rfl, ?_⟩
      refine iteT ?_
      refine ⟨_, rfl, _, rfl, _, _, rfl, rfl, _, rfl, ?_⟩
      have k : Q (.bl (decide (lo ≤ i) && decide (i ≤ hi))) H := k
      refine iteB (fun c => ?_) (fun c => ?_)
      · rw [c, Bool.true_and] at k
        repeat (first | (with_reducible refine st_tC ?_) | (with_reducible refine st_tOp ?_) | ((with_reducible apply st_n); rfl; rfl; (first | trivial | (show _ ≤ _; omega) | (show _ < _; omega) | (show _ ∨ _; omega) | assumption | exact ⟨by assumption, by omega⟩ | exact ⟨W30.one, by omega⟩ | fail); rfl) | (with_reducible refine st_i0 rfl rfl rfl ?_) | ((with_reducible refine st_i rfl rfl ?_ rfl ?_); first | omega | exact ⟨by decide, by decide, by decide⟩ | exact .inl ⟨by decide, by decide⟩ | exact .inl ⟨by omega, by omega⟩ | exact .inr ⟨by omega, by omega⟩ | fail) | ((fail_if_success refine Exists.intro (α := Nat → Nat → L2.St → Hp → Prop) ?_ ?_); (fail_if_success refine Exists.intro (α := L2.St → Hp → Prop) ?_ ?_); (fail_if_success refine Exists.intro (α := Nat → L2.St → Hp → Prop) ?_ ?_); apply Exists.intro) | ((refine And.intro ?_ ?_); first | with_reducible rfl | with_reducible assumption | rfl | ((with_reducible apply SqL.of); assumption) | ((with_reducible apply SqT.of); assumption) | ((with_reducible apply OwnC.cl); assumption) | (with_reducible exact isI_int _) | exact within_args | (with_reducible exact upd_same) | ((with_reducible apply Mid.o); assumption) | ((with_reducible apply Mid.t); assumption) | exact .inl ⟨rfl, _, SqL.of (by assumption)⟩ | (with_reducible exact ⟨_, SqT.of (by assumption)⟩) | (with_reducible exact ⟨_, SqL.of (by assumption)⟩) | omega | exact Nat.le_of_ble_eq_true rfl | exact nat9 (by omega) | exact ⟨_, rfl⟩ | (show _ ≤ sizeLine; decide) | exact ⟨by decide, by decide, by decide⟩ | exact .inl ⟨by decide, by decide⟩ | exact .inl ⟨by omega, by omega⟩ | exact .inr ⟨by omega, by omega⟩ | assumption | fail) | ((with_reducible refine iteF' ?_ ?_); first | rfl | exact decide_eq_false (by omega) | exact in_no (by omega) (by omega) | exact in_no (by omega) (by assumption) | (simp <;> fail) | fail) | ((with_reducible refine iteT' ?_ ?_); first | rfl | exact decide_eq_true (by omega) | (simp <;> fail) | fail))
        exact k
      · rw [c, Bool.false_and] at k
        exact k
    · exact ⟨_, rfl, _, .ty "int", .type "NoneType", .type "int", false, rfl, .ty _, .base .non, kit_ty (by decide +kernel), false, rfl, iteF k⟩
    · refine ⟨_, rfl, _, .ty "int", .type "bool", .type "int", true, rfl, .ty _, .base (.bl _), kit_ty (by decide +kernel), true, rfl, iteT ?_⟩
      exact ⟨_, rfl, _, .ty "bool", .type "bool", .type "bool", true, rfl, .ty _, .base (.bl _), kit_ty (by decide +kernel), true, rfl, false, rfl, iteF k⟩
    · exact ⟨_, rfl, _, .ty "int", .type "str", .type "int", false, rfl, .ty _, .base (.str _), kit_ty (by decide +kernel), false, rfl, iteF k⟩
    · exact ⟨_, rfl, _, .ty "int", .type "tuple", .type "int", false, rfl, .ty _, .base (.tup ha), kit_ty (by decide +kernel), false, rfl, iteF k⟩
    · exact ⟨_, rfl, _, .ty "int", .type "list", .type "int", false, rfl, .ty _, .base (.lst ha), kit_ty (by decide +kernel), false, rfl, iteF k⟩
end
end K53
/-! isinstance(e, (C1, C2)), e an exception that is kept. -/
namespace OB
open PySem PySem.Spec PyProof.Rows L2
def rIsXT (K : PySem.W.Frag) : List V → Hp → VK → Prop := fun xs H Q => ∃ (a D : Addr) (d : Option Addr) (tp : Addr) (cs : List V) (us : List Value) (b : Bool), xs = [.ref a, .ref tp] ∧ ExcC K D ∧ H a = some (ExA (.ref D) d a) ∧ (∀ dd, d = some dd → ∃ fs, H dd = some (.xd fs)) ∧ H tp = some (.tup cs) ∧ Paired ClsV cs us ∧ PySem.W.kitAny K (.ref D) us = some b ∧ Q (.bl b) H
theorem call_isXT {X : Cx} : CallR X (.builtin "isinstance") (rIsXT X.K) := by
  intro pins s σ H xs us Q I r h
  obtain ⟨a, D, d, tp, cs, ws, b, rfl, C, ha, hd, hT, k, e, q⟩ := h
  obtain ⟨u1, u2, rfl, r1, r2⟩ := vals2 r
  obtain rfl : u1 = Value.ref a := r1
  obtain rfl : u2 = Value.ref tp := r2
  obtain ⟨oe, od, J⟩ := inst_at I ha hd
  have tupOk : ObjOk X.prog X.w H s.heap tp (.tup cs) := I.hok tp _ hT
  obtain ⟨_, its, rv, ob, g1, g2, n, g3⟩ := tupOk
  obtain rfl := ClsV.all k rv
  obtain ⟨oc, odd, dt, sl⟩ := ob
  simp only at g2 g3
  subst g2 g3
  exact PySem.W.kia_tup (exc_kit C) I.kIn J g1 e (fun z => nomatch z) fun tk => ⟨.bl b, H, I.tok tk, rfl, q⟩
end OB
/-! Data in a tuple of data. -/
namespace OB
open PySem PySem.Spec PyProof.Rows L2
theorem units65 {k : Nat} {A : Around} (r : Room k A) : A.units + 65 < cLine := by have := r.un; omega
def rInT (K : PySem.W.Frag) : R2 := fun x y H Q => ∃ d ds, Dp K H x d ∧ Dp K H y (.tuple ds) ∧ SeqAt.shaped d = true ∧ SeqAt.shaped (.list ds) = true ∧ Q (.bl (ds.any fun z => PyData.eqv z d)) H
def rNotInT (K : PySem.W.Frag) : R2 := fun x y H Q => ∃ d ds, Dp K H x d ∧ Dp K H y (.tuple ds) ∧ SeqAt.shaped d = true ∧ SeqAt.shaped (.list ds) = true ∧ Q (.bl (!ds.any fun z => PyData.eqv z d)) H
theorem op_inT {X : Cx} (hu : X.A.units + 65 < cLine) : OpR X (compareOp .In) (rInT X.K) := by
  intro pins s σ H x y v u Q I rx ry h
  obtain ⟨d, ds, hd, he, sd, se, q⟩ := h
  obtain ⟨as, r1⟩ := Dp.reads I d x v hd rx
  obtain ⟨bs, r2⟩ := Dp.reads I (.tuple ds) y u he ry
  exact SeqAt.in_tuple_reads r2 r1 (SeqAt.canLay_of_shaped se) (SeqAt.canLay_of_shaped sd) (room_in_shaped sd hu) ⟨.bl _, H, I, rfl, q⟩
theorem op_notInT {X : Cx} (hu : X.A.units + 65 < cLine) : OpR X (compareOp .NotIn) (rNotInT X.K) := by
  intro pins s σ H x y v u Q I rx ry h
  obtain ⟨d, ds, hd, he, sd, se, q⟩ := h
  obtain ⟨as, r1⟩ := Dp.reads I d x v hd rx
  obtain ⟨bs, r2⟩ := Dp.reads I (.tuple ds) y u he ry
  exact SeqAt.notIn_tuple_reads r2 r1 (SeqAt.canLay_of_shaped se) (SeqAt.canLay_of_shaped sd) (room_in_shaped sd hu) ⟨.bl _, H, I, rfl, q⟩
end OB
/-! == and != of an own object beside a text. -/
namespace OB
open PySem PySem.Spec PyProof.Rows L2
def NotFirst2 (K : PySem.W.Frag) (C : Addr) (y : V) (H : Hp) : Prop := NotFirst K C y H ∨ ∃ z : Str, y = .str z ∧ PySem.W.subIn K (.type "str") (.ref C) = some false
section
variable {X : Cx} {pins : List (Addr × Obj)} {σ : L2.St} {H : Hp} {s : Shared}
theorem nf_looks2 {C : Addr} {y : V} {v : Value} (I : Inv X pins σ H s) (ry : RelV y v) (h : NotFirst2 X.K C y H) : ∃ tb, PySem.W.Looks (model X.prog X.w) s.heap (typeOf v) tb ∧ PySem.W.notFirst X.K C tb = true := by
  rcases h with h | ⟨z, rfl, hs⟩
  · exact nf_looks I ry h
  · obtain ⟨t, rfl⟩ := (show ∃ t, v = Value.str z t from ry)
    refine ⟨.type "str", PySem.W.Looks.of_pure rfl, ?_⟩
    unfold PySem.W.notFirst
    rw [hs]
    simp
end
def rEqO2 (K : PySem.W.Frag) (C : Addr) (sp : Sp) (E : XK) : R2 := fun x y H Q => ∃ a dx fs, x = .ref a ∧ H a = some (.ins C dx fs) ∧ NotFirst2 K C y H ∧ sp [x, y] H (fun v H' => ∃ b, v = .bl b ∧ Q (.bl b) H') E
section
variable {X : Cx} {n : Nat} {CX : CXT} {C f : Addr} {fd : FuncData} {ps : List Str} {sp : Sp} {E : XK}
theorem op_eqO2 (F : FnOk X.prog X.w X.K X.mg X.base CX n f fd ps sp) (O : OwnEqC X.K C f) (hb : L2.Binds X.K fd ps []) (hx : Passes CX X E) (hr : Room n X.A) : OpR X (compareOp .Eq) (rEqO2 X.K C sp E) := by
  intro pins s σ H x y v u Q I rx ry hq
  obtain ⟨a, dx, fs, rfl, ha, nf, h⟩ := hq
  cases (show v = Value.ref a from rx)
  obtain ⟨mA, J, _⟩ := ins_get I.hok ha
  obtain ⟨od, J, _⟩ := J.look
  obtain ⟨m, hF⟩ := I.fr
  obtain ⟨tb, L, nf⟩ := nf_looks2 I ry nf
  show wpAny (model X.prog X.w) X.A (richCompare .Eq (.ref a) u) (EP X pins σ Q) X.xe s
  refine PySem.W.cmp_K (op := .Eq) hr.units0 hF I.ok.mod.kin J L nf O.eq O.fn ?_
  refine wpAny_mono (sub_run F hb hx ⟨hr, rfl⟩ I (Paired.cons (show L2.RelV (.ref a) (.ref a) from rfl) (.cons ry .nil)) h) (fun r s' q => ?_) fun _ _ z => z
  obtain ⟨z, H', I', rz, b, rfl, q⟩ := q
  cases rz
  exact ⟨.bl b, H', I', rfl, q⟩
end
end OB
/-! Bits flipped one by one. -/
namespace M03
def flN (n : Nat) (ns : List Nat) : Nat := ns.foldl (fun v b => v ^^^ 2 ^ b) n
theorem flN_bit (ns : List Nat) : ∀ (n i : Nat), ns.Nodup → (flN n ns).testBit i = (n.testBit i ^^ decide (i ∈ ns)) := by
  induction ns with
  | nil =>
    intro n i _
    show n.testBit i = _
    simp
  | cons b r ih =>
    intro n i h
    have h2 := List.nodup_cons.mp h
    show (flN (n ^^^ 2 ^ b) r).testBit i = _
    rw [ih _ i h2.2, Nat.testBit_xor, Nat.testBit_two_pow, Bool.xor_assoc]
    congr 1
    by_cases e : b = i
    · subst e
      simp [h2.1]
    · have e' : ¬ i = b := fun z => e z.symm
      simp [e, e']
theorem bits_of_fl {n : Nat} {ns : List Nat} (h : ns.Nodup) (i : Nat) : (n ^^^ flN n ns).testBit i = decide (i ∈ ns) := by
  rw [Nat.testBit_xor, flN_bit ns n i h, ← Bool.xor_assoc, Bool.xor_self, Bool.false_xor]
theorem fl_lt {n k : Nat} {ns : List Nat} (hn : n < 2 ^ k) (h : ∀ b ∈ ns, b < k) : flN n ns < 2 ^ k := by
  induction ns generalizing n with
  | nil => exact hn
  | cons b r ih =>
    show flN (n ^^^ 2 ^ b) r < 2 ^ k
    exact ih (Nat.xor_lt_two_pow hn (Nat.pow_lt_pow_right (by decide) (h b List.mem_cons_self))) fun x hx => h x (List.mem_cons_of_mem _ hx)
/-- the bits of a number, ascending -/
def DB (n c : Nat) : List Nat := (M04.D n c).reverse
theorem DB_mem {n c : Nat} (h : n < 2 ^ c) (i : Nat) : i ∈ DB n c ↔ n.testBit i = true := by
  unfold DB
  rw [M04.D_rev, List.mem_filter, List.mem_range, M07.one_bit]
  refine ⟨fun z => z.2, fun z => ⟨?_, z⟩⟩
  by_cases e : i < c
  · exact e
  · exact absurd z (by rw [Nat.testBit_lt_two_pow (Nat.lt_of_lt_of_le h (Nat.pow_le_pow_right (by decide) (Nat.le_of_not_lt e)))]; decide)
theorem DB_up (n c : Nat) : (DB n c).Pairwise (· < ·) := by
  unfold DB
  rw [M04.D_rev]
  exact List.pairwise_lt_range.filter _
theorem DB_nodup (n c : Nat) : (DB n c).Nodup := (DB_up n c).imp fun h => Nat.ne_of_lt h
/-- the bits of the difference, a drawn lot in order -/
theorem DB_perm {m c : Nat} {ns : List Nat} (hm : m < 2 ^ c) (h : ns.Nodup) (hb : ∀ i, m.testBit i = decide (i ∈ ns)) : (DB m c).Perm ns := by
  rw [List.perm_ext_iff_of_nodup (DB_nodup m c) h]
  intro i
  rw [DB_mem hm, hb, decide_eq_true_eq]
theorem DB_ints_up (m c : Nat) : ((DB m c).map fun (x : Nat) => (x : Int)).Pairwise (· ≤ ·) := by
  rw [List.pairwise_map]
  exact (DB_up m c).imp fun h => by omega
end M03
/-! Words of stores: numbers laid beside one another, rows, what lies in the cells. -/
namespace MS
def num (w i s : Nat) : Nat := w / 2 ^ (i * s) % 2 ^ s
def nums (w n s : Nat) : List Nat := (List.range n).map fun i => num w i s
def cat (s : Nat) : List Nat → Nat
  | [] => 0
  | v :: r => v + 2 ^ s * cat s r
theorem two_pos (k : Nat) : 0 < 2 ^ k := Nat.two_pow_pos k
theorem nums_len (w n s : Nat) : (nums w n s).length = n := by unfold nums; rw [List.length_map, List.length_range]
theorem num_lt (w i s : Nat) : num w i s < 2 ^ s := Nat.mod_lt _ (two_pos s)
theorem nums_lt {w n s v : Nat} (h : v ∈ nums w n s) : v < 2 ^ s := by
  obtain ⟨i, _, rfl⟩ := List.mem_map.mp h
  exact num_lt w i s
theorem nums_at {w n s i : Nat} (h : i < n) : (nums w n s)[i]? = some (num w i s) := by
  unfold nums
  rw [List.getElem?_map, List.getElem?_range h]
  rfl
theorem num_zero (w s : Nat) : num w 0 s = w % 2 ^ s := by unfold num; rw [Nat.zero_mul, Nat.pow_zero, Nat.div_one]
theorem num_succ (w i s : Nat) : num w (i + 1) s = num (w / 2 ^ s) i s := by
  unfold num
  rw [Nat.div_div_eq_div_mul, ← Nat.pow_add, Nat.succ_mul, Nat.add_comm]
theorem nums_succ (w n s : Nat) : nums w (n + 1) s = w % 2 ^ s :: nums (w / 2 ^ s) n s := by
  unfold nums
  rw [List.range_succ_eq_map, List.map_cons, num_zero, List.map_map]
  exact congrArg _ (List.map_congr_left fun i _ => num_succ w i s)
theorem cat_lt (s : Nat) : ∀ vs : List Nat, (∀ v ∈ vs, v < 2 ^ s) → cat s vs < 2 ^ (vs.length * s)
  | [], _ => by simp [cat]
  | v :: r, h => by
    have ih := cat_lt s r fun x hx => h x (List.mem_cons_of_mem _ hx)
    have hv := h v List.mem_cons_self
    show v + 2 ^ s * cat s r < _
    rw [List.length_cons, Nat.succ_mul, Nat.pow_add, Nat.mul_comm (2 ^ _) (2 ^ s)]
    have : 2 ^ s * (cat s r + 1) ≤ 2 ^ s * 2 ^ (r.length * s) := Nat.mul_le_mul_left _ ih
    rw [Nat.mul_add, Nat.mul_one] at this
    omega
theorem nums_cat (s : Nat) : ∀ (vs : List Nat) (x : Nat), (∀ v ∈ vs, v < 2 ^ s) → nums (cat s vs + 2 ^ (vs.length * s) * x) vs.length s = vs
  | [], _, _ => by simp [nums]
  | v :: r, x, h => by
    have hv := h v List.mem_cons_self
    have ih := nums_cat s r x fun y hy => h y (List.mem_cons_of_mem _ hy)
    rw [List.length_cons, nums_succ]
    have e : cat s (v :: r) + 2 ^ ((r.length + 1) * s) * x = v + 2 ^ s * (cat s r + 2 ^ (r.length * s) * x) := by
      show v + 2 ^ s * cat s r + _ = _
      rw [Nat.succ_mul, Nat.pow_add, Nat.mul_comm (2 ^ (r.length * s)) (2 ^ s), Nat.mul_assoc, Nat.mul_add, Nat.add_assoc]
    rw [e, Nat.add_mul_mod_self_left, Nat.mod_eq_of_lt hv, Nat.add_mul_div_left _ _ (two_pos s), Nat.div_eq_of_lt hv, Nat.zero_add, ih]
theorem cat_nums (s : Nat) : ∀ (n w : Nat), cat s (nums w n s) = w % 2 ^ (n * s)
  | 0, w => by rw [Nat.zero_mul, Nat.pow_zero, Nat.mod_one]; rfl
  | n + 1, w => by
    rw [nums_succ]
    show w % 2 ^ s + 2 ^ s * cat s (nums (w / 2 ^ s) n s) = _
    rw [cat_nums s n, Nat.succ_mul, Nat.add_comm (n * s), Nat.pow_add, Nat.mod_mul]
/-- the sum of shifted numbers -/
theorem cat_sum (s : Nat) (vs : List Nat) : (vs.mapIdx fun i v => v * 2 ^ (i * s)).sum = cat s vs := by
  have key : ∀ (vs : List Nat) (k : Nat), (vs.mapIdx fun i v => v * 2 ^ ((i + k) * s)).sum = 2 ^ (k * s) * cat s vs := by
    intro vs
    induction vs with
    | nil => intro k; simp [cat]
    | cons v r ih =>
      intro k
      rw [List.mapIdx_cons, List.sum_cons]
      have := ih (k + 1)
      rw [show (fun i v => v * 2 ^ ((i + 1 + k) * s)) = fun i v => v * 2 ^ ((i + (k + 1)) * s) from funext fun i => by rw [Nat.add_right_comm, Nat.add_assoc], this]
      show v * 2 ^ ((0 + k) * s) + _ = 2 ^ (k * s) * (v + 2 ^ s * cat s r)
      rw [Nat.zero_add, Nat.succ_mul, Nat.pow_add, Nat.mul_add, Nat.mul_comm v, Nat.mul_assoc]
  have := key vs 0
  simpa using this
/-- a word is its low part and the rest -/
theorem split (w k : Nat) : w / 2 ^ k * 2 ^ k + w % 2 ^ k = w := by rw [Nat.mul_comm]; exact Nat.div_add_mod w (2 ^ k)
theorem or_low {a b k : Nat} (h : b < 2 ^ k) : a * 2 ^ k ||| b = a * 2 ^ k + b := by
  rw [Nat.mul_comm]
  exact (Nat.two_pow_add_eq_or_of_lt h a).symm
theorem xor_low {a b k : Nat} (h : b < 2 ^ k) : a * 2 ^ k ^^^ b = a * 2 ^ k + b := by
  rw [← or_low h]
  refine Nat.eq_of_testBit_eq fun i => ?_
  rw [Nat.testBit_xor, Nat.testBit_or, Nat.testBit_mul_two_pow]
  by_cases hi : k ≤ i
  · rw [Nat.testBit_lt_two_pow (Nat.lt_of_lt_of_le h (Nat.pow_le_pow_right (by decide) hi))]
    simp
  · rw [decide_eq_false hi]
    simp
structure Sh (c s m pb : Nat) : Prop where
  c1 : 1 ≤ c
  c2 : c ≤ 256
  s1 : 1 ≤ s
  s2 : s ≤ 48
  m1 : 1 ≤ m
  m2 : m ≤ 8
  mc : m ≤ c
  pc : c ≤ 2 ^ pb
  p8 : pb ≤ 8
abbrev top (c s : Nat) : Nat := c * s
abbrev bitsS (c s m pb : Nat) : Nat := c * s + 1 + m * (pb + s)
def op (c s w : Nat) : Bool := decide (w / 2 ^ (c * s) % 2 = 1)
def row (c s pb w i : Nat) : Nat × Nat := (num (w / 2 ^ (c * s + 1)) i (pb + s) % 2 ^ pb, num (w / 2 ^ (c * s + 1)) i (pb + s) / 2 ^ pb)
def rowL (c s m pb w : Nat) : List (Nat × Nat) := (List.range m).map (row c s pb w)
def put (vs : List Nat) (rs : List (Nat × Nat)) : List Nat := rs.foldl (fun vs r => vs.set r.1 r.2) vs
def vals (c s m pb w : Nat) : List Nat := if op c s w then put (nums w c s) (rowL c s m pb w) else nums w c s
theorem put_len : ∀ (rs : List (Nat × Nat)) (vs : List Nat), (put vs rs).length = vs.length
  | [], _ => rfl
  | r :: rs, vs => by
    show (put (vs.set r.1 r.2) rs).length = _
    rw [put_len rs, List.length_set]
theorem vals_len (c s m pb w : Nat) : (vals c s m pb w).length = c := by
  unfold vals
  split
  · rw [put_len, nums_len]
  · exact nums_len _ _ _
theorem put_mem {b : Nat} : ∀ (rs : List (Nat × Nat)) (vs : List Nat), (∀ v ∈ vs, v < b) → (∀ r ∈ rs, r.2 < b) → ∀ v ∈ put vs rs, v < b
  | [], _, h, _ => h
  | r :: rs, vs, h, h2 => put_mem rs _ (fun v hv => by
    rcases List.mem_or_eq_of_mem_set hv with z | z
    · exact h v z
    · rw [z]; exact h2 r List.mem_cons_self) fun x hx => h2 x (List.mem_cons_of_mem _ hx)
theorem row_lt (c s pb w i : Nat) : (row c s pb w i).1 < 2 ^ pb ∧ (row c s pb w i).2 < 2 ^ s := by
  refine ⟨Nat.mod_lt _ (two_pos pb), Nat.div_lt_of_lt_mul ?_⟩
  rw [← Nat.pow_add]
  exact num_lt (w / 2 ^ (c * s + 1)) i (pb + s)
theorem rowL_lt {c s m pb w : Nat} {r : Nat × Nat} (h : r ∈ rowL c s m pb w) : r.1 < 2 ^ pb ∧ r.2 < 2 ^ s := by
  obtain ⟨i, _, rfl⟩ := List.mem_map.mp h
  exact row_lt c s pb w i
theorem vals_lt {c s m pb w : Nat} : ∀ v ∈ vals c s m pb w, v < 2 ^ s := by
  unfold vals
  split
  · exact put_mem _ _ (fun v hv => nums_lt hv) fun r hr => (rowL_lt hr).2
  · exact fun v hv => nums_lt hv
theorem cat_vals (c s m pb w : Nat) : cat s (vals c s m pb w) < 2 ^ (c * s) := by
  have := cat_lt s (vals c s m pb w) vals_lt
  rwa [vals_len] at this
/-- the word mended -/
def mended (c s m pb w : Nat) : Nat := w / 2 ^ (c * s + 1) * 2 ^ (c * s + 1) + cat s (vals c s m pb w)
theorem cat_vals1 (c s m pb w : Nat) : cat s (vals c s m pb w) < 2 ^ (c * s + 1) := Nat.lt_of_lt_of_le (cat_vals c s m pb w) (Nat.pow_le_pow_right (by decide) (Nat.le_succ _))
theorem op_of {c s x lo : Nat} (h : lo < 2 ^ (c * s)) : op c s (x * 2 ^ (c * s + 1) + lo) = false := by
  unfold op
  refine decide_eq_false ?_
  rw [Nat.pow_succ, Nat.mul_comm (2 ^ (c * s)) 2, ← Nat.mul_assoc, Nat.mul_comm, Nat.mul_add_div (two_pos _), Nat.div_eq_of_lt h]
  omega
theorem nums_of {c s x lo : Nat} (vs : List Nat) (h : ∀ v ∈ vs, v < 2 ^ s) (hl : vs.length = c) : nums (x * 2 ^ (c * s + 1) + cat s vs) c s = vs := by
  have := nums_cat s vs (2 * x) h
  rw [hl] at this
  rw [show x * 2 ^ (c * s + 1) + cat s vs = cat s vs + 2 ^ (c * s) * (2 * x) by rw [Nat.pow_succ, Nat.add_comm, Nat.mul_comm x, Nat.mul_assoc]]
  exact this
theorem op_mended (c s m pb w : Nat) : op c s (mended c s m pb w) = false := op_of (cat_vals c s m pb w)
theorem vals_mended (c s m pb w : Nat) : vals c s m pb (mended c s m pb w) = vals c s m pb w := by
  rw [vals, if_neg (by rw [op_mended]; decide)]
  exact nums_of (lo := 0) _ vals_lt (vals_len c s m pb w)
theorem mended_shut {c s m pb w : Nat} (h : op c s w = false) : mended c s m pb w = w := by
  unfold mended vals
  rw [if_neg (by rw [h]; decide), cat_nums]
  have e := split w (c * s + 1)
  have hb : w / 2 ^ (c * s) % 2 = 0 := by
    have := of_decide_eq_false h
    omega
  have e2 : w % 2 ^ (c * s + 1) = w % 2 ^ (c * s) := by
    rw [Nat.pow_succ, Nat.mod_mul, hb, Nat.mul_zero, Nat.add_zero]
  rw [e2] at e
  exact e
theorem mended_lt {c s m pb w : Nat} (h : w < 2 ^ bitsS c s m pb) : mended c s m pb w < 2 ^ bitsS c s m pb := by
  unfold mended
  have h1 := cat_vals1 c s m pb w
  have h2 : w / 2 ^ (c * s + 1) < 2 ^ (m * (pb + s)) := by
    refine Nat.div_lt_of_lt_mul ?_
    rwa [← Nat.pow_add]
  have e : 2 ^ bitsS c s m pb = 2 ^ (m * (pb + s)) * 2 ^ (c * s + 1) := by rw [← Nat.pow_add]; exact congrArg _ (Nat.add_comm _ _)
  rw [e]
  generalize 2 ^ (c * s + 1) = T at *
  have : (w / T + 1) * T ≤ 2 ^ (m * (pb + s)) * T := Nat.mul_le_mul_right _ h2
  rw [Nat.succ_mul] at this
  omega
end MS
/-! repr of None, of a truth or of an int. -/
namespace OB
open PySem PySem.Spec PyProof.Rows L2
section
variable {X : Cx}
def rvT : V → Str
  | .non => "None"
  | .int i => toString i
  | .bl b => if b then "True" else "False"
  | _ => ""
def rReprV : List V → Hp → VK → Prop := fun xs H Q => ∃ v : V, xs = [v] ∧ (v = .non ∨ (∃ i, v = .int i ∧ i.natAbs.log2 < 1920) ∨ ∃ b, v = .bl b) ∧ Q (.str (rvT v)) H
theorem call_reprV : CallR X (.builtin "repr") rReprV := by
  intro pins s σ H xs us Q I r h
  obtain ⟨v, rfl, hv, q⟩ := h
  cases r with
  | cons r rr =>
    cases rr
    rcases hv with rfl | ⟨i, rfl, hz⟩ | ⟨b, rfl⟩
    · cases r
      exact PySem.P.repr_of_none ⟨.str _, H, I.tok _, ⟨_, rfl⟩, q⟩
    · obtain ⟨t, rfl⟩ := r
      exact PySem.P.repr_of_int hz ⟨.str _, H, I.tok _, ⟨_, rfl⟩, q⟩
    · cases r
      exact PySem.P.repr_of_bool ⟨.str _, H, I.tok _, ⟨_, rfl⟩, q⟩
end
end OB
namespace K53
open PySem PySem.Spec PyProof.Rows L2 OB SkE LamX ClX
def Kp (p : Addr) (H H' : Hp) : Prop := ∀ q o, H q = some o → q ≠ p → (∀ ps, o ≠ .tbl ps) → H' q = some o
theorem Kp.refl {p : Addr} {H : Hp} : Kp p H H := fun _ _ e _ _ => e
theorem Kp.trans {p : Addr} {H H1 H2 : Hp} (a : Kp p H H1) (b : Kp p H1 H2) : Kp p H H2 := fun q o e n t => b q o (a q o e n t) n t
theorem Kp.same {p : Addr} {H H' : Hp} (s : Same H H') : Kp p H H' := fun q o e _ _ => s q o e
theorem Kp.ext {p : Addr} {H H' : Hp} (s : ExtN H H') : Kp p H H' := fun q o e _ t => s q o e t
theorem Kp.upd {p : Addr} {H : Hp} {o : HO} : Kp p H (upd H p o) := fun q u e n _ => by
  rw [upd_ne n]
  exact e
theorem res_tup {H H' : Hp} (h : ∀ t xs, H t = some (.tup xs) → H' t = some (.tup xs)) : ∀ {vs : List V} {ks : List (Option (Str × Str))}, Res H vs ks → Res H' vs ks
  | [], [], _ => trivial
  | v :: r, none :: ks, ⟨a, b⟩ => ⟨a, res_tup h b⟩
  | v :: r, some k :: ks, ⟨⟨t, e, ht⟩, b⟩ => ⟨⟨t, e, h _ _ ht⟩, res_tup h b⟩
/-- what was heard so far, in the list at h -/
structure Lp (T : List (Addr × Str)) (p b0 n h : Addr) (H0 H : Hp) (vs : List V) (ks : List (Option (Str × Str))) : Prop where
  kp : Kp h H0 H
  mid : Mid T p b0 n H
  at' : H h = some (.lst vs)
  n1 : h ≠ p
  n2 : b0 ≠ h
  res : Res H vs ks
theorem Lp.step {T : List (Addr × Str)} {p b0 n h : Addr} {H0 H Ha Hb : Hp} {vs : List V} {ks : List (Option (Str × Str))} {v : V} {k : Option (Str × Str)} (s : Lp T p b0 n h H0 H vs ks) (ea : ExtN H Ha) (Ta : Tabs T Ha) (S : Same Ha Hb) (e : Ent Hb v k) :
    Hb h = some (.lst vs) ∧ Lp T p b0 n h H0 (upd Hb h (.lst (vs ++ [v]))) (vs ++ [v]) (ks ++ [k]) := by
  have hb := S _ _ (ea _ _ s.at' fun _ z => nomatch z)
  have nt : ∀ {t : Addr} {xs : List V}, Hb t = some (.tup xs) → t ≠ h := fun {t xs} e z => by
    rw [z, hb] at e
    cases e
  refine ⟨hb, (s.kp.trans (.ext ea)).trans ((Kp.same S).trans .upd), ((s.mid.ext ea Ta).same S).put hb s.n1 s.n2, upd_same, s.n1, s.n2, ?_⟩
  have r1 : Res Hb vs ks := res_tup (fun t xs z => S _ _ (ea _ _ z fun _ y => nomatch y)) s.res
  refine Res.snoc ?_ (res_tup (fun t xs z => by rw [upd_ne (nt z)]; exact z) r1)
  cases k with
  | none => exact e
  | some k =>
    obtain ⟨t, ev, ht⟩ := e
    exact ⟨t, ev, by rw [upd_ne (nt ht)]; exact ht⟩
theorem Lp.begin {T : List (Addr × Str)} {p b0 n h t : Addr} {H0 H : Hp} {k : Str × Str} (S : Kp h H0 H) (m : Mid T p b0 n H) (hh : H h = none) (e : Ent H (.ref t) (some k)) : Lp T p b0 n h H0 (upd H h (.lst [.ref t])) [.ref t] [some k] :=
  ⟨S.trans .upd, m.same (same_new hh), upd_same, m.pD hh, m.bD hh, ⟨e.keep (.same (same_new hh)), trivial⟩⟩
theorem Lp.empty {T : List (Addr × Str)} {p b0 n h : Addr} {H0 H : Hp} (S : Kp h H0 H) (m : Mid T p b0 n H) (hh : H h = none) : Lp T p b0 n h H0 (upd H h (.lst [])) [] [] :=
  ⟨S.trans .upd, m.same (same_new hh), upd_same, m.pD hh, m.bD hh, trivial⟩
theorem res_new {H : Hp} {q : Addr} {a b : Str} {vs : List V} {ks : List (Option (Str × Str))} (h : H q = none) (r : Res H vs ks) : Res (upd H q (.tup [.str a, .str b])) (vs ++ [.ref q]) (ks ++ [some (a, b)]) :=
  Res.snoc (k := some (a, b)) ⟨q, rfl, upd_same⟩ (r.keep (.same (same_new h)))
def LQa : Str := (envOfC "_law_made_right" (defScope s__law_made_right) 0 0 .none).qual ++ "<lambda>"
def LQb : Str := (envOfC "law" (defScope s_law) 0 0 .none).qual ++ "<lambda>"
abbrev TB2 (Pa Pb : Addr) : List (Addr × Str) := [(Pa, LQa), (Pb, LQb)]
def spStep (T : List (Addr × Str)) (k : Nat) : Sp := fun vs H Q _ => ∃ (p b0 n : Nat), vs = [.ref p] ∧ Mid T p b0 n H ∧ n + k < 900000 ∧ ∀ H' : Hp, Mid T p b0 (n + k) H' → Q (.bl true) H'
theorem mono_IxL {K : PySem.W.Frag} : R2Mono (rIxL K) := fun x y H Q1 Q2 h ⟨a, i, xs, v, e1, e2, q, e3, k⟩ => ⟨a, i, xs, v, e1, e2, q, e3, h _ _ k⟩
theorem init_mono {K : PySem.W.Frag} {C CC : Addr} : SpMono (spStInitX K C CC) := fun vs H Q1 Q2 E1 E2 hE hQ ⟨p, dx, x, y, z, e, hp, h⟩ => by
  refine ⟨p, dx, x, y, z, e, hp, ?_⟩
  rcases h with ⟨a, r⟩ | ⟨c, e1, c1, c2, h⟩
  · exact .inl ⟨a, fun d hd => hE _ _ _ (r d hd)⟩
  refine .inr ⟨c, e1, c1, c2, ?_⟩
  rcases h with ⟨a, r⟩ | ⟨s, e2, s1, s2, h⟩
  · exact .inl ⟨a, fun d hd => hE _ _ _ (r d hd)⟩
  refine .inr ⟨s, e2, s1, s2, ?_⟩
  rcases h with ⟨a, r⟩ | ⟨m, e3, m1, m2, k⟩
  · exact .inl ⟨a, fun d hd => hE _ _ _ (r d hd)⟩
  · exact .inr ⟨m, e3, m1, m2, fun H' a b => hQ _ _ (k H' a b)⟩
theorem read_mono {K : PySem.W.Frag} {C CT : Addr} : SpMono (spStoreRead K C CT) := fun vs H Q1 Q2 E1 E2 hE hQ ⟨x, e, h⟩ => by
  refine ⟨x, e, ?_⟩
  rcases h with ⟨a, r⟩ | ⟨z, e1, hz, k1, k2⟩
  · exact .inl ⟨a, fun d hd => hE _ _ _ (r d hd)⟩
  · exact .inr ⟨z, e1, hz, fun k e H1 S d hd => hE _ _ _ (k1 k e H1 S d hd), fun c s m ok ez y H' n S q => hQ _ _ (k2 c s m ok ez y H' n S q)⟩
/-- the three numbers -/
structure T3 (H : Hp) (lt : Addr) (x y z : V) : Prop where
  g : H lt = some (.lst [x, y, z])
  x1 : Tv H x
  y1 : Tv H y
  z1 : Tv H z
theorem T3.same {H H' : Hp} {lt : Addr} {x y z : V} (t : T3 H lt x y z) (S : Same H H') : T3 H' lt x y z := ⟨S _ _ t.g, t.x1.same S, t.y1.same S, t.z1.same S⟩
theorem T3.ext {H H' : Hp} {lt : Addr} {x y z : V} (t : T3 H lt x y z) (S : ExtN H H') : T3 H' lt x y z := ⟨S _ _ t.g (fun _ z => by cases z), t.x1.ext S, t.y1.ext S, t.z1.ext S⟩
theorem storeT_inj {c s m c' s' m' : Nat} (ok : ShOk c s m) (ok' : ShOk c' s' m') (e : storeT c s m = storeT c' s' m') : c = c' ∧ s = s' ∧ m = m' := by
  have h := congrArg (fun z => Txt.split z " ") e
  have h : Txt.split (storeT c s m) " " = Txt.split (storeT c' s' m') " " := h
  rw [store_split, store_split] at h
  have h1 := (List.cons.inj h).1
  have h2 := (List.cons.inj (List.cons.inj h).2).1
  have h3 := (List.cons.inj (List.cons.inj (List.cons.inj h).2).2).1
  have key : ∀ m n : Nat, m < 1000 → n < 1000 → ds m = ds n → m = n := fun m n hm hn e => by
    have a := MN.num_ds (n := m) (by have := ds_short hm; omega)
    have c := MN.num_ds (n := n) (by have := ds_short hn; omega)
    rw [e, c] at a
    exact (Option.some.inj a).symm
  have := ok.c2; have := ok.s2; have := ok.m2; have := ok'.c2; have := ok'.s2; have := ok'.m2
  exact ⟨key _ _ (by omega) (by omega) h1, key _ _ (by omega) (by omega) h2, key _ _ (by omega) (by omega) h3⟩
theorem eq_st {K : PySem.W.Frag} {C x y : Addr} {c s m c' s' m' : Nat} {H : Hp} {Q : VK} {E : XK} (hx : IsSt H C x c s m) (hy : IsSt H C y c' s' m') (k : ∀ bn, bn = decide (c = c' ∧ s = s' ∧ m = m') → Q (.bl bn) H) : rEqO K C (spStEq K C) E (.ref x) (.ref y) H Q := by
  obtain ⟨dx, fs, h1, _⟩ := id hx
  obtain ⟨dy, gs, g1, _⟩ := id hy
  exact ⟨x, dx, fs, rfl, h1, .inl ⟨y, dy, gs, rfl, g1⟩, x, .ref y, c, s, m, rfl, hx, .inl ⟨y, c', s', m', rfl, hy, fun bn e => ⟨_, rfl, k bn e⟩⟩⟩
theorem ne_st {K : PySem.W.Frag} {C x y : Addr} {c s m c' s' m' : Nat} {H : Hp} {Q : VK} {E : XK} (hx : IsSt H C x c s m) (hy : IsSt H C y c' s' m') (k : ∀ bn, bn = decide (c = c' ∧ s = s' ∧ m = m') → Q (.bl (!bn)) H) : rNeO K C (spStEq K C) E (.ref x) (.ref y) H Q := by
  obtain ⟨dx, fs, h1, _⟩ := id hx
  obtain ⟨dy, gs, g1, _⟩ := id hy
  exact ⟨x, dx, fs, rfl, h1, .inl ⟨y, dy, gs, rfl, g1⟩, x, .ref y, c, s, m, rfl, hx, .inl ⟨y, c', s', m', rfl, hy, fun bn e => ⟨_, rfl, k bn e⟩⟩⟩
theorem eq_tup {K : PySem.W.Frag} {mg : Str → Option Value} {C x y fI : Addr} {c s m : Nat} {H : Hp} {Q : VK} {E : XK} {xs : List V} (O : OwnC K mg "Store" C fI) (hx : IsSt H C x c s m) (hy : H y = some (.tup xs)) (k : Q (.bl false) H) : rEqO K C (spStEq K C) E (.ref x) (.ref y) H Q := by
  obtain ⟨dx, fs, h1, _⟩ := id hx
  exact ⟨x, dx, fs, rfl, h1, .inr ⟨y, xs, rfl, SqT.of hy, O.sT⟩, x, .ref y, c, s, m, rfl, hx, .inr ⟨O.tup hy, _, rfl, k⟩⟩
theorem eq_txt {K : PySem.W.Frag} {mg : Str → Option Value} {C x fI : Addr} {c s m : Nat} {H : Hp} {Q : VK} {E : XK} {z : Str} (O : OwnC K mg "Store" C fI) (sS : PySem.W.subIn K (.type "str") (.ref C) = some false) (hx : IsSt H C x c s m) (k : Q (.bl false) H) : rEqO2 K C (spStEq K C) E (.ref x) (.str z) H Q := by
  obtain ⟨dx, fs, h1, _⟩ := id hx
  exact ⟨x, dx, fs, rfl, h1, .inr ⟨z, rfl, sS⟩, x, .str z, c, s, m, rfl, hx, .inr ⟨O.str z, _, rfl, k⟩⟩
/-- too great a most -/
def badM (x z : V) : Bool := !isIn z 1 8 || (isIn x 1 256 && (match x, z with | .int i, .int j => decide (i < j) | _, _ => false))
theorem badM_mr {c : Nat} {z : V} (h0 : isIn (.int (c : Int)) 1 256 = true) : isIn z 1 (mr c) = !badM (.int (c : Int)) z := by
  unfold badM
  rw [h0]
  cases z with
  | int j =>
    show (decide (1 ≤ j) && decide (j ≤ (if (c : Int) < 8 then (c : Int) else 8))) = !(!(decide (1 ≤ j) && decide (j ≤ 8)) || (true && decide ((c : Int) < j)))
    by_cases h1 : 1 ≤ j
    · rw [decide_eq_true h1]
      by_cases h2 : j ≤ 8
      · rw [decide_eq_true h2]
        by_cases h3 : (c : Int) < j
        · rw [decide_eq_true h3, decide_eq_false (by split <;> omega)]
          rfl
        · rw [decide_eq_false h3, decide_eq_true (by split <;> omega)]
          rfl
      · rw [decide_eq_false h2, decide_eq_false (by split <;> omega)]
        rfl
    · rw [decide_eq_false h1]
      rfl
  | _ => rfl
/-- what is due -/
def dueV (x y z : V) : V := if isIn x 1 256 = false then .str "cells" else if isIn y 1 48 = false then .str "size" else if badM x z = true then .str "most" else .non
section
variable {P : Program} {w : World} {K : PySem.W.Frag} {mg : Str → Option Value} {base : Heap}
theorem sc__law_made_right : FnScope ["shed", "told", "turn", "at", "due", "cells", "size", "most", "store", "wide", "bit", "text", "other"] ["shed"] (defScope s__law_made_right) := ⟨rfl, rfl, rfl, by decide +kernel, rfl, by decide +kernel, by decide +kernel⟩
abbrev N__law_made_right : List Str := ["shed", "told", "turn", "at", "due", "cells", "size", "most", "store", "wide", "bit", "text", "other"]
theorem ok__law_made_right {f f1 f2 f3 f4 fI fE fR pR fS C CF CC CT c Pa Pb : Addr} {fd1 fd2 fd3 fd4 fdI fdE fdR fdS : FuncData} {mc : Value} {oc kV doc pm ct : Value} {od an : Option Addr} {osl : Array (Option Value)} (T : Blt mg)
    (lk : K.lookup f = some ⟨oc, od, .func (PySem.W.fnOf "_law_made_right" "_law_made_right" (defArgs s__law_made_right) (defBody s__law_made_right) (defScope s__law_made_right) .none kV doc pm an (.ref c) ct), osl⟩) (hcd : PySem.W.codeIn K (.ref c) "_law_made_right" = true)
    (TB : TabB base mg c Pa) (hu : ∀ p ∈ TB2 Pa Pb, p.1 = Pa → p.2 = LQa) (Z : Kinds K mg CF CC CT) (O_Store : OwnC K mg "Store" C fI) (n1 : NoAttr K C "cells") (n2 : NoAttr K C "size") (n3 : NoAttr K C "most") (n4 : NoAttr K C "place_bits") (n5 : NoAttr K C "bits") (sustr : PySem.W.subIn K (.type "str") (.ref C) = some false)
    (D__law_heard : Df K mg "_law_heard" s__law_heard ["ask"] f1 fd1) (D__law_hang : Df K mg "_law_hang" s__law_hang ["shed", "many"] f2 fd2) (D__law_pick : Df K mg "_law_pick" s__law_pick ["shed", "some"] f3 fd3) (D__law_is_in : Df K mg "_law_is_in" s__law_is_in ["value", "least", "most"] f4 fd4) (F_Store_init : Fun K "__init__" "Store.__init__" s_Store_init fI fdI) (b_Store_init : L2.Binds K fdI ["self", "cells", "size", "most"] []) (GX_Store_init : FnOk P w K mg base (L2.CX P w) 4 fI fdI ["self", "cells", "size", "most"] (spStInitX K C CC)) (EQ_Store : OwnEqC K C fE) (b_Store_eq : L2.Binds K fdE ["self", "other"] []) (G_Store_eq : FnOk P w K mg base CX0 1 fE fdE ["self", "other"] (spStEq K C))
    (RD_Store : CRead K C mc) (SM_Store_read : CStat K C mc "read" pR fR) (F_Store_read : Fun K "read" "Store.read" s_Store_read fR fdR) (b_Store_read : L2.Binds K fdR ["text"] []) (GX_Store_read : FnOk P w K mg base (L2.CX P w) 6 fR fdR ["text"] (spStoreRead K C CT)) (ST_Store : OwnStrC K C fS) (b_Store_str : L2.Binds K fdS ["self"] []) (G_Store_str : FnOk P w K mg base CX0 1 fS fdS ["self"] (spStoreStr C)) :
    FnG P w K mg base CX0 14 f (PySem.W.fnOf "_law_made_right" "_law_made_right" (defArgs s__law_made_right) (defBody s__law_made_right) (defScope s__law_made_right) .none kV doc pm an (.ref c) ct) ["shed"] (spStep (TB2 Pa Pb) 20) := by
  have G__law_hang : FnOk P w K mg base CX0 1 f2 fd2 ["shed", "many"] spDraw := ok__law_hang D__law_hang.F T
  have G__law_pick : FnOk P w K mg base CX0 2 f3 fd3 ["shed", "some"] spOne := ok__law_pick D__law_pick.F T D__law_hang
  have G__law_is_in : FnOk P w K mg base CX0 1 f4 fd4 ["value", "least", "most"] spIsIn := ok__law_is_in D__law_is_in.F T
  have G_Store_init := plain_init GX_Store_init
  have G_Store_read := calm_of GX_Store_read
  have kB_Store : KBinds K fdI ["self", "cells", "size", "most"] ["most", "size", "cells"] (kg1 [2, 1, 0]) (kg1 [2, 1, 0]) := kbinds F_Store_init (fun _ _ _ _ _ _ us ws hl => by
    rcases us with _ | ⟨a, _ | ⟨b, us⟩⟩
    · exact absurd (show 0 = 4 from hl) (by decide)
    · rcases ws with _ | ⟨x0, _ | ⟨x1, _ | ⟨x2, ws⟩⟩⟩ <;> first | rfl | exact absurd (show 1 = 4 from hl) (by decide) | exact absurd (show 2 = 4 from hl) (by decide) | exact absurd (show 3 = 4 from hl) (by decide)
    · exact absurd (show 0 = 4 from hl) (by decide)) kg1_vals
  have kb_Store : KBn K fdI ["self", "cells", "size", "most"] 1 ["most", "size", "cells"] (kg1 [2, 1, 0]) (kg1 [2, 1, 0]) := kbn kB_Store fun us ws h1 h2 => by
    match us, ws, h1, h2 with
    | [a], [x0, x1, x2], _, _ => rfl
  have kb_Store_read : KBinds K fdR ["text"] ["text"] (kg [0]) (kg [0]) := kbinds F_Store_read (fun _ _ _ _ _ _ us ws hl => by
    rcases us with _ | ⟨a, us⟩
    · rcases ws with _ | ⟨x0, ws⟩ <;> first | rfl | exact absurd (show 0 = 1 from hl) (by decide)
    · exact absurd (show 0 = 1 from hl) (by decide)) kg_vals
  obtain ⟨ocH, odH, kVH, docH, pmH, anH, cdvH, ctH, oslH, eH, lkH, hcH⟩ := D__law_heard.F.ex
  subst eH
  refine fnG_of lk hcd sc__law_made_right (fun vs H Q E h => ?_) fun A outer s H vs Q E hgd hr h => ?_
  · obtain ⟨p, b0, n, rfl, _⟩ := h
    rfl
  · obtain ⟨p, b, n, rfl, M, hn, k⟩ := h
    have t0 : ∃ t, PSs (cxOf CX0 P w K mg base ["shed", "told", "turn", "at", "due", "cells", "size", "most", "store", "wide", "bit", "text", "other"] "_law_made_right" (defScope s__law_made_right) f (.ref c) A outer s H E).nox (defBody s__law_made_right) t ∧ t { nx := fun _ H' => Q .non H', rt := Q } (L2.start ["shed", "told", "turn", "at", "due", "cells", "size", "most", "store", "wide", "bit", "text", "other"] [.ref p]) H := by
      refine ⟨_, (pss_cons (ps_set (i := 1) sc__law_made_right.nd rfl (Or.inr rfl) (pe_lst (pa_cons (pe_call G__law_pick (hr.mono (by decide)) (by rfl) D__law_pick.g D__law_pick.F.kp D__law_pick.b .nil pass0 (pa_cons (pv 0) (pa_cons (pe_lst (pa_cons pe_int (pa_cons pe_int (pa_cons pe_int (pa_cons pe_int (pa_cons pe_int (pa_cons (pe_op op_add pe_int (pe_call G__law_hang (hr.mono (by decide)) (by rfl) D__law_hang.g D__law_hang.F.kp D__law_hang.b .nil pass0 (pa_cons (pv 0) (pa_cons pe_int pa_nil)))) pa_nil))))))) pa_nil))) (pa_cons (pe_call G__law_pick (hr.mono (by decide)) (by rfl) D__law_pick.g D__law_pick.F.kp D__law_pick.b .nil pass0 (pa_cons (pv 0) (pa_cons (pe_lst (pa_cons pe_int (pa_cons pe_int (pa_cons pe_int (pa_cons (pe_op op_add pe_int (pe_call G__law_hang (hr.mono (by decide)) (by rfl) D__law_hang.g D__law_hang.F.kp D__law_hang.b .nil pass0 (pa_cons (pv 0) (pa_cons pe_int pa_nil)))) pa_nil))))) pa_nil))) (pa_cons (pe_op op_add pe_int (pe_call G__law_hang (hr.mono (by decide)) (by rfl) D__law_hang.g D__law_hang.F.kp D__law_hang.b .nil pass0 (pa_cons (pv 0) (pa_cons pe_int pa_nil)))) pa_nil)))))
  (pss_cons (ps_for PassesOwn.never rfl (pi_range1 (by rfl) T.n_range (pa_cons (pe_call G__law_hang (hr.mono (by decide)) (by rfl) D__law_hang.g D__law_hang.F.kp D__law_hang.b .nil pass0 (pa_cons (pv 0) (pa_cons pe_int pa_nil))) pa_nil)) (pg_name (i := 2) sc__law_made_right.nd rfl (Or.inl rfl)) (pss_cons (ps_set (i := 3) sc__law_made_right.nd rfl (Or.inl rfl) (pe_call G__law_hang (hr.mono (by decide)) (by rfl) D__law_hang.g D__law_hang.F.kp D__law_hang.b .nil pass0 (pa_cons (pv 0) (pa_cons pe_int pa_nil))))
  (pss_one (ps_asg (pe_call G__law_pick (hr.mono (by decide)) (by rfl) D__law_pick.g D__law_pick.F.kp D__law_pick.b .nil pass0 (pa_cons (pv 0) (pa_cons (pe_lst (pa_cons pe_non (pa_cons pe_bl (pa_cons pe_str (pa_cons (pe_tup (pa_cons pe_int pa_nil)) (pa_cons pe_int (pa_cons (pe_un un_neg pe_int) (pa_cons (pe_ix ix_list (pe_lst (pa_cons pe_int (pa_cons pe_int (pa_cons pe_int pa_nil)))) (pv 3) (fun _ _ => rfl)) (pa_cons (pe_op op_pow pe_int pe_int) (pa_cons (pe_lst (pa_cons pe_int pa_nil)) pa_nil)))))))))) pa_nil))) (pg_sub (pv 1) (pv 3) set_list)))))
  (pss_cons (ps_set (i := 4) sc__law_made_right.nd rfl (Or.inl rfl) pe_non)
  (C8.pss_cut (ps_if (PW.pt (pw_or (pt_not (pt_val (pe_call G__law_is_in (hr.mono (by decide)) (by rfl) D__law_is_in.g D__law_is_in.F.kp D__law_is_in.b .nil pass0 (pa_cons (pe_ix ix_list (pv 1) pe_int (fun _ _ => rfl)) (pa_cons pe_int (pa_cons pe_int pa_nil)))))) (pw_or1 (PW.pt (pw_and (pt_val (pe_call G__law_is_in (hr.mono (by decide)) (by rfl) D__law_is_in.g D__law_is_in.F.kp D__law_is_in.b .nil pass0 (pa_cons (pe_ix ix_list (pv 1) pe_int (fun _ _ => rfl)) (pa_cons pe_int (pa_cons pe_int pa_nil))))) (pw_and1 (pt_cmpR op_gt (pe_ix ix_list (pv 1) pe_int (fun _ _ => rfl)) (pe_ix ix_list (pv 1) pe_int (fun _ _ => rfl)) (nomark _)))))))) (pss_one (ps_set (i := 4) sc__law_made_right.nd rfl (Or.inl rfl) pe_str)) pss_nil)
  (C8.pss_cut (ps_set (i := 4) sc__law_made_right.nd rfl (Or.inl rfl) (pe_ifExp (pt_not (pt_val (pe_call G__law_is_in (hr.mono (by decide)) (by rfl) D__law_is_in.g D__law_is_in.F.kp D__law_is_in.b .nil pass0 (pa_cons (pe_ix ix_list (pv 1) pe_int (fun _ _ => rfl)) (pa_cons pe_int (pa_cons pe_int pa_nil)))))) pe_str (pv 4)))
  (C8.pss_cut (ps_set (i := 4) sc__law_made_right.nd rfl (Or.inl rfl) (pe_ifExp (pt_not (pt_val (pe_call G__law_is_in (hr.mono (by decide)) (by rfl) D__law_is_in.g D__law_is_in.F.kp D__law_is_in.b .nil pass0 (pa_cons (pe_ix ix_list (pv 1) pe_int (fun _ _ => rfl)) (pa_cons pe_int (pa_cons pe_int pa_nil)))))) pe_str (pv 4)))
  (pss_cons (ps_if (pt_cmpR op_notN (pv 4) pe_non (nomark _)) (pss_one (ps_ret (pe_cmpR (op_eqD hr.units) (pe_lam (T := TB2 Pa Pb) (vs := []) (TT := TTheard CC CT) (k := 9) (nm := []) (dts := []) (t := fun E => tMakeS C (spStInitX K C CC) (WE fun cls d _ H => E cls d H) (tCons (tOp (rIxL K) (tVar 1) (tC (.int 0))) (tCons (tOp (rIxL K) (tVar 1) (tC (.int 1))) (tCons (tOp (rIxL K) (tVar 1) (tC (.int 2))) tNil)))) (by rfl) D__law_heard.g D__law_heard.F.kp lkH hcH D__law_heard.b sc__law_heard rfl (Or.inl rfl) (heard_gives Z T) TB rfl List.mem_cons_self hu (hr.mono (by decide)) (lamN_by (sc := defScope s__law_made_right) (N := N__law_made_right) (by decide +kernel)) (.inl ⟨rfl, rfl⟩) (bind_0 fun _ _ _ _ _ _ _ => rfl) (mono_MS init_mono (mta_cons (mte_op mono_IxL mte_var mte_c) (mta_cons (mte_op mono_IxL mte_var mte_c) (mta_cons (mte_op mono_IxL mte_var mte_c) mta_nil)))) pa_nil (fun _ _ _ => rfl) rfl (fun A outer s H E f c' hr2 => pe_makeS O_Store.made GX_Store_init (hr2.mono (by decide)) (by rfl) O_Store.g b_Store_init (fun σ => passAt (takes_of rfl rfl rfl rfl) σ) (pa_cons (pe_ix ix_list (pv 1) pe_int (fun _ _ => rfl)) (pa_cons (pe_ix ix_list (pv 1) pe_int (fun _ _ => rfl)) (pa_cons (pe_ix ix_list (pv 1) pe_int (fun _ _ => rfl)) pa_nil))))) (pe_tup (pa_cons pe_str (pa_cons (pv 4) pa_nil))) (nomark _)))) pss_nil)
  (pss_cons (ps_asg (pv 1) (pg_unl (by rfl) (pgs_cons (pg_name (i := 5) sc__law_made_right.nd rfl (Or.inr rfl)) (pgs_cons (pg_name (i := 6) sc__law_made_right.nd rfl (Or.inl rfl)) (pgs_cons (pg_name (i := 7) sc__law_made_right.nd rfl (Or.inl rfl)) pgs_nil)))))
  (pss_cons (ps_par (i := 8) (j := 9) (by rfl) sc__law_made_right.nd rfl rfl (by decide) rfl rfl (pa_cons (pe_makeK0 O_Store.made G_Store_init (hr.mono (by decide)) (by rfl) O_Store.g kb_Store pass0 (pk_cons (pv 7) (pk_cons (pv 6) (pk_cons (pv 5) pk_nil)))) (pa_cons (pe_callB call_len_seq (by rfl) T.n_len (by decide +kernel) (pa_cons (pe_lc (own := [("bit", 10)]) (g := (gName 10)) rfl sc__law_made_right.nd (pi_range1 (by rfl) T.n_range (pa_cons pe_int pa_nil)) (blkOk_by (N := N__law_made_right) (own := [("bit", 10)]) (sc := defScope s__law_made_right) (by decide +kernel)) (fun _ _ _ _ _ => (pg_name (i := 10) sc__law_made_right.nd rfl (Or.inl rfl))) (fun _ _ _ _ _ => (pts_one (pt_cmpR op_gt (pv 5) (pe_op op_oneN pe_int (pv 10)) (nomark _)))) (fun _ _ _ _ _ => (pv 10))) pa_nil)) pa_nil)) (by rfl))
  (pss_cons (ps_if (pt_cmpR op_ne (pe_callB (call_reprI hgd hr.units) (by rfl) T.n_repr (by decide +kernel) (pa_cons (pe_lst (pa_cons (pe_fld (pv 8) rfl) (pa_cons (pe_fld (pv 8) rfl) (pa_cons (pe_fld (pv 8) rfl) (pa_cons (pe_fld (pv 8) rfl) (pa_cons (pe_fld (pv 8) rfl) pa_nil)))))) pa_nil)) (pe_callB (call_reprI hgd hr.units) (by rfl) T.n_repr (by decide +kernel) (pa_cons (pe_lst (pa_cons (pv 5) (pa_cons (pv 6) (pa_cons (pv 7) (pa_cons (pv 9) (pa_cons (pe_op op_add (pe_op op_add (pe_op op_mul (pv 5) (pv 6)) pe_int) (pe_op op_mul (pv 7) (pe_op op_add (pv 9) (pv 6)))) pa_nil)))))) pa_nil)) (nomark _)) (pss_one (ps_ret pe_bl)) pss_nil)
  (pss_cons (ps_par (i := 11) (j := 12) (by rfl) sc__law_made_right.nd rfl rfl (by decide) rfl rfl (pa_cons (pe_joinedN (.cons (pe_fmt (pv 5)) (.cons pe_str (.cons (pe_fmt (pv 6)) (.cons pe_str (.cons (pe_fmt (pv 7)) .nil)))))) (pa_cons (pe_make O_Store.made G_Store_init (hr.mono (by decide)) (by rfl) O_Store.g b_Store_init .nil pass0 (pa_cons (pv 5) (pa_cons (pv 6) (pa_cons (pe_ifExp (pt_cmpR op_gt (pv 7) pe_int (nomark _)) (pe_op op_sub (pv 7) pe_int) (pe_op op_add (pe_callTy call_int1 (by rfl) T.n_int (by decide +kernel) (pa_cons (pe_cmpR op_gt (pv 5) pe_int (nomark _)) pa_nil)) pe_int)) pa_nil)))) pa_nil)) (by rfl))
  (pss_cons (ps_if (PW.pt (pw_or (pt_cmpR op_ne (pe_callTy (call_strO G_Store_str ST_Store b_Store_str pass0 (hr.mono (by decide))) (by rfl) T.n_str (by decide +kernel) (pa_cons (pv 8) pa_nil)) (pv 11) (nomark _)) (pw_or (pt_cmpR (op_neO G_Store_eq EQ_Store b_Store_eq pass0 (hr.mono (by decide))) (pe_smeth (pl := _) (pe_glob (v := .ref _) (by rfl) O_Store.g rfl) RD_Store SM_Store_read G_Store_read (hr.mono (by decide)) b_Store_read pass0 (pa_cons (pv 11) pa_nil)) (pv 8) (nomark _)) (pw_or (pt_cmpR op_ne (pe_fld (pe_smethK (pl := _) (pe_glob (v := .ref _) (by rfl) O_Store.g rfl) RD_Store SM_Store_read G_Store_read (hr.mono (by decide)) kb_Store_read pass0 (pk_cons (pv 11) pk_nil)) rfl) (pe_fld (pv 8) rfl) (nomark _)) (pw_or (pt_cmpR (op_eqO2 G_Store_eq EQ_Store b_Store_eq pass0 (hr.mono (by decide))) (pv 8) (pv 11) (nomark _)) (pw_or1 (pt_cmpR (op_eqO G_Store_eq EQ_Store b_Store_eq pass0 (hr.mono (by decide))) (pv 8) (pe_tup (pa_cons (pv 5) (pa_cons (pv 6) (pa_cons (pv 7) pa_nil)))) (nomark _)))))))) (pss_one (ps_ret pe_bl)) pss_nil)
  (pss_one (ps_ret (pe_and (pe_cmpR (op_eqO G_Store_eq EQ_Store b_Store_eq pass0 (hr.mono (by decide))) (pv 8) (pe_make O_Store.made G_Store_init (hr.mono (by decide)) (by rfl) O_Store.g b_Store_init .nil pass0 (pa_cons (pv 5) (pa_cons (pv 6) (pa_cons (pv 7) pa_nil)))) (nomark _)) (pe_and (pe_cmpR op_eq (pe_cmpR (op_eqO G_Store_eq EQ_Store b_Store_eq pass0 (hr.mono (by decide))) (pv 8) (pv 12) (nomark _)) (pe_cmpR op_eq (pe_fld (pv 12) rfl) (pv 7) (nomark _)) (nomark _)) (pe_one (pe_cmpR (op_neO G_Store_eq EQ_Store b_Store_eq pass0 (hr.mono (by decide))) (pv 8) (pe_make O_Store.made G_Store_init (hr.mono (by decide)) (by rfl) O_Store.g b_Store_init .nil pass0 (pa_cons (pv 5) (pa_cons (pe_op op_add pe_int (pe_op op_mod (pe_callTy call_int1 (by rfl) T.n_int (by decide +kernel) (pa_cons (pv 6) pa_nil)) pe_int)) (pa_cons (pv 7) pa_nil)))) (nomark _))))))))))))))))))), ?_⟩
      repeat (first | (with_reducible refine st_tC ?_) | (with_reducible refine st_tOp ?_) | ((with_reducible apply st_n); rfl; rfl; (first | trivial | (show _ ≤ _; omega) | (show _ < _; omega) | (show _ ∨ _; omega) | assumption | exact ⟨by assumption, by omega⟩ | exact ⟨W30.one, by omega⟩ | fail); rfl) | (with_reducible refine st_i0 rfl rfl rfl ?_) | ((with_reducible refine st_i rfl rfl ?_ rfl ?_); first | omega | exact ⟨by decide, by decide, by decide⟩ | exact .inl ⟨by decide, by decide⟩ | exact .inl ⟨by omega, by omega⟩ | exact .inr ⟨by omega, by omega⟩ | fail) | ((fail_if_success refine Exists.intro (α := Nat → Nat → L2.St → Hp → Prop) ?_ ?_); (fail_if_success refine Exists.intro (α := L2.St → Hp → Prop) ?_ ?_); (fail_if_success refine Exists.intro (α := Nat → L2.St → Hp → Prop) ?_ ?_); apply Exists.intro) | ((refine And.intro ?_ ?_); first | with_reducible rfl | with_reducible assumption | rfl | ((with_reducible apply SqL.of); assumption) | ((with_reducible apply SqT.of); assumption) | ((with_reducible apply OwnC.cl); assumption) | (with_reducible exact isI_int _) | exact within_args | (with_reducible exact upd_same) | ((with_reducible apply Mid.o); assumption) | ((with_reducible apply Mid.t); assumption) | exact .inl ⟨rfl, _, SqL.of (by assumption)⟩ | (with_reducible exact ⟨_, SqT.of (by assumption)⟩) | (with_reducible exact ⟨_, SqL.of (by assumption)⟩) | omega | exact Nat.le_of_ble_eq_true rfl | exact nat9 (by omega) | exact ⟨_, rfl⟩ | (show _ ≤ sizeLine; decide) | exact ⟨by decide, by decide, by decide⟩ | exact .inl ⟨by decide, by decide⟩ | exact .inl ⟨by omega, by omega⟩ | exact .inr ⟨by omega, by omega⟩ | assumption | fail) | ((with_reducible refine iteF' ?_ ?_); first | rfl | exact decide_eq_false (by omega) | exact in_no (by omega) (by omega) | exact in_no (by omega) (by assumption) | (simp <;> fail) | fail) | ((with_reducible refine iteT' ?_ ?_); first | rfl | exact decide_eq_true (by omega) | (simp <;> fail) | fail))
      intro r1 H1 r10 r11 O_r1 B_r1; replace M := M.draw O_r1 B_r1; obtain ⟨r1, rfl⟩ := Int.eq_ofNat_of_zero_le r10; clear O_r1 B_r1
      repeat (first | (with_reducible refine st_tC ?_) | (with_reducible refine st_tOp ?_) | ((with_reducible apply st_n); rfl; rfl; (first | trivial | (show _ ≤ _; omega) | (show _ < _; omega) | (show _ ∨ _; omega) | assumption | exact ⟨by assumption, by omega⟩ | exact ⟨W30.one, by omega⟩ | fail); rfl) | (with_reducible refine st_i0 rfl rfl rfl ?_) | ((with_reducible refine st_i rfl rfl ?_ rfl ?_); first | omega | exact ⟨by decide, by decide, by decide⟩ | exact .inl ⟨by decide, by decide⟩ | exact .inl ⟨by omega, by omega⟩ | exact .inr ⟨by omega, by omega⟩ | fail) | ((fail_if_success refine Exists.intro (α := Nat → Nat → L2.St → Hp → Prop) ?_ ?_); (fail_if_success refine Exists.intro (α := L2.St → Hp → Prop) ?_ ?_); (fail_if_success refine Exists.intro (α := Nat → L2.St → Hp → Prop) ?_ ?_); apply Exists.intro) | ((refine And.intro ?_ ?_); first | with_reducible rfl | with_reducible assumption | rfl | ((with_reducible apply SqL.of); assumption) | ((with_reducible apply SqT.of); assumption) | ((with_reducible apply OwnC.cl); assumption) | (with_reducible exact isI_int _) | exact within_args | (with_reducible exact upd_same) | ((with_reducible apply Mid.o); assumption) | ((with_reducible apply Mid.t); assumption) | exact .inl ⟨rfl, _, SqL.of (by assumption)⟩ | (with_reducible exact ⟨_, SqT.of (by assumption)⟩) | (with_reducible exact ⟨_, SqL.of (by assumption)⟩) | omega | exact Nat.le_of_ble_eq_true rfl | exact nat9 (by omega) | exact ⟨_, rfl⟩ | (show _ ≤ sizeLine; decide) | exact ⟨by decide, by decide, by decide⟩ | exact .inl ⟨by decide, by decide⟩ | exact .inl ⟨by omega, by omega⟩ | exact .inr ⟨by omega, by omega⟩ | assumption | fail) | ((with_reducible refine iteF' ?_ ?_); first | rfl | exact decide_eq_false (by omega) | exact in_no (by omega) (by omega) | exact in_no (by omega) (by assumption) | (simp <;> fail) | fail) | ((with_reducible refine iteT' ?_ ?_); first | rfl | exact decide_eq_true (by omega) | (simp <;> fail) | fail))
      intro l1 h_l1; have np_l1 := M.pD h_l1; have nb_l1 := M.bD h_l1; generalize hE : upd _ l1 _ = H2; obtain ⟨S_l1, g_l1⟩ := new_facts h_l1 hE; clear hE; replace M := M.same S_l1
      repeat (first | (with_reducible refine st_tC ?_) | (with_reducible refine st_tOp ?_) | ((with_reducible apply st_n); rfl; rfl; (first | trivial | (show _ ≤ _; omega) | (show _ < _; omega) | (show _ ∨ _; omega) | assumption | exact ⟨by assumption, by omega⟩ | exact ⟨W30.one, by omega⟩ | fail); rfl) | (with_reducible refine st_i0 rfl rfl rfl ?_) | ((with_reducible refine st_i rfl rfl ?_ rfl ?_); first | omega | exact ⟨by decide, by decide, by decide⟩ | exact .inl ⟨by decide, by decide⟩ | exact .inl ⟨by omega, by omega⟩ | exact .inr ⟨by omega, by omega⟩ | fail) | ((fail_if_success refine Exists.intro (α := Nat → Nat → L2.St → Hp → Prop) ?_ ?_); (fail_if_success refine Exists.intro (α := L2.St → Hp → Prop) ?_ ?_); (fail_if_success refine Exists.intro (α := Nat → L2.St → Hp → Prop) ?_ ?_); apply Exists.intro) | ((refine And.intro ?_ ?_); first | with_reducible rfl | with_reducible assumption | rfl | ((with_reducible apply SqL.of); assumption) | ((with_reducible apply SqT.of); assumption) | ((with_reducible apply OwnC.cl); assumption) | (with_reducible exact isI_int _) | exact within_args | (with_reducible exact upd_same) | ((with_reducible apply Mid.o); assumption) | ((with_reducible apply Mid.t); assumption) | exact .inl ⟨rfl, _, SqL.of (by assumption)⟩ | (with_reducible exact ⟨_, SqT.of (by assumption)⟩) | (with_reducible exact ⟨_, SqL.of (by assumption)⟩) | omega | exact Nat.le_of_ble_eq_true rfl | exact nat9 (by omega) | exact ⟨_, rfl⟩ | (show _ ≤ sizeLine; decide) | exact ⟨by decide, by decide, by decide⟩ | exact .inl ⟨by decide, by decide⟩ | exact .inl ⟨by omega, by omega⟩ | exact .inr ⟨by omega, by omega⟩ | assumption | fail) | ((with_reducible refine iteF' ?_ ?_); first | rfl | exact decide_eq_false (by omega) | exact in_no (by omega) (by omega) | exact in_no (by omega) (by assumption) | (simp <;> fail) | fail) | ((with_reducible refine iteT' ?_ ?_); first | rfl | exact decide_eq_true (by omega) | (simp <;> fail) | fail))
      intro j_x x H3 e_x O_x B_x; replace M := M.draw O_x B_x; clear O_x B_x
      obtain ⟨i0, hx, rfl⟩ := pick_int (ks := [1, 2, 3, 8, 256, 1 + (r1 : Int)]) e_x
      clear e_x j_x hx g_l1 S_l1 h_l1
      repeat (first | (with_reducible refine st_tC ?_) | (with_reducible refine st_tOp ?_) | ((with_reducible apply st_n); rfl; rfl; (first | trivial | (show _ ≤ _; omega) | (show _ < _; omega) | (show _ ∨ _; omega) | assumption | exact ⟨by assumption, by omega⟩ | exact ⟨W30.one, by omega⟩ | fail); rfl) | (with_reducible refine st_i0 rfl rfl rfl ?_) | ((with_reducible refine st_i rfl rfl ?_ rfl ?_); first | omega | exact ⟨by decide, by decide, by decide⟩ | exact .inl ⟨by decide, by decide⟩ | exact .inl ⟨by omega, by omega⟩ | exact .inr ⟨by omega, by omega⟩ | fail) | ((fail_if_success refine Exists.intro (α := Nat → Nat → L2.St → Hp → Prop) ?_ ?_); (fail_if_success refine Exists.intro (α := L2.St → Hp → Prop) ?_ ?_); (fail_if_success refine Exists.intro (α := Nat → L2.St → Hp → Prop) ?_ ?_); apply Exists.intro) | ((refine And.intro ?_ ?_); first | with_reducible rfl | with_reducible assumption | rfl | ((with_reducible apply SqL.of); assumption) | ((with_reducible apply SqT.of); assumption) | ((with_reducible apply OwnC.cl); assumption) | (with_reducible exact isI_int _) | exact within_args | (with_reducible exact upd_same) | ((with_reducible apply Mid.o); assumption) | ((with_reducible apply Mid.t); assumption) | exact .inl ⟨rfl, _, SqL.of (by assumption)⟩ | (with_reducible exact ⟨_, SqT.of (by assumption)⟩) | (with_reducible exact ⟨_, SqL.of (by assumption)⟩) | omega | exact Nat.le_of_ble_eq_true rfl | exact nat9 (by omega) | exact ⟨_, rfl⟩ | (show _ ≤ sizeLine; decide) | exact ⟨by decide, by decide, by decide⟩ | exact .inl ⟨by decide, by decide⟩ | exact .inl ⟨by omega, by omega⟩ | exact .inr ⟨by omega, by omega⟩ | assumption | fail) | ((with_reducible refine iteF' ?_ ?_); first | rfl | exact decide_eq_false (by omega) | exact in_no (by omega) (by omega) | exact in_no (by omega) (by assumption) | (simp <;> fail) | fail) | ((with_reducible refine iteT' ?_ ?_); first | rfl | exact decide_eq_true (by omega) | (simp <;> fail) | fail))
      intro r2 H4 r20 r21 O_r2 B_r2; replace M := M.draw O_r2 B_r2; obtain ⟨r2, rfl⟩ := Int.eq_ofNat_of_zero_le r20; clear O_r2 B_r2
      repeat (first | (with_reducible refine st_tC ?_) | (with_reducible refine st_tOp ?_) | ((with_reducible apply st_n); rfl; rfl; (first | trivial | (show _ ≤ _; omega) | (show _ < _; omega) | (show _ ∨ _; omega) | assumption | exact ⟨by assumption, by omega⟩ | exact ⟨W30.one, by omega⟩ | fail); rfl) | (with_reducible refine st_i0 rfl rfl rfl ?_) | ((with_reducible refine st_i rfl rfl ?_ rfl ?_); first | omega | exact ⟨by decide, by decide, by decide⟩ | exact .inl ⟨by decide, by decide⟩ | exact .inl ⟨by omega, by omega⟩ | exact .inr ⟨by omega, by omega⟩ | fail) | ((fail_if_success refine Exists.intro (α := Nat → Nat → L2.St → Hp → Prop) ?_ ?_); (fail_if_success refine Exists.intro (α := L2.St → Hp → Prop) ?_ ?_); (fail_if_success refine Exists.intro (α := Nat → L2.St → Hp → Prop) ?_ ?_); apply Exists.intro) | ((refine And.intro ?_ ?_); first | with_reducible rfl | with_reducible assumption | rfl | ((with_reducible apply SqL.of); assumption) | ((with_reducible apply SqT.of); assumption) | ((with_reducible apply OwnC.cl); assumption) | (with_reducible exact isI_int _) | exact within_args | (with_reducible exact upd_same) | ((with_reducible apply Mid.o); assumption) | ((with_reducible apply Mid.t); assumption) | exact .inl ⟨rfl, _, SqL.of (by assumption)⟩ | (with_reducible exact ⟨_, SqT.of (by assumption)⟩) | (with_reducible exact ⟨_, SqL.of (by assumption)⟩) | omega | exact Nat.le_of_ble_eq_true rfl | exact nat9 (by omega) | exact ⟨_, rfl⟩ | (show _ ≤ sizeLine; decide) | exact ⟨by decide, by decide, by decide⟩ | exact .inl ⟨by decide, by decide⟩ | exact .inl ⟨by omega, by omega⟩ | exact .inr ⟨by omega, by omega⟩ | assumption | fail) | ((with_reducible refine iteF' ?_ ?_); first | rfl | exact decide_eq_false (by omega) | exact in_no (by omega) (by omega) | exact in_no (by omega) (by assumption) | (simp <;> fail) | fail) | ((with_reducible refine iteT' ?_ ?_); first | rfl | exact decide_eq_true (by omega) | (simp <;> fail) | fail))
      intro l2 h_l2; have np_l2 := M.pD h_l2; have nb_l2 := M.bD h_l2; generalize hE : upd _ l2 _ = H5; obtain ⟨S_l2, g_l2⟩ := new_facts h_l2 hE; clear hE; replace M := M.same S_l2
      repeat (first | (with_reducible refine st_tC ?_) | (with_reducible refine st_tOp ?_) | ((with_reducible apply st_n); rfl; rfl; (first | trivial | (show _ ≤ _; omega) | (show _ < _; omega) | (show _ ∨ _; omega) | assumption | exact ⟨by assumption, by omega⟩ | exact ⟨W30.one, by omega⟩ | fail); rfl) | (with_reducible refine st_i0 rfl rfl rfl ?_) | ((with_reducible refine st_i rfl rfl ?_ rfl ?_); first | omega | exact ⟨by decide, by decide, by decide⟩ | exact .inl ⟨by decide, by decide⟩ | exact .inl ⟨by omega, by omega⟩ | exact .inr ⟨by omega, by omega⟩ | fail) | ((fail_if_success refine Exists.intro (α := Nat → Nat → L2.St → Hp → Prop) ?_ ?_); (fail_if_success refine Exists.intro (α := L2.St → Hp → Prop) ?_ ?_); (fail_if_success refine Exists.intro (α := Nat → L2.St → Hp → Prop) ?_ ?_); apply Exists.intro) | ((refine And.intro ?_ ?_); first | with_reducible rfl | with_reducible assumption | rfl | ((with_reducible apply SqL.of); assumption) | ((with_reducible apply SqT.of); assumption) | ((with_reducible apply OwnC.cl); assumption) | (with_reducible exact isI_int _) | exact within_args | (with_reducible exact upd_same) | ((with_reducible apply Mid.o); assumption) | ((with_reducible apply Mid.t); assumption) | exact .inl ⟨rfl, _, SqL.of (by assumption)⟩ | (with_reducible exact ⟨_, SqT.of (by assumption)⟩) | (with_reducible exact ⟨_, SqL.of (by assumption)⟩) | omega | exact Nat.le_of_ble_eq_true rfl | exact nat9 (by omega) | exact ⟨_, rfl⟩ | (show _ ≤ sizeLine; decide) | exact ⟨by decide, by decide, by decide⟩ | exact .inl ⟨by decide, by decide⟩ | exact .inl ⟨by omega, by omega⟩ | exact .inr ⟨by omega, by omega⟩ | assumption | fail) | ((with_reducible refine iteF' ?_ ?_); first | rfl | exact decide_eq_false (by omega) | exact in_no (by omega) (by omega) | exact in_no (by omega) (by assumption) | (simp <;> fail) | fail) | ((with_reducible refine iteT' ?_ ?_); first | rfl | exact decide_eq_true (by omega) | (simp <;> fail) | fail))
      intro j_y y H6 e_y O_y B_y; replace M := M.draw O_y B_y; clear O_y B_y
      obtain ⟨i1, hy, rfl⟩ := pick_int (ks := [1, 2, 48, 1 + (r2 : Int)]) e_y
      clear e_y j_y hy g_l2 S_l2 h_l2
      repeat (first | (with_reducible refine st_tC ?_) | (with_reducible refine st_tOp ?_) | ((with_reducible apply st_n); rfl; rfl; (first | trivial | (show _ ≤ _; omega) | (show _ < _; omega) | (show _ ∨ _; omega) | assumption | exact ⟨by assumption, by omega⟩ | exact ⟨W30.one, by omega⟩ | fail); rfl) | (with_reducible refine st_i0 rfl rfl rfl ?_) | ((with_reducible refine st_i rfl rfl ?_ rfl ?_); first | omega | exact ⟨by decide, by decide, by decide⟩ | exact .inl ⟨by decide, by decide⟩ | exact .inl ⟨by omega, by omega⟩ | exact .inr ⟨by omega, by omega⟩ | fail) | ((fail_if_success refine Exists.intro (α := Nat → Nat → L2.St → Hp → Prop) ?_ ?_); (fail_if_success refine Exists.intro (α := L2.St → Hp → Prop) ?_ ?_); (fail_if_success refine Exists.intro (α := Nat → L2.St → Hp → Prop) ?_ ?_); apply Exists.intro) | ((refine And.intro ?_ ?_); first | with_reducible rfl | with_reducible assumption | rfl | ((with_reducible apply SqL.of); assumption) | ((with_reducible apply SqT.of); assumption) | ((with_reducible apply OwnC.cl); assumption) | (with_reducible exact isI_int _) | exact within_args | (with_reducible exact upd_same) | ((with_reducible apply Mid.o); assumption) | ((with_reducible apply Mid.t); assumption) | exact .inl ⟨rfl, _, SqL.of (by assumption)⟩ | (with_reducible exact ⟨_, SqT.of (by assumption)⟩) | (with_reducible exact ⟨_, SqL.of (by assumption)⟩) | omega | exact Nat.le_of_ble_eq_true rfl | exact nat9 (by omega) | exact ⟨_, rfl⟩ | (show _ ≤ sizeLine; decide) | exact ⟨by decide, by decide, by decide⟩ | exact .inl ⟨by decide, by decide⟩ | exact .inl ⟨by omega, by omega⟩ | exact .inr ⟨by omega, by omega⟩ | assumption | fail) | ((with_reducible refine iteF' ?_ ?_); first | rfl | exact decide_eq_false (by omega) | exact in_no (by omega) (by omega) | exact in_no (by omega) (by assumption) | (simp <;> fail) | fail) | ((with_reducible refine iteT' ?_ ?_); first | rfl | exact decide_eq_true (by omega) | (simp <;> fail) | fail))
      intro r3 H7 r30 r31 O_r3 B_r3; replace M := M.draw O_r3 B_r3; obtain ⟨r3, rfl⟩ := Int.eq_ofNat_of_zero_le r30; clear O_r3 B_r3
      repeat (first | (with_reducible refine st_tC ?_) | (with_reducible refine st_tOp ?_) | ((with_reducible apply st_n); rfl; rfl; (first | trivial | (show _ ≤ _; omega) | (show _ < _; omega) | (show _ ∨ _; omega) | assumption | exact ⟨by assumption, by omega⟩ | exact ⟨W30.one, by omega⟩ | fail); rfl) | (with_reducible refine st_i0 rfl rfl rfl ?_) | ((with_reducible refine st_i rfl rfl ?_ rfl ?_); first | omega | exact ⟨by decide, by decide, by decide⟩ | exact .inl ⟨by decide, by decide⟩ | exact .inl ⟨by omega, by omega⟩ | exact .inr ⟨by omega, by omega⟩ | fail) | ((fail_if_success refine Exists.intro (α := Nat → Nat → L2.St → Hp → Prop) ?_ ?_); (fail_if_success refine Exists.intro (α := L2.St → Hp → Prop) ?_ ?_); (fail_if_success refine Exists.intro (α := Nat → L2.St → Hp → Prop) ?_ ?_); apply Exists.intro) | ((refine And.intro ?_ ?_); first | with_reducible rfl | with_reducible assumption | rfl | ((with_reducible apply SqL.of); assumption) | ((with_reducible apply SqT.of); assumption) | ((with_reducible apply OwnC.cl); assumption) | (with_reducible exact isI_int _) | exact within_args | (with_reducible exact upd_same) | ((with_reducible apply Mid.o); assumption) | ((with_reducible apply Mid.t); assumption) | exact .inl ⟨rfl, _, SqL.of (by assumption)⟩ | (with_reducible exact ⟨_, SqT.of (by assumption)⟩) | (with_reducible exact ⟨_, SqL.of (by assumption)⟩) | omega | exact Nat.le_of_ble_eq_true rfl | exact nat9 (by omega) | exact ⟨_, rfl⟩ | (show _ ≤ sizeLine; decide) | exact ⟨by decide, by decide, by decide⟩ | exact .inl ⟨by decide, by decide⟩ | exact .inl ⟨by omega, by omega⟩ | exact .inr ⟨by omega, by omega⟩ | assumption | fail) | ((with_reducible refine iteF' ?_ ?_); first | rfl | exact decide_eq_false (by omega) | exact in_no (by omega) (by omega) | exact in_no (by omega) (by assumption) | (simp <;> fail) | fail) | ((with_reducible refine iteT' ?_ ?_); first | rfl | exact decide_eq_true (by omega) | (simp <;> fail) | fail))
      intro lt h_lt; have np_lt := M.pD h_lt; have nb_lt := M.bD h_lt; generalize hE : upd _ lt _ = H8; obtain ⟨S_lt, g_lt⟩ := new_facts h_lt hE; clear hE; replace M := M.same S_lt
      repeat (first | (with_reducible refine st_tC ?_) | (with_reducible refine st_tOp ?_) | ((with_reducible apply st_n); rfl; rfl; (first | trivial | (show _ ≤ _; omega) | (show _ < _; omega) | (show _ ∨ _; omega) | assumption | exact ⟨by assumption, by omega⟩ | exact ⟨W30.one, by omega⟩ | fail); rfl) | (with_reducible refine st_i0 rfl rfl rfl ?_) | ((with_reducible refine st_i rfl rfl ?_ rfl ?_); first | omega | exact ⟨by decide, by decide, by decide⟩ | exact .inl ⟨by decide, by decide⟩ | exact .inl ⟨by omega, by omega⟩ | exact .inr ⟨by omega, by omega⟩ | fail) | ((fail_if_success refine Exists.intro (α := Nat → Nat → L2.St → Hp → Prop) ?_ ?_); (fail_if_success refine Exists.intro (α := L2.St → Hp → Prop) ?_ ?_); (fail_if_success refine Exists.intro (α := Nat → L2.St → Hp → Prop) ?_ ?_); apply Exists.intro) | ((refine And.intro ?_ ?_); first | with_reducible rfl | with_reducible assumption | rfl | ((with_reducible apply SqL.of); assumption) | ((with_reducible apply SqT.of); assumption) | ((with_reducible apply OwnC.cl); assumption) | (with_reducible exact isI_int _) | exact within_args | (with_reducible exact upd_same) | ((with_reducible apply Mid.o); assumption) | ((with_reducible apply Mid.t); assumption) | exact .inl ⟨rfl, _, SqL.of (by assumption)⟩ | (with_reducible exact ⟨_, SqT.of (by assumption)⟩) | (with_reducible exact ⟨_, SqL.of (by assumption)⟩) | omega | exact Nat.le_of_ble_eq_true rfl | exact nat9 (by omega) | exact ⟨_, rfl⟩ | (show _ ≤ sizeLine; decide) | exact ⟨by decide, by decide, by decide⟩ | exact .inl ⟨by decide, by decide⟩ | exact .inl ⟨by omega, by omega⟩ | exact .inr ⟨by omega, by omega⟩ | assumption | fail) | ((with_reducible refine iteF' ?_ ?_); first | rfl | exact decide_eq_false (by omega) | exact in_no (by omega) (by omega) | exact in_no (by omega) (by assumption) | (simp <;> fail) | fail) | ((with_reducible refine iteT' ?_ ?_); first | rfl | exact decide_eq_true (by omega) | (simp <;> fail) | fail))
      intro r4 H9 r40 r41 O_r4 B_r4; replace g_lt := B_r4 _ _ g_lt np_lt; replace M := M.draw O_r4 B_r4; obtain ⟨r4, rfl⟩ := Int.eq_ofNat_of_zero_le r40; clear O_r4 B_r4
      have t3 : T3 H9 lt (.int i0) (.int i1) (.int (1 + (r3 : Int))) := ⟨g_lt, ⟨.inl ⟨_, rfl⟩⟩, ⟨.inl ⟨_, rfl⟩⟩, ⟨.inl ⟨_, rfl⟩⟩⟩
      clear g_lt S_lt h_lt
      repeat (first | (with_reducible refine st_tC ?_) | (with_reducible refine st_tOp ?_) | ((with_reducible apply st_n); rfl; rfl; (first | trivial | (show _ ≤ _; omega) | (show _ < _; omega) | (show _ ∨ _; omega) | assumption | exact ⟨by assumption, by omega⟩ | exact ⟨W30.one, by omega⟩ | fail); rfl) | (with_reducible refine st_i0 rfl rfl rfl ?_) | ((with_reducible refine st_i rfl rfl ?_ rfl ?_); first | omega | exact ⟨by decide, by decide, by decide⟩ | exact .inl ⟨by decide, by decide⟩ | exact .inl ⟨by omega, by omega⟩ | exact .inr ⟨by omega, by omega⟩ | fail) | ((fail_if_success refine Exists.intro (α := Nat → Nat → L2.St → Hp → Prop) ?_ ?_); (fail_if_success refine Exists.intro (α := L2.St → Hp → Prop) ?_ ?_); (fail_if_success refine Exists.intro (α := Nat → L2.St → Hp → Prop) ?_ ?_); apply Exists.intro) | ((refine And.intro ?_ ?_); first | with_reducible rfl | with_reducible assumption | rfl | ((with_reducible apply SqL.of); assumption) | ((with_reducible apply SqT.of); assumption) | ((with_reducible apply OwnC.cl); assumption) | (with_reducible exact isI_int _) | exact within_args | (with_reducible exact upd_same) | ((with_reducible apply Mid.o); assumption) | ((with_reducible apply Mid.t); assumption) | exact .inl ⟨rfl, _, SqL.of (by assumption)⟩ | (with_reducible exact ⟨_, SqT.of (by assumption)⟩) | (with_reducible exact ⟨_, SqL.of (by assumption)⟩) | omega | exact Nat.le_of_ble_eq_true rfl | exact nat9 (by omega) | exact ⟨_, rfl⟩ | (show _ ≤ sizeLine; decide) | exact ⟨by decide, by decide, by decide⟩ | exact .inl ⟨by decide, by decide⟩ | exact .inl ⟨by omega, by omega⟩ | exact .inr ⟨by omega, by omega⟩ | assumption | fail) | ((with_reducible refine iteF' ?_ ?_); first | rfl | exact decide_eq_false (by omega) | exact in_no (by omega) (by omega) | exact in_no (by omega) (by assumption) | (simp <;> fail) | fail) | ((with_reducible refine iteT' ?_ ?_); first | rfl | exact decide_eq_true (by omega) | (simp <;> fail) | fail))
      refine for_range (n := r4) (fun i σ H' => Mid (TB2 Pa Pb) p b (n + 6 + 2 * i) H' ∧ Hid (∃ (x y z : V) (u2 u3 : Option V), T3 H' lt x y z ∧ σ = [some (.ref p), some (.ref lt), u2, u3, none, none, none, none, none, none, none, none, none])) ⟨M, ⟨_, _, _, _, _, t3, rfl⟩⟩ ?_ ?_
      · clear M t3
        rintro i σ H1 hi ⟨M, ⟨x, y, z, u2, u3, t3, rfl⟩⟩
        obtain ⟨g_lt, tx, ty, tz⟩ := t3
        repeat (first | (with_reducible refine st_tC ?_) | (with_reducible refine st_tOp ?_) | ((with_reducible apply st_n); rfl; rfl; (first | trivial | (show _ ≤ _; omega) | (show _ < _; omega) | (show _ ∨ _; omega) | assumption | exact ⟨by assumption, by omega⟩ | exact ⟨W30.one, by omega⟩ | fail); rfl) | (with_reducible refine st_i0 rfl rfl rfl ?_) | ((with_reducible refine st_i rfl rfl ?_ rfl ?_); first | omega | exact ⟨by decide, by decide, by decide⟩ | exact .inl ⟨by decide, by decide⟩ | exact .inl ⟨by omega, by omega⟩ | exact .inr ⟨by omega, by omega⟩ | fail) | ((fail_if_success refine Exists.intro (α := Nat → Nat → L2.St → Hp → Prop) ?_ ?_); (fail_if_success refine Exists.intro (α := L2.St → Hp → Prop) ?_ ?_); (fail_if_success refine Exists.intro (α := Nat → L2.St → Hp → Prop) ?_ ?_); apply Exists.intro) | ((refine And.intro ?_ ?_); first | with_reducible rfl | with_reducible assumption | rfl | ((with_reducible apply SqL.of); assumption) | ((with_reducible apply SqT.of); assumption) | ((with_reducible apply OwnC.cl); assumption) | (with_reducible exact isI_int _) | exact within_args | (with_reducible exact upd_same) | ((with_reducible apply Mid.o); assumption) | ((with_reducible apply Mid.t); assumption) | exact .inl ⟨rfl, _, SqL.of (by assumption)⟩ | (with_reducible exact ⟨_, SqT.of (by assumption)⟩) | (with_reducible exact ⟨_, SqL.of (by assumption)⟩) | omega | exact Nat.le_of_ble_eq_true rfl | exact nat9 (by omega) | exact ⟨_, rfl⟩ | (show _ ≤ sizeLine; decide) | exact ⟨by decide, by decide, by decide⟩ | exact .inl ⟨by decide, by decide⟩ | exact .inl ⟨by omega, by omega⟩ | exact .inr ⟨by omega, by omega⟩ | assumption | fail) | ((with_reducible refine iteF' ?_ ?_); first | rfl | exact decide_eq_false (by omega) | exact in_no (by omega) (by omega) | exact in_no (by omega) (by assumption) | (simp <;> fail) | fail) | ((with_reducible refine iteT' ?_ ?_); first | rfl | exact decide_eq_true (by omega) | (simp <;> fail) | fail))
        intro at' H2 at'0 at'1 O_at' B_at'; obtain ⟨_, _, _, hpX, _⟩ := id M.o; replace tx := tx.but B_at' hpX; replace ty := ty.but B_at' hpX; replace tz := tz.but B_at' hpX; replace g_lt := B_at' _ _ g_lt np_lt; replace M := M.draw O_at' B_at'; obtain ⟨at', rfl⟩ := Int.eq_ofNat_of_zero_le at'0; clear O_at' B_at'
        repeat (first | (with_reducible refine st_tC ?_) | (with_reducible refine st_tOp ?_) | ((with_reducible apply st_n); rfl; rfl; (first | trivial | (show _ ≤ _; omega) | (show _ < _; omega) | (show _ ∨ _; omega) | assumption | exact ⟨by assumption, by omega⟩ | exact ⟨W30.one, by omega⟩ | fail); rfl) | (with_reducible refine st_i0 rfl rfl rfl ?_) | ((with_reducible refine st_i rfl rfl ?_ rfl ?_); first | omega | exact ⟨by decide, by decide, by decide⟩ | exact .inl ⟨by decide, by decide⟩ | exact .inl ⟨by omega, by omega⟩ | exact .inr ⟨by omega, by omega⟩ | fail) | ((fail_if_success refine Exists.intro (α := Nat → Nat → L2.St → Hp → Prop) ?_ ?_); (fail_if_success refine Exists.intro (α := L2.St → Hp → Prop) ?_ ?_); (fail_if_success refine Exists.intro (α := Nat → L2.St → Hp → Prop) ?_ ?_); apply Exists.intro) | ((refine And.intro ?_ ?_); first | with_reducible rfl | with_reducible assumption | rfl | ((with_reducible apply SqL.of); assumption) | ((with_reducible apply SqT.of); assumption) | ((with_reducible apply OwnC.cl); assumption) | (with_reducible exact isI_int _) | exact within_args | (with_reducible exact upd_same) | ((with_reducible apply Mid.o); assumption) | ((with_reducible apply Mid.t); assumption) | exact .inl ⟨rfl, _, SqL.of (by assumption)⟩ | (with_reducible exact ⟨_, SqT.of (by assumption)⟩) | (with_reducible exact ⟨_, SqL.of (by assumption)⟩) | omega | exact Nat.le_of_ble_eq_true rfl | exact nat9 (by omega) | exact ⟨_, rfl⟩ | (show _ ≤ sizeLine; decide) | exact ⟨by decide, by decide, by decide⟩ | exact .inl ⟨by decide, by decide⟩ | exact .inl ⟨by omega, by omega⟩ | exact .inr ⟨by omega, by omega⟩ | assumption | fail) | ((with_reducible refine iteF' ?_ ?_); first | rfl | exact decide_eq_false (by omega) | exact in_no (by omega) (by omega) | exact in_no (by omega) (by assumption) | (simp <;> fail) | fail) | ((with_reducible refine iteT' ?_ ?_); first | rfl | exact decide_eq_true (by omega) | (simp <;> fail) | fail))
        intro o1 h_o1; have np_o1 := M.pD h_o1; have nb_o1 := M.bD h_o1; generalize hE : upd _ o1 _ = H3; obtain ⟨S_o1, g_o1⟩ := new_facts h_o1 hE; clear hE; replace M := M.same S_o1; replace tx := tx.same S_o1; replace ty := ty.same S_o1; replace tz := tz.same S_o1; replace g_lt := S_o1 _ _ g_lt
        repeat (first | (with_reducible refine st_tC ?_) | (with_reducible refine st_tOp ?_) | ((with_reducible apply st_n); rfl; rfl; (first | trivial | (show _ ≤ _; omega) | (show _ < _; omega) | (show _ ∨ _; omega) | assumption | exact ⟨by assumption, by omega⟩ | exact ⟨W30.one, by omega⟩ | fail); rfl) | (with_reducible refine st_i0 rfl rfl rfl ?_) | ((with_reducible refine st_i rfl rfl ?_ rfl ?_); first | omega | exact ⟨by decide, by decide, by decide⟩ | exact .inl ⟨by decide, by decide⟩ | exact .inl ⟨by omega, by omega⟩ | exact .inr ⟨by omega, by omega⟩ | fail) | ((fail_if_success refine Exists.intro (α := Nat → Nat → L2.St → Hp → Prop) ?_ ?_); (fail_if_success refine Exists.intro (α := L2.St → Hp → Prop) ?_ ?_); (fail_if_success refine Exists.intro (α := Nat → L2.St → Hp → Prop) ?_ ?_); apply Exists.intro) | ((refine And.intro ?_ ?_); first | with_reducible rfl | with_reducible assumption | rfl | ((with_reducible apply SqL.of); assumption) | ((with_reducible apply SqT.of); assumption) | ((with_reducible apply OwnC.cl); assumption) | (with_reducible exact isI_int _) | exact within_args | (with_reducible exact upd_same) | ((with_reducible apply Mid.o); assumption) | ((with_reducible apply Mid.t); assumption) | exact .inl ⟨rfl, _, SqL.of (by assumption)⟩ | (with_reducible exact ⟨_, SqT.of (by assumption)⟩) | (with_reducible exact ⟨_, SqL.of (by assumption)⟩) | omega | exact Nat.le_of_ble_eq_true rfl | exact nat9 (by omega) | exact ⟨_, rfl⟩ | (show _ ≤ sizeLine; decide) | exact ⟨by decide, by decide, by decide⟩ | exact .inl ⟨by decide, by decide⟩ | exact .inl ⟨by omega, by omega⟩ | exact .inr ⟨by omega, by omega⟩ | assumption | fail) | ((with_reducible refine iteF' ?_ ?_); first | rfl | exact decide_eq_false (by omega) | exact in_no (by omega) (by omega) | exact in_no (by omega) (by assumption) | (simp <;> fail) | fail) | ((with_reducible refine iteT' ?_ ?_); first | rfl | exact decide_eq_true (by omega) | (simp <;> fail) | fail))
        intro o2 h_o2; have np_o2 := M.pD h_o2; have nb_o2 := M.bD h_o2; generalize hE : upd _ o2 _ = H4; obtain ⟨S_o2, g_o2⟩ := new_facts h_o2 hE; clear hE; replace M := M.same S_o2; replace tx := tx.same S_o2; replace ty := ty.same S_o2; replace tz := tz.same S_o2; replace g_lt := S_o2 _ _ g_lt; replace g_o1 := S_o2 _ _ g_o1
        obtain ⟨i4, e4⟩ : ∃ i4 : Int, atI [V.int 257, V.int 49, V.int 9] (at' : Int) = some (.int i4) := by
          match at', at'1 with
          | 0, _ => exact ⟨_, rfl⟩
          | 1, _ => exact ⟨_, rfl⟩
          | 2, _ => exact ⟨_, rfl⟩
          | n + 3, h => exact absurd h (by omega)
        repeat (first | (with_reducible refine st_tC ?_) | (with_reducible refine st_tOp ?_) | ((with_reducible apply st_n); rfl; rfl; (first | trivial | (show _ ≤ _; omega) | (show _ < _; omega) | (show _ ∨ _; omega) | assumption | exact ⟨by assumption, by omega⟩ | exact ⟨W30.one, by omega⟩ | fail); rfl) | (with_reducible refine st_i0 rfl rfl rfl ?_) | ((with_reducible refine st_i rfl rfl ?_ rfl ?_); first | omega | exact ⟨by decide, by decide, by decide⟩ | exact .inl ⟨by decide, by decide⟩ | exact .inl ⟨by omega, by omega⟩ | exact .inr ⟨by omega, by omega⟩ | fail) | ((fail_if_success refine Exists.intro (α := Nat → Nat → L2.St → Hp → Prop) ?_ ?_); (fail_if_success refine Exists.intro (α := L2.St → Hp → Prop) ?_ ?_); (fail_if_success refine Exists.intro (α := Nat → L2.St → Hp → Prop) ?_ ?_); apply Exists.intro) | ((refine And.intro ?_ ?_); first | with_reducible rfl | with_reducible assumption | rfl | ((with_reducible apply SqL.of); assumption) | ((with_reducible apply SqT.of); assumption) | ((with_reducible apply OwnC.cl); assumption) | (with_reducible exact isI_int _) | exact within_args | (with_reducible exact upd_same) | ((with_reducible apply Mid.o); assumption) | ((with_reducible apply Mid.t); assumption) | exact .inl ⟨rfl, _, SqL.of (by assumption)⟩ | (with_reducible exact ⟨_, SqT.of (by assumption)⟩) | (with_reducible exact ⟨_, SqL.of (by assumption)⟩) | omega | exact Nat.le_of_ble_eq_true rfl | exact nat9 (by omega) | exact ⟨_, rfl⟩ | (show _ ≤ sizeLine; decide) | exact ⟨by decide, by decide, by decide⟩ | exact .inl ⟨by decide, by decide⟩ | exact .inl ⟨by omega, by omega⟩ | exact .inr ⟨by omega, by omega⟩ | assumption | fail) | ((with_reducible refine iteF' ?_ ?_); first | rfl | exact decide_eq_false (by omega) | exact in_no (by omega) (by omega) | exact in_no (by omega) (by assumption) | (simp <;> fail) | fail) | ((with_reducible refine iteT' ?_ ?_); first | rfl | exact decide_eq_true (by omega) | (simp <;> fail) | fail))
        intro o3 h_o3; have np_o3 := M.pD h_o3; have nb_o3 := M.bD h_o3; generalize hE : upd _ o3 _ = H5; obtain ⟨S_o3, g_o3⟩ := new_facts h_o3 hE; clear hE; replace M := M.same S_o3; replace tx := tx.same S_o3; replace ty := ty.same S_o3; replace tz := tz.same S_o3; replace g_lt := S_o3 _ _ g_lt; replace g_o1 := S_o3 _ _ g_o1
        repeat (first | (with_reducible refine st_tC ?_) | (with_reducible refine st_tOp ?_) | ((with_reducible apply st_n); rfl; rfl; (first | trivial | (show _ ≤ _; omega) | (show _ < _; omega) | (show _ ∨ _; omega) | assumption | exact ⟨by assumption, by omega⟩ | exact ⟨W30.one, by omega⟩ | fail); rfl) | (with_reducible refine st_i0 rfl rfl rfl ?_) | ((with_reducible refine st_i rfl rfl ?_ rfl ?_); first | omega | exact ⟨by decide, by decide, by decide⟩ | exact .inl ⟨by decide, by decide⟩ | exact .inl ⟨by omega, by omega⟩ | exact .inr ⟨by omega, by omega⟩ | fail) | ((fail_if_success refine Exists.intro (α := Nat → Nat → L2.St → Hp → Prop) ?_ ?_); (fail_if_success refine Exists.intro (α := L2.St → Hp → Prop) ?_ ?_); (fail_if_success refine Exists.intro (α := Nat → L2.St → Hp → Prop) ?_ ?_); apply Exists.intro) | ((refine And.intro ?_ ?_); first | with_reducible rfl | with_reducible assumption | rfl | ((with_reducible apply SqL.of); assumption) | ((with_reducible apply SqT.of); assumption) | ((with_reducible apply OwnC.cl); assumption) | (with_reducible exact isI_int _) | exact within_args | (with_reducible exact upd_same) | ((with_reducible apply Mid.o); assumption) | ((with_reducible apply Mid.t); assumption) | exact .inl ⟨rfl, _, SqL.of (by assumption)⟩ | (with_reducible exact ⟨_, SqT.of (by assumption)⟩) | (with_reducible exact ⟨_, SqL.of (by assumption)⟩) | omega | exact Nat.le_of_ble_eq_true rfl | exact nat9 (by omega) | exact ⟨_, rfl⟩ | (show _ ≤ sizeLine; decide) | exact ⟨by decide, by decide, by decide⟩ | exact .inl ⟨by decide, by decide⟩ | exact .inl ⟨by omega, by omega⟩ | exact .inr ⟨by omega, by omega⟩ | assumption | fail) | ((with_reducible refine iteF' ?_ ?_); first | rfl | exact decide_eq_false (by omega) | exact in_no (by omega) (by omega) | exact in_no (by omega) (by assumption) | (simp <;> fail) | fail) | ((with_reducible refine iteT' ?_ ?_); first | rfl | exact decide_eq_true (by omega) | (simp <;> fail) | fail))
        intro lo h_lo; have np_lo := M.pD h_lo; have nb_lo := M.bD h_lo; generalize hE : upd _ lo _ = H6; obtain ⟨S_lo, g_lo⟩ := new_facts h_lo hE; clear hE; replace M := M.same S_lo; replace tx := tx.same S_lo; replace ty := ty.same S_lo; replace tz := tz.same S_lo; replace g_lt := S_lo _ _ g_lt; replace g_o1 := S_lo _ _ g_o1; replace g_o3 := S_lo _ _ g_o3
        repeat (first | (with_reducible refine st_tC ?_) | (with_reducible refine st_tOp ?_) | ((with_reducible apply st_n); rfl; rfl; (first | trivial | (show _ ≤ _; omega) | (show _ < _; omega) | (show _ ∨ _; omega) | assumption | exact ⟨by assumption, by omega⟩ | exact ⟨W30.one, by omega⟩ | fail); rfl) | (with_reducible refine st_i0 rfl rfl rfl ?_) | ((with_reducible refine st_i rfl rfl ?_ rfl ?_); first | omega | exact ⟨by decide, by decide, by decide⟩ | exact .inl ⟨by decide, by decide⟩ | exact .inl ⟨by omega, by omega⟩ | exact .inr ⟨by omega, by omega⟩ | fail) | ((fail_if_success refine Exists.intro (α := Nat → Nat → L2.St → Hp → Prop) ?_ ?_); (fail_if_success refine Exists.intro (α := L2.St → Hp → Prop) ?_ ?_); (fail_if_success refine Exists.intro (α := Nat → L2.St → Hp → Prop) ?_ ?_); apply Exists.intro) | ((refine And.intro ?_ ?_); first | with_reducible rfl | with_reducible assumption | rfl | ((with_reducible apply SqL.of); assumption) | ((with_reducible apply SqT.of); assumption) | ((with_reducible apply OwnC.cl); assumption) | (with_reducible exact isI_int _) | exact within_args | (with_reducible exact upd_same) | ((with_reducible apply Mid.o); assumption) | ((with_reducible apply Mid.t); assumption) | exact .inl ⟨rfl, _, SqL.of (by assumption)⟩ | (with_reducible exact ⟨_, SqT.of (by assumption)⟩) | (with_reducible exact ⟨_, SqL.of (by assumption)⟩) | omega | exact Nat.le_of_ble_eq_true rfl | exact nat9 (by omega) | exact ⟨_, rfl⟩ | (show _ ≤ sizeLine; decide) | exact ⟨by decide, by decide, by decide⟩ | exact .inl ⟨by decide, by decide⟩ | exact .inl ⟨by omega, by omega⟩ | exact .inr ⟨by omega, by omega⟩ | assumption | fail) | ((with_reducible refine iteF' ?_ ?_); first | rfl | exact decide_eq_false (by omega) | exact in_no (by omega) (by omega) | exact in_no (by omega) (by assumption) | (simp <;> fail) | fail) | ((with_reducible refine iteT' ?_ ?_); first | rfl | exact decide_eq_true (by omega) | (simp <;> fail) | fail))
        intro j_v v H7 e_v O_v B_v; obtain ⟨_, _, _, hpX, _⟩ := id M.o; replace tx := tx.but B_v hpX; replace ty := ty.but B_v hpX; replace tz := tz.but B_v hpX; replace g_lt := B_v _ _ g_lt np_lt; replace g_o1 := B_v _ _ g_o1 np_o1; replace g_o3 := B_v _ _ g_o3 np_o3; replace M := M.draw O_v B_v; clear O_v B_v
        have tv : Tv H7 v := by
          have m := List.mem_of_getElem? e_v
          simp only [List.mem_cons, List.not_mem_nil, or_false] at m
          rcases m with rfl | rfl | rfl | rfl | rfl | rfl | rfl | rfl | rfl
          · exact ⟨.inr (.inl rfl)⟩
          · exact ⟨.inr (.inr (.inl rfl))⟩
          · exact ⟨.inr (.inr (.inr (.inl rfl)))⟩
          · exact ⟨.inr (.inr (.inr (.inr ⟨_, rfl, .inl g_o1⟩)))⟩
          · exact ⟨.inl ⟨_, rfl⟩⟩
          · exact ⟨.inl ⟨_, rfl⟩⟩
          · exact ⟨.inl ⟨_, rfl⟩⟩
          · exact ⟨.inl ⟨_, rfl⟩⟩
          · exact ⟨.inr (.inr (.inr (.inr ⟨_, rfl, .inr g_o3⟩)))⟩
        clear e_v j_v g_o1 g_o3 g_lo S_o1 S_o2 S_o3 S_lo g_o2 h_o1 h_o2 h_o3 h_lo
        obtain ⟨eix, x', y', z', e5, tx', ty', tz'⟩ : ixN 3 (at' : Int) = some at' ∧ ∃ x' y' z', [x, y, z].set at' v = [x', y', z'] ∧ Tv H7 x' ∧ Tv H7 y' ∧ Tv H7 z' := by
          match at', at'1 with
          | 0, _ => exact ⟨rfl, v, y, z, rfl, tv, ty, tz⟩
          | 1, _ => exact ⟨rfl, x, v, z, rfl, tx, tv, tz⟩
          | 2, _ => exact ⟨rfl, x, y, v, rfl, tx, ty, tv⟩
          | n + 3, h => exact absurd h (by omega)
        repeat (first | (with_reducible refine st_tC ?_) | (with_reducible refine st_tOp ?_) | ((with_reducible apply st_n); rfl; rfl; (first | trivial | (show _ ≤ _; omega) | (show _ < _; omega) | (show _ ∨ _; omega) | assumption | exact ⟨by assumption, by omega⟩ | exact ⟨W30.one, by omega⟩ | fail); rfl) | (with_reducible refine st_i0 rfl rfl rfl ?_) | ((with_reducible refine st_i rfl rfl ?_ rfl ?_); first | omega | exact ⟨by decide, by decide, by decide⟩ | exact .inl ⟨by decide, by decide⟩ | exact .inl ⟨by omega, by omega⟩ | exact .inr ⟨by omega, by omega⟩ | fail) | ((fail_if_success refine Exists.intro (α := Nat → Nat → L2.St → Hp → Prop) ?_ ?_); (fail_if_success refine Exists.intro (α := L2.St → Hp → Prop) ?_ ?_); (fail_if_success refine Exists.intro (α := Nat → L2.St → Hp → Prop) ?_ ?_); apply Exists.intro) | ((refine And.intro ?_ ?_); first | with_reducible rfl | with_reducible assumption | rfl | ((with_reducible apply SqL.of); assumption) | ((with_reducible apply SqT.of); assumption) | ((with_reducible apply OwnC.cl); assumption) | (with_reducible exact isI_int _) | exact within_args | (with_reducible exact upd_same) | ((with_reducible apply Mid.o); assumption) | ((with_reducible apply Mid.t); assumption) | exact .inl ⟨rfl, _, SqL.of (by assumption)⟩ | (with_reducible exact ⟨_, SqT.of (by assumption)⟩) | (with_reducible exact ⟨_, SqL.of (by assumption)⟩) | omega | exact Nat.le_of_ble_eq_true rfl | exact nat9 (by omega) | exact ⟨_, rfl⟩ | (show _ ≤ sizeLine; decide) | exact ⟨by decide, by decide, by decide⟩ | exact .inl ⟨by decide, by decide⟩ | exact .inl ⟨by omega, by omega⟩ | exact .inr ⟨by omega, by omega⟩ | assumption | fail) | ((with_reducible refine iteF' ?_ ?_); first | rfl | exact decide_eq_false (by omega) | exact in_no (by omega) (by omega) | exact in_no (by omega) (by assumption) | (simp <;> fail) | fail) | ((with_reducible refine iteT' ?_ ?_); first | rfl | exact decide_eq_true (by omega) | (simp <;> fail) | fail))
        rw [e5]
        have up : ∀ {u : V}, Tv H7 u → Tv (upd H7 lt (.lst [x', y', z'])) u := fun {u} h => h.imp fun a o e c => by
          rw [upd_ne (show a ≠ lt from fun w => by
            rw [w, g_lt] at e
            cases e
            rcases c with c | c
            · cases c
            · have := congrArg (fun o : HO => match o with | .lst l => l.length | _ => 0) c
              cases this)]
          exact e
        exact ⟨(M.put g_lt np_lt nb_lt).mono (by omega), ⟨x', y', z', _, _, ⟨upd_same, up tx', up ty', up tz'⟩, rfl⟩⟩
      · rintro σ H1 ⟨M, ⟨x, y, z, u2, u3, t3, rfl⟩⟩
        have sql := SqL.of (K := K) t3.g
        refine ⟨fun σ' H' => Mid (TB2 Pa Pb) p b (n + 6 + 2 * r4) H' ∧ T3 H' lt x y z ∧ σ' = [some (.ref p), some (.ref lt), u2, u3, some (if badM x z = true then .str "most" else .non), none, none, none, none, none, none, none, none], ?_, ?_⟩
        · have aX : atI [x, y, z] 0 = some x := rfl
          have aZ : atI [x, y, z] 2 = some z := rfl
          have tz := t3.z1
          have tx := t3.x1
          repeat (first | (with_reducible refine st_tC ?_) | (with_reducible refine st_tOp ?_) | ((with_reducible apply st_n); rfl; rfl; (first | trivial | (show _ ≤ _; omega) | (show _ < _; omega) | (show _ ∨ _; omega) | assumption | exact ⟨by assumption, by omega⟩ | exact ⟨W30.one, by omega⟩ | fail); rfl) | (with_reducible refine st_i0 rfl rfl rfl ?_) | ((with_reducible refine st_i rfl rfl ?_ rfl ?_); first | omega | exact ⟨by decide, by decide, by decide⟩ | exact .inl ⟨by decide, by decide⟩ | exact .inl ⟨by omega, by omega⟩ | exact .inr ⟨by omega, by omega⟩ | fail) | ((fail_if_success refine Exists.intro (α := Nat → Nat → L2.St → Hp → Prop) ?_ ?_); (fail_if_success refine Exists.intro (α := L2.St → Hp → Prop) ?_ ?_); (fail_if_success refine Exists.intro (α := Nat → L2.St → Hp → Prop) ?_ ?_); apply Exists.intro) | ((refine And.intro ?_ ?_); first | with_reducible rfl | with_reducible assumption | rfl | ((with_reducible apply SqL.of); assumption) | ((with_reducible apply SqT.of); assumption) | ((with_reducible apply OwnC.cl); assumption) | (with_reducible exact isI_int _) | exact within_args | (with_reducible exact upd_same) | ((with_reducible apply Mid.o); assumption) | ((with_reducible apply Mid.t); assumption) | exact .inl ⟨rfl, _, SqL.of (by assumption)⟩ | (with_reducible exact ⟨_, SqT.of (by assumption)⟩) | (with_reducible exact ⟨_, SqL.of (by assumption)⟩) | omega | exact Nat.le_of_ble_eq_true rfl | exact nat9 (by omega) | exact ⟨_, rfl⟩ | (show _ ≤ sizeLine; decide) | exact ⟨by decide, by decide, by decide⟩ | exact .inl ⟨by decide, by decide⟩ | exact .inl ⟨by omega, by omega⟩ | exact .inr ⟨by omega, by omega⟩ | assumption | fail) | ((with_reducible refine iteF' ?_ ?_); first | rfl | exact decide_eq_false (by omega) | exact in_no (by omega) (by omega) | exact in_no (by omega) (by assumption) | (simp <;> fail) | fail) | ((with_reducible refine iteT' ?_ ?_); first | rfl | exact decide_eq_true (by omega) | (simp <;> fail) | fail))
          have fin : ∀ (bb : Bool) (σ' : L2.St), badM x z = bb → σ' = [some (.ref p), some (.ref lt), u2, u3, some (if bb = true then V.str "most" else V.non), none, none, none, none, none, none, none, none] → Mid (TB2 Pa Pb) p b (n + 6 + 2 * r4) H1 ∧ T3 H1 lt x y z ∧ σ' = [some (.ref p), some (.ref lt), u2, u3, some (if badM x z = true then .str "most" else .non), none, none, none, none, none, none, none, none] := fun bb σ' e e2 => ⟨M, t3, by rw [e2, e]⟩
          cases e8 : isIn z 1 8 with
          | false =>
            refine iteT ?_
            refine iteT ?_
            repeat (first | (refine fin true _ (by unfold badM; rw [e8]; rfl) rfl) | (with_reducible refine st_tC ?_) | (with_reducible refine st_tOp ?_) | ((with_reducible apply st_n); rfl; rfl; (first | trivial | (show _ ≤ _; omega) | (show _ < _; omega) | (show _ ∨ _; omega) | assumption | exact ⟨by assumption, by omega⟩ | exact ⟨W30.one, by omega⟩ | fail); rfl) | (with_reducible refine st_i0 rfl rfl rfl ?_) | ((with_reducible refine st_i rfl rfl ?_ rfl ?_); first | omega | exact ⟨by decide, by decide, by decide⟩ | exact .inl ⟨by decide, by decide⟩ | exact .inl ⟨by omega, by omega⟩ | exact .inr ⟨by omega, by omega⟩ | fail) | ((fail_if_success refine Exists.intro (α := Nat → Nat → L2.St → Hp → Prop) ?_ ?_); (fail_if_success refine Exists.intro (α := L2.St → Hp → Prop) ?_ ?_); (fail_if_success refine Exists.intro (α := Nat → L2.St → Hp → Prop) ?_ ?_); apply Exists.intro) | ((refine And.intro ?_ ?_); first | with_reducible rfl | with_reducible assumption | rfl | ((with_reducible apply SqL.of); assumption) | ((with_reducible apply SqT.of); assumption) | ((with_reducible apply OwnC.cl); assumption) | (with_reducible exact isI_int _) | exact within_args | (with_reducible exact upd_same) | ((with_reducible apply Mid.o); assumption) | ((with_reducible apply Mid.t); assumption) | exact .inl ⟨rfl, _, SqL.of (by assumption)⟩ | (with_reducible exact ⟨_, SqT.of (by assumption)⟩) | (with_reducible exact ⟨_, SqL.of (by assumption)⟩) | omega | exact Nat.le_of_ble_eq_true rfl | exact nat9 (by omega) | exact ⟨_, rfl⟩ | (show _ ≤ sizeLine; decide) | exact ⟨by decide, by decide, by decide⟩ | exact .inl ⟨by decide, by decide⟩ | exact .inl ⟨by omega, by omega⟩ | exact .inr ⟨by omega, by omega⟩ | assumption | fail) | ((with_reducible refine iteF' ?_ ?_); first | rfl | exact decide_eq_false (by omega) | exact in_no (by omega) (by omega) | exact in_no (by omega) (by assumption) | (simp <;> fail) | fail) | ((with_reducible refine iteT' ?_ ?_); first | rfl | exact decide_eq_true (by omega) | (simp <;> fail) | fail))
          | true =>
            refine iteF ?_
            repeat (first | (with_reducible refine st_tC ?_) | (with_reducible refine st_tOp ?_) | ((with_reducible apply st_n); rfl; rfl; (first | trivial | (show _ ≤ _; omega) | (show _ < _; omega) | (show _ ∨ _; omega) | assumption | exact ⟨by assumption, by omega⟩ | exact ⟨W30.one, by omega⟩ | fail); rfl) | (with_reducible refine st_i0 rfl rfl rfl ?_) | ((with_reducible refine st_i rfl rfl ?_ rfl ?_); first | omega | exact ⟨by decide, by decide, by decide⟩ | exact .inl ⟨by decide, by decide⟩ | exact .inl ⟨by omega, by omega⟩ | exact .inr ⟨by omega, by omega⟩ | fail) | ((fail_if_success refine Exists.intro (α := Nat → Nat → L2.St → Hp → Prop) ?_ ?_); (fail_if_success refine Exists.intro (α := L2.St → Hp → Prop) ?_ ?_); (fail_if_success refine Exists.intro (α := Nat → L2.St → Hp → Prop) ?_ ?_); apply Exists.intro) | ((refine And.intro ?_ ?_); first | with_reducible rfl | with_reducible assumption | rfl | ((with_reducible apply SqL.of); assumption) | ((with_reducible apply SqT.of); assumption) | ((with_reducible apply OwnC.cl); assumption) | (with_reducible exact isI_int _) | exact within_args | (with_reducible exact upd_same) | ((with_reducible apply Mid.o); assumption) | ((with_reducible apply Mid.t); assumption) | exact .inl ⟨rfl, _, SqL.of (by assumption)⟩ | (with_reducible exact ⟨_, SqT.of (by assumption)⟩) | (with_reducible exact ⟨_, SqL.of (by assumption)⟩) | omega | exact Nat.le_of_ble_eq_true rfl | exact nat9 (by omega) | exact ⟨_, rfl⟩ | (show _ ≤ sizeLine; decide) | exact ⟨by decide, by decide, by decide⟩ | exact .inl ⟨by decide, by decide⟩ | exact .inl ⟨by omega, by omega⟩ | exact .inr ⟨by omega, by omega⟩ | assumption | fail) | ((with_reducible refine iteF' ?_ ?_); first | rfl | exact decide_eq_false (by omega) | exact in_no (by omega) (by omega) | exact in_no (by omega) (by assumption) | (simp <;> fail) | fail) | ((with_reducible refine iteT' ?_ ?_); first | rfl | exact decide_eq_true (by omega) | (simp <;> fail) | fail))
            cases e0 : isIn x 1 256 with
            | false =>
              refine iteF ?_
              refine iteF ?_
              repeat (first | (refine fin false _ (by unfold badM; rw [e8, e0]; rfl) rfl) | (with_reducible refine st_tC ?_) | (with_reducible refine st_tOp ?_) | ((with_reducible apply st_n); rfl; rfl; (first | trivial | (show _ ≤ _; omega) | (show _ < _; omega) | (show _ ∨ _; omega) | assumption | exact ⟨by assumption, by omega⟩ | exact ⟨W30.one, by omega⟩ | fail); rfl) | (with_reducible refine st_i0 rfl rfl rfl ?_) | ((with_reducible refine st_i rfl rfl ?_ rfl ?_); first | omega | exact ⟨by decide, by decide, by decide⟩ | exact .inl ⟨by decide, by decide⟩ | exact .inl ⟨by omega, by omega⟩ | exact .inr ⟨by omega, by omega⟩ | fail) | ((fail_if_success refine Exists.intro (α := Nat → Nat → L2.St → Hp → Prop) ?_ ?_); (fail_if_success refine Exists.intro (α := L2.St → Hp → Prop) ?_ ?_); (fail_if_success refine Exists.intro (α := Nat → L2.St → Hp → Prop) ?_ ?_); apply Exists.intro) | ((refine And.intro ?_ ?_); first | with_reducible rfl | with_reducible assumption | rfl | ((with_reducible apply SqL.of); assumption) | ((with_reducible apply SqT.of); assumption) | ((with_reducible apply OwnC.cl); assumption) | (with_reducible exact isI_int _) | exact within_args | (with_reducible exact upd_same) | ((with_reducible apply Mid.o); assumption) | ((with_reducible apply Mid.t); assumption) | exact .inl ⟨rfl, _, SqL.of (by assumption)⟩ | (with_reducible exact ⟨_, SqT.of (by assumption)⟩) | (with_reducible exact ⟨_, SqL.of (by assumption)⟩) | omega | exact Nat.le_of_ble_eq_true rfl | exact nat9 (by omega) | exact ⟨_, rfl⟩ | (show _ ≤ sizeLine; decide) | exact ⟨by decide, by decide, by decide⟩ | exact .inl ⟨by decide, by decide⟩ | exact .inl ⟨by omega, by omega⟩ | exact .inr ⟨by omega, by omega⟩ | assumption | fail) | ((with_reducible refine iteF' ?_ ?_); first | rfl | exact decide_eq_false (by omega) | exact in_no (by omega) (by omega) | exact in_no (by omega) (by assumption) | (simp <;> fail) | fail) | ((with_reducible refine iteT' ?_ ?_); first | rfl | exact decide_eq_true (by omega) | (simp <;> fail) | fail))
            | true =>
              refine iteT ?_
              obtain ⟨m, rfl, m1, m2⟩ := isIn_nat e8 (by decide)
              obtain ⟨c, rfl, c1, c2⟩ := isIn_nat e0 (by decide)
              repeat (first | (with_reducible refine st_tC ?_) | (with_reducible refine st_tOp ?_) | ((with_reducible apply st_n); rfl; rfl; (first | trivial | (show _ ≤ _; omega) | (show _ < _; omega) | (show _ ∨ _; omega) | assumption | exact ⟨by assumption, by omega⟩ | exact ⟨W30.one, by omega⟩ | fail); rfl) | (with_reducible refine st_i0 rfl rfl rfl ?_) | ((with_reducible refine st_i rfl rfl ?_ rfl ?_); first | omega | exact ⟨by decide, by decide, by decide⟩ | exact .inl ⟨by decide, by decide⟩ | exact .inl ⟨by omega, by omega⟩ | exact .inr ⟨by omega, by omega⟩ | fail) | ((fail_if_success refine Exists.intro (α := Nat → Nat → L2.St → Hp → Prop) ?_ ?_); (fail_if_success refine Exists.intro (α := L2.St → Hp → Prop) ?_ ?_); (fail_if_success refine Exists.intro (α := Nat → L2.St → Hp → Prop) ?_ ?_); apply Exists.intro) | ((refine And.intro ?_ ?_); first | with_reducible rfl | with_reducible assumption | rfl | ((with_reducible apply SqL.of); assumption) | ((with_reducible apply SqT.of); assumption) | ((with_reducible apply OwnC.cl); assumption) | (with_reducible exact isI_int _) | exact within_args | (with_reducible exact upd_same) | ((with_reducible apply Mid.o); assumption) | ((with_reducible apply Mid.t); assumption) | exact .inl ⟨rfl, _, SqL.of (by assumption)⟩ | (with_reducible exact ⟨_, SqT.of (by assumption)⟩) | (with_reducible exact ⟨_, SqL.of (by assumption)⟩) | omega | exact Nat.le_of_ble_eq_true rfl | exact nat9 (by omega) | exact ⟨_, rfl⟩ | (show _ ≤ sizeLine; decide) | exact ⟨by decide, by decide, by decide⟩ | exact .inl ⟨by decide, by decide⟩ | exact .inl ⟨by omega, by omega⟩ | exact .inr ⟨by omega, by omega⟩ | assumption | fail) | ((with_reducible refine iteF' ?_ ?_); first | rfl | exact decide_eq_false (by omega) | exact in_no (by omega) (by omega) | exact in_no (by omega) (by assumption) | (simp <;> fail) | fail) | ((with_reducible refine iteT' ?_ ?_); first | rfl | exact decide_eq_true (by omega) | (simp <;> fail) | fail))
              by_cases cm : (c : Int) < (m : Int)
              · rw [decide_eq_true cm]
                refine iteT ?_
                repeat (first | (refine fin true _ (by unfold badM; rw [e8, e0]; exact decide_eq_true cm) rfl) | (with_reducible refine st_tC ?_) | (with_reducible refine st_tOp ?_) | ((with_reducible apply st_n); rfl; rfl; (first | trivial | (show _ ≤ _; omega) | (show _ < _; omega) | (show _ ∨ _; omega) | assumption | exact ⟨by assumption, by omega⟩ | exact ⟨W30.one, by omega⟩ | fail); rfl) | (with_reducible refine st_i0 rfl rfl rfl ?_) | ((with_reducible refine st_i rfl rfl ?_ rfl ?_); first | omega | exact ⟨by decide, by decide, by decide⟩ | exact .inl ⟨by decide, by decide⟩ | exact .inl ⟨by omega, by omega⟩ | exact .inr ⟨by omega, by omega⟩ | fail) | ((fail_if_success refine Exists.intro (α := Nat → Nat → L2.St → Hp → Prop) ?_ ?_); (fail_if_success refine Exists.intro (α := L2.St → Hp → Prop) ?_ ?_); (fail_if_success refine Exists.intro (α := Nat → L2.St → Hp → Prop) ?_ ?_); apply Exists.intro) | ((refine And.intro ?_ ?_); first | with_reducible rfl | with_reducible assumption | rfl | ((with_reducible apply SqL.of); assumption) | ((with_reducible apply SqT.of); assumption) | ((with_reducible apply OwnC.cl); assumption) | (with_reducible exact isI_int _) | exact within_args | (with_reducible exact upd_same) | ((with_reducible apply Mid.o); assumption) | ((with_reducible apply Mid.t); assumption) | exact .inl ⟨rfl, _, SqL.of (by assumption)⟩ | (with_reducible exact ⟨_, SqT.of (by assumption)⟩) | (with_reducible exact ⟨_, SqL.of (by assumption)⟩) | omega | exact Nat.le_of_ble_eq_true rfl | exact nat9 (by omega) | exact ⟨_, rfl⟩ | (show _ ≤ sizeLine; decide) | exact ⟨by decide, by decide, by decide⟩ | exact .inl ⟨by decide, by decide⟩ | exact .inl ⟨by omega, by omega⟩ | exact .inr ⟨by omega, by omega⟩ | assumption | fail) | ((with_reducible refine iteF' ?_ ?_); first | rfl | exact decide_eq_false (by omega) | exact in_no (by omega) (by omega) | exact in_no (by omega) (by assumption) | (simp <;> fail) | fail) | ((with_reducible refine iteT' ?_ ?_); first | rfl | exact decide_eq_true (by omega) | (simp <;> fail) | fail))
              · rw [decide_eq_false cm]
                refine iteF ?_
                repeat (first | (refine fin false _ (by unfold badM; rw [e8, e0]; exact decide_eq_false cm) rfl) | (with_reducible refine st_tC ?_) | (with_reducible refine st_tOp ?_) | ((with_reducible apply st_n); rfl; rfl; (first | trivial | (show _ ≤ _; omega) | (show _ < _; omega) | (show _ ∨ _; omega) | assumption | exact ⟨by assumption, by omega⟩ | exact ⟨W30.one, by omega⟩ | fail); rfl) | (with_reducible refine st_i0 rfl rfl rfl ?_) | ((with_reducible refine st_i rfl rfl ?_ rfl ?_); first | omega | exact ⟨by decide, by decide, by decide⟩ | exact .inl ⟨by decide, by decide⟩ | exact .inl ⟨by omega, by omega⟩ | exact .inr ⟨by omega, by omega⟩ | fail) | ((fail_if_success refine Exists.intro (α := Nat → Nat → L2.St → Hp → Prop) ?_ ?_); (fail_if_success refine Exists.intro (α := L2.St → Hp → Prop) ?_ ?_); (fail_if_success refine Exists.intro (α := Nat → L2.St → Hp → Prop) ?_ ?_); apply Exists.intro) | ((refine And.intro ?_ ?_); first | with_reducible rfl | with_reducible assumption | rfl | ((with_reducible apply SqL.of); assumption) | ((with_reducible apply SqT.of); assumption) | ((with_reducible apply OwnC.cl); assumption) | (with_reducible exact isI_int _) | exact within_args | (with_reducible exact upd_same) | ((with_reducible apply Mid.o); assumption) | ((with_reducible apply Mid.t); assumption) | exact .inl ⟨rfl, _, SqL.of (by assumption)⟩ | (with_reducible exact ⟨_, SqT.of (by assumption)⟩) | (with_reducible exact ⟨_, SqL.of (by assumption)⟩) | omega | exact Nat.le_of_ble_eq_true rfl | exact nat9 (by omega) | exact ⟨_, rfl⟩ | (show _ ≤ sizeLine; decide) | exact ⟨by decide, by decide, by decide⟩ | exact .inl ⟨by decide, by decide⟩ | exact .inl ⟨by omega, by omega⟩ | exact .inr ⟨by omega, by omega⟩ | assumption | fail) | ((with_reducible refine iteF' ?_ ?_); first | rfl | exact decide_eq_false (by omega) | exact in_no (by omega) (by omega) | exact in_no (by omega) (by assumption) | (simp <;> fail) | fail) | ((with_reducible refine iteT' ?_ ?_); first | rfl | exact decide_eq_true (by omega) | (simp <;> fail) | fail))
        clear M t3 sql
        rintro σ' H2 ⟨M, t3, rfl⟩
        have sql := SqL.of (K := K) t3.g
        refine ⟨fun σ' H' => Mid (TB2 Pa Pb) p b (n + 6 + 2 * r4) H' ∧ T3 H' lt x y z ∧ σ' = [some (.ref p), some (.ref lt), u2, u3, some (if isIn y 1 48 = false then .str "size" else if badM x z = true then .str "most" else .non), none, none, none, none, none, none, none, none], ?_, ?_⟩
        · have aY : atI [x, y, z] 1 = some y := rfl
          have ty := t3.y1
          repeat (first | (with_reducible refine st_tC ?_) | (with_reducible refine st_tOp ?_) | ((with_reducible apply st_n); rfl; rfl; (first | trivial | (show _ ≤ _; omega) | (show _ < _; omega) | (show _ ∨ _; omega) | assumption | exact ⟨by assumption, by omega⟩ | exact ⟨W30.one, by omega⟩ | fail); rfl) | (with_reducible refine st_i0 rfl rfl rfl ?_) | ((with_reducible refine st_i rfl rfl ?_ rfl ?_); first | omega | exact ⟨by decide, by decide, by decide⟩ | exact .inl ⟨by decide, by decide⟩ | exact .inl ⟨by omega, by omega⟩ | exact .inr ⟨by omega, by omega⟩ | fail) | ((fail_if_success refine Exists.intro (α := Nat → Nat → L2.St → Hp → Prop) ?_ ?_); (fail_if_success refine Exists.intro (α := L2.St → Hp → Prop) ?_ ?_); (fail_if_success refine Exists.intro (α := Nat → L2.St → Hp → Prop) ?_ ?_); apply Exists.intro) | ((refine And.intro ?_ ?_); first | with_reducible rfl | with_reducible assumption | rfl | ((with_reducible apply SqL.of); assumption) | ((with_reducible apply SqT.of); assumption) | ((with_reducible apply OwnC.cl); assumption) | (with_reducible exact isI_int _) | exact within_args | (with_reducible exact upd_same) | ((with_reducible apply Mid.o); assumption) | ((with_reducible apply Mid.t); assumption) | exact .inl ⟨rfl, _, SqL.of (by assumption)⟩ | (with_reducible exact ⟨_, SqT.of (by assumption)⟩) | (with_reducible exact ⟨_, SqL.of (by assumption)⟩) | omega | exact Nat.le_of_ble_eq_true rfl | exact nat9 (by omega) | exact ⟨_, rfl⟩ | (show _ ≤ sizeLine; decide) | exact ⟨by decide, by decide, by decide⟩ | exact .inl ⟨by decide, by decide⟩ | exact .inl ⟨by omega, by omega⟩ | exact .inr ⟨by omega, by omega⟩ | assumption | fail) | ((with_reducible refine iteF' ?_ ?_); first | rfl | exact decide_eq_false (by omega) | exact in_no (by omega) (by omega) | exact in_no (by omega) (by assumption) | (simp <;> fail) | fail) | ((with_reducible refine iteT' ?_ ?_); first | rfl | exact decide_eq_true (by omega) | (simp <;> fail) | fail))
          cases e1 : isIn y 1 48 with
          | false =>
            refine iteT ?_
            repeat (first | (with_reducible refine st_tC ?_) | (with_reducible refine st_tOp ?_) | ((with_reducible apply st_n); rfl; rfl; (first | trivial | (show _ ≤ _; omega) | (show _ < _; omega) | (show _ ∨ _; omega) | assumption | exact ⟨by assumption, by omega⟩ | exact ⟨W30.one, by omega⟩ | fail); rfl) | (with_reducible refine st_i0 rfl rfl rfl ?_) | ((with_reducible refine st_i rfl rfl ?_ rfl ?_); first | omega | exact ⟨by decide, by decide, by decide⟩ | exact .inl ⟨by decide, by decide⟩ | exact .inl ⟨by omega, by omega⟩ | exact .inr ⟨by omega, by omega⟩ | fail) | ((fail_if_success refine Exists.intro (α := Nat → Nat → L2.St → Hp → Prop) ?_ ?_); (fail_if_success refine Exists.intro (α := L2.St → Hp → Prop) ?_ ?_); (fail_if_success refine Exists.intro (α := Nat → L2.St → Hp → Prop) ?_ ?_); apply Exists.intro) | ((refine And.intro ?_ ?_); first | with_reducible rfl | with_reducible assumption | rfl | ((with_reducible apply SqL.of); assumption) | ((with_reducible apply SqT.of); assumption) | ((with_reducible apply OwnC.cl); assumption) | (with_reducible exact isI_int _) | exact within_args | (with_reducible exact upd_same) | ((with_reducible apply Mid.o); assumption) | ((with_reducible apply Mid.t); assumption) | exact .inl ⟨rfl, _, SqL.of (by assumption)⟩ | (with_reducible exact ⟨_, SqT.of (by assumption)⟩) | (with_reducible exact ⟨_, SqL.of (by assumption)⟩) | omega | exact Nat.le_of_ble_eq_true rfl | exact nat9 (by omega) | exact ⟨_, rfl⟩ | (show _ ≤ sizeLine; decide) | exact ⟨by decide, by decide, by decide⟩ | exact .inl ⟨by decide, by decide⟩ | exact .inl ⟨by omega, by omega⟩ | exact .inr ⟨by omega, by omega⟩ | assumption | fail) | ((with_reducible refine iteF' ?_ ?_); first | rfl | exact decide_eq_false (by omega) | exact in_no (by omega) (by omega) | exact in_no (by omega) (by assumption) | (simp <;> fail) | fail) | ((with_reducible refine iteT' ?_ ?_); first | rfl | exact decide_eq_true (by omega) | (simp <;> fail) | fail))
            rfl
          | true =>
            refine iteF ?_
            repeat (first | (with_reducible refine st_tC ?_) | (with_reducible refine st_tOp ?_) | ((with_reducible apply st_n); rfl; rfl; (first | trivial | (show _ ≤ _; omega) | (show _ < _; omega) | (show _ ∨ _; omega) | assumption | exact ⟨by assumption, by omega⟩ | exact ⟨W30.one, by omega⟩ | fail); rfl) | (with_reducible refine st_i0 rfl rfl rfl ?_) | ((with_reducible refine st_i rfl rfl ?_ rfl ?_); first | omega | exact ⟨by decide, by decide, by decide⟩ | exact .inl ⟨by decide, by decide⟩ | exact .inl ⟨by omega, by omega⟩ | exact .inr ⟨by omega, by omega⟩ | fail) | ((fail_if_success refine Exists.intro (α := Nat → Nat → L2.St → Hp → Prop) ?_ ?_); (fail_if_success refine Exists.intro (α := L2.St → Hp → Prop) ?_ ?_); (fail_if_success refine Exists.intro (α := Nat → L2.St → Hp → Prop) ?_ ?_); apply Exists.intro) | ((refine And.intro ?_ ?_); first | with_reducible rfl | with_reducible assumption | rfl | ((with_reducible apply SqL.of); assumption) | ((with_reducible apply SqT.of); assumption) | ((with_reducible apply OwnC.cl); assumption) | (with_reducible exact isI_int _) | exact within_args | (with_reducible exact upd_same) | ((with_reducible apply Mid.o); assumption) | ((with_reducible apply Mid.t); assumption) | exact .inl ⟨rfl, _, SqL.of (by assumption)⟩ | (with_reducible exact ⟨_, SqT.of (by assumption)⟩) | (with_reducible exact ⟨_, SqL.of (by assumption)⟩) | omega | exact Nat.le_of_ble_eq_true rfl | exact nat9 (by omega) | exact ⟨_, rfl⟩ | (show _ ≤ sizeLine; decide) | exact ⟨by decide, by decide, by decide⟩ | exact .inl ⟨by decide, by decide⟩ | exact .inl ⟨by omega, by omega⟩ | exact .inr ⟨by omega, by omega⟩ | assumption | fail) | ((with_reducible refine iteF' ?_ ?_); first | rfl | exact decide_eq_false (by omega) | exact in_no (by omega) (by omega) | exact in_no (by omega) (by assumption) | (simp <;> fail) | fail) | ((with_reducible refine iteT' ?_ ?_); first | rfl | exact decide_eq_true (by omega) | (simp <;> fail) | fail))
            rfl
        clear M t3 sql
        rintro σ' H3 ⟨M, t3, rfl⟩
        have sql := SqL.of (K := K) t3.g
        refine ⟨fun σ' H' => Mid (TB2 Pa Pb) p b (n + 6 + 2 * r4) H' ∧ T3 H' lt x y z ∧ σ' = [some (.ref p), some (.ref lt), u2, u3, some (dueV x y z), none, none, none, none, none, none, none, none], ?_, ?_⟩
        · have aX : atI [x, y, z] 0 = some x := rfl
          have tx := t3.x1
          repeat (first | (with_reducible refine st_tC ?_) | (with_reducible refine st_tOp ?_) | ((with_reducible apply st_n); rfl; rfl; (first | trivial | (show _ ≤ _; omega) | (show _ < _; omega) | (show _ ∨ _; omega) | assumption | exact ⟨by assumption, by omega⟩ | exact ⟨W30.one, by omega⟩ | fail); rfl) | (with_reducible refine st_i0 rfl rfl rfl ?_) | ((with_reducible refine st_i rfl rfl ?_ rfl ?_); first | omega | exact ⟨by decide, by decide, by decide⟩ | exact .inl ⟨by decide, by decide⟩ | exact .inl ⟨by omega, by omega⟩ | exact .inr ⟨by omega, by omega⟩ | fail) | ((fail_if_success refine Exists.intro (α := Nat → Nat → L2.St → Hp → Prop) ?_ ?_); (fail_if_success refine Exists.intro (α := L2.St → Hp → Prop) ?_ ?_); (fail_if_success refine Exists.intro (α := Nat → L2.St → Hp → Prop) ?_ ?_); apply Exists.intro) | ((refine And.intro ?_ ?_); first | with_reducible rfl | with_reducible assumption | rfl | ((with_reducible apply SqL.of); assumption) | ((with_reducible apply SqT.of); assumption) | ((with_reducible apply OwnC.cl); assumption) | (with_reducible exact isI_int _) | exact within_args | (with_reducible exact upd_same) | ((with_reducible apply Mid.o); assumption) | ((with_reducible apply Mid.t); assumption) | exact .inl ⟨rfl, _, SqL.of (by assumption)⟩ | (with_reducible exact ⟨_, SqT.of (by assumption)⟩) | (with_reducible exact ⟨_, SqL.of (by assumption)⟩) | omega | exact Nat.le_of_ble_eq_true rfl | exact nat9 (by omega) | exact ⟨_, rfl⟩ | (show _ ≤ sizeLine; decide) | exact ⟨by decide, by decide, by decide⟩ | exact .inl ⟨by decide, by decide⟩ | exact .inl ⟨by omega, by omega⟩ | exact .inr ⟨by omega, by omega⟩ | assumption | fail) | ((with_reducible refine iteF' ?_ ?_); first | rfl | exact decide_eq_false (by omega) | exact in_no (by omega) (by omega) | exact in_no (by omega) (by assumption) | (simp <;> fail) | fail) | ((with_reducible refine iteT' ?_ ?_); first | rfl | exact decide_eq_true (by omega) | (simp <;> fail) | fail))
          cases e0 : isIn x 1 256 with
          | false =>
            refine iteT ?_
            repeat (first | (with_reducible refine st_tC ?_) | (with_reducible refine st_tOp ?_) | ((with_reducible apply st_n); rfl; rfl; (first | trivial | (show _ ≤ _; omega) | (show _ < _; omega) | (show _ ∨ _; omega) | assumption | exact ⟨by assumption, by omega⟩ | exact ⟨W30.one, by omega⟩ | fail); rfl) | (with_reducible refine st_i0 rfl rfl rfl ?_) | ((with_reducible refine st_i rfl rfl ?_ rfl ?_); first | omega | exact ⟨by decide, by decide, by decide⟩ | exact .inl ⟨by decide, by decide⟩ | exact .inl ⟨by omega, by omega⟩ | exact .inr ⟨by omega, by omega⟩ | fail) | ((fail_if_success refine Exists.intro (α := Nat → Nat → L2.St → Hp → Prop) ?_ ?_); (fail_if_success refine Exists.intro (α := L2.St → Hp → Prop) ?_ ?_); (fail_if_success refine Exists.intro (α := Nat → L2.St → Hp → Prop) ?_ ?_); apply Exists.intro) | ((refine And.intro ?_ ?_); first | with_reducible rfl | with_reducible assumption | rfl | ((with_reducible apply SqL.of); assumption) | ((with_reducible apply SqT.of); assumption) | ((with_reducible apply OwnC.cl); assumption) | (with_reducible exact isI_int _) | exact within_args | (with_reducible exact upd_same) | ((with_reducible apply Mid.o); assumption) | ((with_reducible apply Mid.t); assumption) | exact .inl ⟨rfl, _, SqL.of (by assumption)⟩ | (with_reducible exact ⟨_, SqT.of (by assumption)⟩) | (with_reducible exact ⟨_, SqL.of (by assumption)⟩) | omega | exact Nat.le_of_ble_eq_true rfl | exact nat9 (by omega) | exact ⟨_, rfl⟩ | (show _ ≤ sizeLine; decide) | exact ⟨by decide, by decide, by decide⟩ | exact .inl ⟨by decide, by decide⟩ | exact .inl ⟨by omega, by omega⟩ | exact .inr ⟨by omega, by omega⟩ | assumption | fail) | ((with_reducible refine iteF' ?_ ?_); first | rfl | exact decide_eq_false (by omega) | exact in_no (by omega) (by omega) | exact in_no (by omega) (by assumption) | (simp <;> fail) | fail) | ((with_reducible refine iteT' ?_ ?_); first | rfl | exact decide_eq_true (by omega) | (simp <;> fail) | fail))
            unfold dueV
            rw [if_pos e0]
            rfl
          | true =>
            refine iteF ?_
            repeat (first | (with_reducible refine st_tC ?_) | (with_reducible refine st_tOp ?_) | ((with_reducible apply st_n); rfl; rfl; (first | trivial | (show _ ≤ _; omega) | (show _ < _; omega) | (show _ ∨ _; omega) | assumption | exact ⟨by assumption, by omega⟩ | exact ⟨W30.one, by omega⟩ | fail); rfl) | (with_reducible refine st_i0 rfl rfl rfl ?_) | ((with_reducible refine st_i rfl rfl ?_ rfl ?_); first | omega | exact ⟨by decide, by decide, by decide⟩ | exact .inl ⟨by decide, by decide⟩ | exact .inl ⟨by omega, by omega⟩ | exact .inr ⟨by omega, by omega⟩ | fail) | ((fail_if_success refine Exists.intro (α := Nat → Nat → L2.St → Hp → Prop) ?_ ?_); (fail_if_success refine Exists.intro (α := L2.St → Hp → Prop) ?_ ?_); (fail_if_success refine Exists.intro (α := Nat → L2.St → Hp → Prop) ?_ ?_); apply Exists.intro) | ((refine And.intro ?_ ?_); first | with_reducible rfl | with_reducible assumption | rfl | ((with_reducible apply SqL.of); assumption) | ((with_reducible apply SqT.of); assumption) | ((with_reducible apply OwnC.cl); assumption) | (with_reducible exact isI_int _) | exact within_args | (with_reducible exact upd_same) | ((with_reducible apply Mid.o); assumption) | ((with_reducible apply Mid.t); assumption) | exact .inl ⟨rfl, _, SqL.of (by assumption)⟩ | (with_reducible exact ⟨_, SqT.of (by assumption)⟩) | (with_reducible exact ⟨_, SqL.of (by assumption)⟩) | omega | exact Nat.le_of_ble_eq_true rfl | exact nat9 (by omega) | exact ⟨_, rfl⟩ | (show _ ≤ sizeLine; decide) | exact ⟨by decide, by decide, by decide⟩ | exact .inl ⟨by decide, by decide⟩ | exact .inl ⟨by omega, by omega⟩ | exact .inr ⟨by omega, by omega⟩ | assumption | fail) | ((with_reducible refine iteF' ?_ ?_); first | rfl | exact decide_eq_false (by omega) | exact in_no (by omega) (by omega) | exact in_no (by omega) (by assumption) | (simp <;> fail) | fail) | ((with_reducible refine iteT' ?_ ?_); first | rfl | exact decide_eq_true (by omega) | (simp <;> fail) | fail))
            unfold dueV
            rw [if_neg (show ¬ isIn x 1 256 = false by rw [e0]; intro z; cases z)]
            rfl
        clear M t3 sql
        rintro σ' H4 ⟨M, t3, rfl⟩
        have cs : (∃ part : Str, dueV x y z = .str part ∧ ((isIn x 1 256 = false ∧ part = "cells") ∨ (isIn x 1 256 = true ∧ isIn y 1 48 = false ∧ part = "size") ∨ (isIn x 1 256 = true ∧ isIn y 1 48 = true ∧ badM x z = true ∧ part = "most"))) ∨ (dueV x y z = .non ∧ isIn x 1 256 = true ∧ isIn y 1 48 = true ∧ badM x z = false) := by
          unfold dueV
          cases e0 : isIn x 1 256 with
          | false => exact .inl ⟨_, rfl, .inl ⟨rfl, rfl⟩⟩
          | true =>
            cases e1 : isIn y 1 48 with
            | false => exact .inl ⟨_, rfl, .inr (.inl ⟨rfl, rfl, rfl⟩)⟩
            | true =>
              cases e2 : badM x z with
              | true => exact .inl ⟨_, rfl, .inr (.inr ⟨rfl, rfl, rfl, rfl⟩)⟩
              | false => exact .inr ⟨rfl, rfl, rfl, rfl⟩
        generalize dueV x y z = dv at cs ⊢
        rcases cs with ⟨part, rfl, cs⟩ | ⟨rfl, e0, e1, e2⟩
        · repeat (first | (with_reducible refine st_tC ?_) | (with_reducible refine st_tOp ?_) | ((with_reducible apply st_n); rfl; rfl; (first | trivial | (show _ ≤ _; omega) | (show _ < _; omega) | (show _ ∨ _; omega) | assumption | exact ⟨by assumption, by omega⟩ | exact ⟨W30.one, by omega⟩ | fail); rfl) | (with_reducible refine st_i0 rfl rfl rfl ?_) | ((with_reducible refine st_i rfl rfl ?_ rfl ?_); first | omega | exact ⟨by decide, by decide, by decide⟩ | exact .inl ⟨by decide, by decide⟩ | exact .inl ⟨by omega, by omega⟩ | exact .inr ⟨by omega, by omega⟩ | fail) | ((fail_if_success refine Exists.intro (α := Nat → Nat → L2.St → Hp → Prop) ?_ ?_); (fail_if_success refine Exists.intro (α := L2.St → Hp → Prop) ?_ ?_); (fail_if_success refine Exists.intro (α := Nat → L2.St → Hp → Prop) ?_ ?_); apply Exists.intro) | ((refine And.intro ?_ ?_); first | with_reducible rfl | with_reducible assumption | rfl | ((with_reducible apply SqL.of); assumption) | ((with_reducible apply SqT.of); assumption) | ((with_reducible apply OwnC.cl); assumption) | (with_reducible exact isI_int _) | exact within_args | (with_reducible exact upd_same) | ((with_reducible apply Mid.o); assumption) | ((with_reducible apply Mid.t); assumption) | exact .inl ⟨rfl, _, SqL.of (by assumption)⟩ | (with_reducible exact ⟨_, SqT.of (by assumption)⟩) | (with_reducible exact ⟨_, SqL.of (by assumption)⟩) | omega | exact Nat.le_of_ble_eq_true rfl | exact nat9 (by omega) | exact ⟨_, rfl⟩ | (show _ ≤ sizeLine; decide) | exact ⟨by decide, by decide, by decide⟩ | exact .inl ⟨by decide, by decide⟩ | exact .inl ⟨by omega, by omega⟩ | exact .inr ⟨by omega, by omega⟩ | assumption | fail) | ((with_reducible refine iteF' ?_ ?_); first | rfl | exact decide_eq_false (by omega) | exact in_no (by omega) (by omega) | exact in_no (by omega) (by assumption) | (simp <;> fail) | fail) | ((with_reducible refine iteT' ?_ ?_); first | rfl | exact decide_eq_true (by omega) | (simp <;> fail) | fail))
          intro Ha ea Ta
          replace M := M.ext ea Ta
          replace t3 := t3.ext ea
          clear ea Ta
          have sql := SqL.of (K := K) t3.g
          have aX : atI [x, y, z] 0 = some x := rfl
          have aY : atI [x, y, z] 1 = some y := rfl
          have aZ : atI [x, y, z] 2 = some z := rfl
          repeat (first | (with_reducible refine st_tC ?_) | (with_reducible refine st_tOp ?_) | ((with_reducible apply st_n); rfl; rfl; (first | trivial | (show _ ≤ _; omega) | (show _ < _; omega) | (show _ ∨ _; omega) | assumption | exact ⟨by assumption, by omega⟩ | exact ⟨W30.one, by omega⟩ | fail); rfl) | (with_reducible refine st_i0 rfl rfl rfl ?_) | ((with_reducible refine st_i rfl rfl ?_ rfl ?_); first | omega | exact ⟨by decide, by decide, by decide⟩ | exact .inl ⟨by decide, by decide⟩ | exact .inl ⟨by omega, by omega⟩ | exact .inr ⟨by omega, by omega⟩ | fail) | ((fail_if_success refine Exists.intro (α := Nat → Nat → L2.St → Hp → Prop) ?_ ?_); (fail_if_success refine Exists.intro (α := L2.St → Hp → Prop) ?_ ?_); (fail_if_success refine Exists.intro (α := Nat → L2.St → Hp → Prop) ?_ ?_); apply Exists.intro) | ((refine And.intro ?_ ?_); first | with_reducible rfl | with_reducible assumption | rfl | ((with_reducible apply SqL.of); assumption) | ((with_reducible apply SqT.of); assumption) | ((with_reducible apply OwnC.cl); assumption) | (with_reducible exact isI_int _) | exact within_args | (with_reducible exact upd_same) | ((with_reducible apply Mid.o); assumption) | ((with_reducible apply Mid.t); assumption) | exact .inl ⟨rfl, _, SqL.of (by assumption)⟩ | (with_reducible exact ⟨_, SqT.of (by assumption)⟩) | (with_reducible exact ⟨_, SqL.of (by assumption)⟩) | omega | exact Nat.le_of_ble_eq_true rfl | exact nat9 (by omega) | exact ⟨_, rfl⟩ | (show _ ≤ sizeLine; decide) | exact ⟨by decide, by decide, by decide⟩ | exact .inl ⟨by decide, by decide⟩ | exact .inl ⟨by omega, by omega⟩ | exact .inr ⟨by omega, by omega⟩ | assumption | fail) | ((with_reducible refine iteF' ?_ ?_); first | rfl | exact decide_eq_false (by omega) | exact in_no (by omega) (by omega) | exact in_no (by omega) (by assumption) | (simp <;> fail) | fail) | ((with_reducible refine iteT' ?_ ?_); first | rfl | exact decide_eq_true (by omega) | (simp <;> fail) | fail))
          intro q dx nx ndx nex
          have S1 : Same Ha (upd (upd Ha dx (.own q)) q (.ins C dx [])) := fun a o e => by
            rw [upd_ne (ne_of_none e nx), upd_ne (ne_of_none e ndx)]
            exact e
          have t4 := t3.same S1
          refine ⟨q, dx, x, y, z, rfl, upd_same, ?_⟩
          rcases cs with ⟨e0, rfl⟩ | ⟨e0, e1, rfl⟩ | ⟨e0, e1, e2, rfl⟩
          · refine .inl ⟨t4.x1.bad e0, fun d hd => ⟨d, rfl, .inl ⟨rfl, _, upd_same, fun q5 H5 S5 hq5 => ?_⟩⟩⟩
            have S6 := (S1.trans (same_new hd)).trans S5
            repeat (first | (with_reducible refine st_tC ?_) | (with_reducible refine st_tOp ?_) | ((with_reducible apply st_n); rfl; rfl; (first | trivial | (show _ ≤ _; omega) | (show _ < _; omega) | (show _ ∨ _; omega) | assumption | exact ⟨by assumption, by omega⟩ | exact ⟨W30.one, by omega⟩ | fail); rfl) | (with_reducible refine st_i0 rfl rfl rfl ?_) | ((with_reducible refine st_i rfl rfl ?_ rfl ?_); first | omega | exact ⟨by decide, by decide, by decide⟩ | exact .inl ⟨by decide, by decide⟩ | exact .inl ⟨by omega, by omega⟩ | exact .inr ⟨by omega, by omega⟩ | fail) | ((fail_if_success refine Exists.intro (α := Nat → Nat → L2.St → Hp → Prop) ?_ ?_); (fail_if_success refine Exists.intro (α := L2.St → Hp → Prop) ?_ ?_); (fail_if_success refine Exists.intro (α := Nat → L2.St → Hp → Prop) ?_ ?_); apply Exists.intro) | ((refine And.intro ?_ ?_); first | with_reducible rfl | with_reducible assumption | rfl | ((with_reducible apply SqL.of); assumption) | ((with_reducible apply SqT.of); assumption) | ((with_reducible apply OwnC.cl); assumption) | (with_reducible exact isI_int _) | exact within_args | (with_reducible exact upd_same) | ((with_reducible apply Mid.o); assumption) | ((with_reducible apply Mid.t); assumption) | exact .inl ⟨rfl, _, SqL.of (by assumption)⟩ | (with_reducible exact ⟨_, SqT.of (by assumption)⟩) | (with_reducible exact ⟨_, SqL.of (by assumption)⟩) | omega | exact Nat.le_of_ble_eq_true rfl | exact nat9 (by omega) | exact ⟨_, rfl⟩ | (show _ ≤ sizeLine; decide) | exact ⟨by decide, by decide, by decide⟩ | exact .inl ⟨by decide, by decide⟩ | exact .inl ⟨by omega, by omega⟩ | exact .inr ⟨by omega, by omega⟩ | assumption | fail) | ((with_reducible refine iteF' ?_ ?_); first | rfl | exact decide_eq_false (by omega) | exact in_no (by omega) (by omega) | exact in_no (by omega) (by assumption) | (simp <;> fail) | fail) | ((with_reducible refine iteT' ?_ ?_); first | rfl | exact decide_eq_true (by omega) | (simp <;> fail) | fail))
            intro tq h_tq; generalize hE : upd _ tq _ = H6; obtain ⟨S_tq, g_tq⟩ := new_facts h_tq hE; clear hE
            replace hq5 := S_tq _ _ hq5
            have sh1 : SeqAt.shaped (.tuple [.str "store", .str "cells"]) = true := by decide +kernel
            refine ⟨.tuple [.str "store", .str "cells"], .tuple [.str "store", .str "cells"], Dp.tup (SqT.of hq5) (.cons (.str _) (.cons (.str _) .nil)), Dp.tup (SqT.of g_tq) (.cons (.str _) (.cons (.str _) .nil)), sh1, sh1, ?_⟩
            rw [SeqAt.eqv_refl _ (SeqAt.canLay_of_shaped sh1)]
            exact k _ ((M.same (S6.trans S_tq)).mono (by omega))
          · obtain ⟨c, rfl, c1, c2⟩ := isIn_nat e0 (by decide)
            refine .inr ⟨c, rfl, by omega, by omega, .inl ⟨t4.y1.bad e1, fun d hd => ⟨d, rfl, .inl ⟨rfl, _, upd_same, fun q5 H5 S5 hq5 => ?_⟩⟩⟩⟩
            have S6 := (S1.trans (same_new hd)).trans S5
            repeat (first | (with_reducible refine st_tC ?_) | (with_reducible refine st_tOp ?_) | ((with_reducible apply st_n); rfl; rfl; (first | trivial | (show _ ≤ _; omega) | (show _ < _; omega) | (show _ ∨ _; omega) | assumption | exact ⟨by assumption, by omega⟩ | exact ⟨W30.one, by omega⟩ | fail); rfl) | (with_reducible refine st_i0 rfl rfl rfl ?_) | ((with_reducible refine st_i rfl rfl ?_ rfl ?_); first | omega | exact ⟨by decide, by decide, by decide⟩ | exact .inl ⟨by decide, by decide⟩ | exact .inl ⟨by omega, by omega⟩ | exact .inr ⟨by omega, by omega⟩ | fail) | ((fail_if_success refine Exists.intro (α := Nat → Nat → L2.St → Hp → Prop) ?_ ?_); (fail_if_success refine Exists.intro (α := L2.St → Hp → Prop) ?_ ?_); (fail_if_success refine Exists.intro (α := Nat → L2.St → Hp → Prop) ?_ ?_); apply Exists.intro) | ((refine And.intro ?_ ?_); first | with_reducible rfl | with_reducible assumption | rfl | ((with_reducible apply SqL.of); assumption) | ((with_reducible apply SqT.of); assumption) | ((with_reducible apply OwnC.cl); assumption) | (with_reducible exact isI_int _) | exact within_args | (with_reducible exact upd_same) | ((with_reducible apply Mid.o); assumption) | ((with_reducible apply Mid.t); assumption) | exact .inl ⟨rfl, _, SqL.of (by assumption)⟩ | (with_reducible exact ⟨_, SqT.of (by assumption)⟩) | (with_reducible exact ⟨_, SqL.of (by assumption)⟩) | omega | exact Nat.le_of_ble_eq_true rfl | exact nat9 (by omega) | exact ⟨_, rfl⟩ | (show _ ≤ sizeLine; decide) | exact ⟨by decide, by decide, by decide⟩ | exact .inl ⟨by decide, by decide⟩ | exact .inl ⟨by omega, by omega⟩ | exact .inr ⟨by omega, by omega⟩ | assumption | fail) | ((with_reducible refine iteF' ?_ ?_); first | rfl | exact decide_eq_false (by omega) | exact in_no (by omega) (by omega) | exact in_no (by omega) (by assumption) | (simp <;> fail) | fail) | ((with_reducible refine iteT' ?_ ?_); first | rfl | exact decide_eq_true (by omega) | (simp <;> fail) | fail))
            intro tq h_tq; generalize hE : upd _ tq _ = H6; obtain ⟨S_tq, g_tq⟩ := new_facts h_tq hE; clear hE
            replace hq5 := S_tq _ _ hq5
            have sh1 : SeqAt.shaped (.tuple [.str "store", .str "size"]) = true := by decide +kernel
            refine ⟨.tuple [.str "store", .str "size"], .tuple [.str "store", .str "size"], Dp.tup (SqT.of hq5) (.cons (.str _) (.cons (.str _) .nil)), Dp.tup (SqT.of g_tq) (.cons (.str _) (.cons (.str _) .nil)), sh1, sh1, ?_⟩
            rw [SeqAt.eqv_refl _ (SeqAt.canLay_of_shaped sh1)]
            exact k _ ((M.same (S6.trans S_tq)).mono (by omega))
          · obtain ⟨c, rfl, c1, c2⟩ := isIn_nat e0 (by decide)
            obtain ⟨s', rfl, s1, s2⟩ := isIn_nat e1 (by decide)
            have ez := badM_mr (z := z) e0
            rw [e2] at ez
            refine .inr ⟨c, rfl, by omega, by omega, .inr ⟨s', rfl, by omega, by omega, .inl ⟨t4.z1.bad ez, fun d hd => ⟨d, rfl, .inl ⟨rfl, _, upd_same, fun q5 H5 S5 hq5 => ?_⟩⟩⟩⟩⟩
            have S6 := (S1.trans (same_new hd)).trans S5
            repeat (first | (with_reducible refine st_tC ?_) | (with_reducible refine st_tOp ?_) | ((with_reducible apply st_n); rfl; rfl; (first | trivial | (show _ ≤ _; omega) | (show _ < _; omega) | (show _ ∨ _; omega) | assumption | exact ⟨by assumption, by omega⟩ | exact ⟨W30.one, by omega⟩ | fail); rfl) | (with_reducible refine st_i0 rfl rfl rfl ?_) | ((with_reducible refine st_i rfl rfl ?_ rfl ?_); first | omega | exact ⟨by decide, by decide, by decide⟩ | exact .inl ⟨by decide, by decide⟩ | exact .inl ⟨by omega, by omega⟩ | exact .inr ⟨by omega, by omega⟩ | fail) | ((fail_if_success refine Exists.intro (α := Nat → Nat → L2.St → Hp → Prop) ?_ ?_); (fail_if_success refine Exists.intro (α := L2.St → Hp → Prop) ?_ ?_); (fail_if_success refine Exists.intro (α := Nat → L2.St → Hp → Prop) ?_ ?_); apply Exists.intro) | ((refine And.intro ?_ ?_); first | with_reducible rfl | with_reducible assumption | rfl | ((with_reducible apply SqL.of); assumption) | ((with_reducible apply SqT.of); assumption) | ((with_reducible apply OwnC.cl); assumption) | (with_reducible exact isI_int _) | exact within_args | (with_reducible exact upd_same) | ((with_reducible apply Mid.o); assumption) | ((with_reducible apply Mid.t); assumption) | exact .inl ⟨rfl, _, SqL.of (by assumption)⟩ | (with_reducible exact ⟨_, SqT.of (by assumption)⟩) | (with_reducible exact ⟨_, SqL.of (by assumption)⟩) | omega | exact Nat.le_of_ble_eq_true rfl | exact nat9 (by omega) | exact ⟨_, rfl⟩ | (show _ ≤ sizeLine; decide) | exact ⟨by decide, by decide, by decide⟩ | exact .inl ⟨by decide, by decide⟩ | exact .inl ⟨by omega, by omega⟩ | exact .inr ⟨by omega, by omega⟩ | assumption | fail) | ((with_reducible refine iteF' ?_ ?_); first | rfl | exact decide_eq_false (by omega) | exact in_no (by omega) (by omega) | exact in_no (by omega) (by assumption) | (simp <;> fail) | fail) | ((with_reducible refine iteT' ?_ ?_); first | rfl | exact decide_eq_true (by omega) | (simp <;> fail) | fail))
            intro tq h_tq; generalize hE : upd _ tq _ = H6; obtain ⟨S_tq, g_tq⟩ := new_facts h_tq hE; clear hE
            replace hq5 := S_tq _ _ hq5
            have sh1 : SeqAt.shaped (.tuple [.str "store", .str "most"]) = true := by decide +kernel
            refine ⟨.tuple [.str "store", .str "most"], .tuple [.str "store", .str "most"], Dp.tup (SqT.of hq5) (.cons (.str _) (.cons (.str _) .nil)), Dp.tup (SqT.of g_tq) (.cons (.str _) (.cons (.str _) .nil)), sh1, sh1, ?_⟩
            rw [SeqAt.eqv_refl _ (SeqAt.canLay_of_shaped sh1)]
            exact k _ ((M.same (S6.trans S_tq)).mono (by omega))
        · obtain ⟨c, rfl, c1, c2⟩ := isIn_nat e0 (by decide)
          obtain ⟨s', rfl, s1, s2⟩ := isIn_nat e1 (by decide)
          have ez := badM_mr (z := z) e0
          rw [e2] at ez
          obtain ⟨m, rfl, m1, m2⟩ := isIn_nat ez (by decide)
          have ok := shok_of (show 1 ≤ c by omega) (by omega) (show 1 ≤ s' by omega) (by omega) (show 1 ≤ m by omega) m2
          have g_lt := t3.g
          clear t3 e0 e1 e2 ez
          repeat (first | (with_reducible refine st_tC ?_) | (with_reducible refine st_tOp ?_) | ((with_reducible apply st_n); rfl; rfl; (first | trivial | (show _ ≤ _; omega) | (show _ < _; omega) | (show _ ∨ _; omega) | assumption | exact ⟨by assumption, by omega⟩ | exact ⟨W30.one, by omega⟩ | fail); rfl) | (with_reducible refine st_i0 rfl rfl rfl ?_) | ((with_reducible refine st_i rfl rfl ?_ rfl ?_); first | omega | exact ⟨by decide, by decide, by decide⟩ | exact .inl ⟨by decide, by decide⟩ | exact .inl ⟨by omega, by omega⟩ | exact .inr ⟨by omega, by omega⟩ | fail) | ((fail_if_success refine Exists.intro (α := Nat → Nat → L2.St → Hp → Prop) ?_ ?_); (fail_if_success refine Exists.intro (α := L2.St → Hp → Prop) ?_ ?_); (fail_if_success refine Exists.intro (α := Nat → L2.St → Hp → Prop) ?_ ?_); apply Exists.intro) | ((refine And.intro ?_ ?_); first | with_reducible rfl | with_reducible assumption | rfl | ((with_reducible apply SqL.of); assumption) | ((with_reducible apply SqT.of); assumption) | ((with_reducible apply OwnC.cl); assumption) | (with_reducible exact isI_int _) | exact within_args | (with_reducible exact upd_same) | ((with_reducible apply Mid.o); assumption) | ((with_reducible apply Mid.t); assumption) | exact .inl ⟨rfl, _, SqL.of (by assumption)⟩ | (with_reducible exact ⟨_, SqT.of (by assumption)⟩) | (with_reducible exact ⟨_, SqL.of (by assumption)⟩) | omega | exact Nat.le_of_ble_eq_true rfl | exact nat9 (by omega) | exact ⟨_, rfl⟩ | (show _ ≤ sizeLine; decide) | exact ⟨by decide, by decide, by decide⟩ | exact .inl ⟨by decide, by decide⟩ | exact .inl ⟨by omega, by omega⟩ | exact .inr ⟨by omega, by omega⟩ | assumption | fail) | ((with_reducible refine iteF' ?_ ?_); first | rfl | exact decide_eq_false (by omega) | exact in_no (by omega) (by omega) | exact in_no (by omega) (by assumption) | (simp <;> fail) | fail) | ((with_reducible refine iteT' ?_ ?_); first | rfl | exact decide_eq_true (by omega) | (simp <;> fail) | fail))
          intro st dx nx ndx nex
          refine make_st ok nx ndx fun H5 S5 is1 => ?_
          have np_st : st ≠ p := M.pD nx
          replace M := M.same S5
          clear S5 nx ndx nex dx g_lt
          repeat (first | (with_reducible refine st_tC ?_) | (with_reducible refine st_tOp ?_) | ((with_reducible apply st_n); rfl; rfl; (first | trivial | (show _ ≤ _; omega) | (show _ < _; omega) | (show _ ∨ _; omega) | assumption | exact ⟨by assumption, by omega⟩ | exact ⟨W30.one, by omega⟩ | fail); rfl) | (with_reducible refine st_i0 rfl rfl rfl ?_) | ((with_reducible refine st_i rfl rfl ?_ rfl ?_); first | omega | exact ⟨by decide, by decide, by decide⟩ | exact .inl ⟨by decide, by decide⟩ | exact .inl ⟨by omega, by omega⟩ | exact .inr ⟨by omega, by omega⟩ | fail) | ((fail_if_success refine Exists.intro (α := Nat → Nat → L2.St → Hp → Prop) ?_ ?_); (fail_if_success refine Exists.intro (α := L2.St → Hp → Prop) ?_ ?_); (fail_if_success refine Exists.intro (α := Nat → L2.St → Hp → Prop) ?_ ?_); apply Exists.intro) | ((refine And.intro ?_ ?_); first | with_reducible rfl | with_reducible assumption | rfl | ((with_reducible apply SqL.of); assumption) | ((with_reducible apply SqT.of); assumption) | ((with_reducible apply OwnC.cl); assumption) | (with_reducible exact isI_int _) | exact within_args | (with_reducible exact upd_same) | ((with_reducible apply Mid.o); assumption) | ((with_reducible apply Mid.t); assumption) | exact .inl ⟨rfl, _, SqL.of (by assumption)⟩ | (with_reducible exact ⟨_, SqT.of (by assumption)⟩) | (with_reducible exact ⟨_, SqL.of (by assumption)⟩) | omega | exact Nat.le_of_ble_eq_true rfl | exact nat9 (by omega) | exact ⟨_, rfl⟩ | (show _ ≤ sizeLine; decide) | exact ⟨by decide, by decide, by decide⟩ | exact .inl ⟨by decide, by decide⟩ | exact .inl ⟨by omega, by omega⟩ | exact .inr ⟨by omega, by omega⟩ | assumption | fail) | ((with_reducible refine iteF' ?_ ?_); first | rfl | exact decide_eq_false (by omega) | exact in_no (by omega) (by omega) | exact in_no (by omega) (by assumption) | (simp <;> fail) | fail) | ((with_reducible refine iteT' ?_ ?_); first | rfl | exact decide_eq_true (by omega) | (simp <;> fail) | fail))
          intro D hD
          have S60 := same_new (o := .lst []) hD
          refine lc_range (n := 8) (fun j H' => Same H5 H' ∧ H' D = some (.lst (((List.range j).filter fun b => decide (2 ^ b < c)).map fun b : Nat => V.int (b : Int)))) ⟨S60, upd_same⟩ ?_ ?_
          · clear S60
            rintro j H6 hj ⟨S6, g_D⟩
            refine ⟨rfl, ?_⟩
            repeat (first | (with_reducible refine st_tC ?_) | (with_reducible refine st_tOp ?_) | ((with_reducible apply st_n); rfl; rfl; (first | trivial | (show _ ≤ _; omega) | (show _ < _; omega) | (show _ ∨ _; omega) | assumption | exact ⟨by assumption, by omega⟩ | exact ⟨W30.one, by omega⟩ | fail); rfl) | (with_reducible refine st_i0 rfl rfl rfl ?_) | ((with_reducible refine st_i rfl rfl ?_ rfl ?_); first | omega | exact ⟨by decide, by decide, by decide⟩ | exact .inl ⟨by decide, by decide⟩ | exact .inl ⟨by omega, by omega⟩ | exact .inr ⟨by omega, by omega⟩ | fail) | ((fail_if_success refine Exists.intro (α := Nat → Nat → L2.St → Hp → Prop) ?_ ?_); (fail_if_success refine Exists.intro (α := L2.St → Hp → Prop) ?_ ?_); (fail_if_success refine Exists.intro (α := Nat → L2.St → Hp → Prop) ?_ ?_); apply Exists.intro) | ((refine And.intro ?_ ?_); first | with_reducible rfl | with_reducible assumption | rfl | ((with_reducible apply SqL.of); assumption) | ((with_reducible apply SqT.of); assumption) | ((with_reducible apply OwnC.cl); assumption) | (with_reducible exact isI_int _) | exact within_args | (with_reducible exact upd_same) | ((with_reducible apply Mid.o); assumption) | ((with_reducible apply Mid.t); assumption) | exact .inl ⟨rfl, _, SqL.of (by assumption)⟩ | (with_reducible exact ⟨_, SqT.of (by assumption)⟩) | (with_reducible exact ⟨_, SqL.of (by assumption)⟩) | omega | exact Nat.le_of_ble_eq_true rfl | exact nat9 (by omega) | exact ⟨_, rfl⟩ | (show _ ≤ sizeLine; decide) | exact ⟨by decide, by decide, by decide⟩ | exact .inl ⟨by decide, by decide⟩ | exact .inl ⟨by omega, by omega⟩ | exact .inr ⟨by omega, by omega⟩ | assumption | fail) | ((with_reducible refine iteF' ?_ ?_); first | rfl | exact decide_eq_false (by omega) | exact in_no (by omega) (by omega) | exact in_no (by omega) (by assumption) | (simp <;> fail) | fail) | ((with_reducible refine iteT' ?_ ?_); first | rfl | exact decide_eq_true (by omega) | (simp <;> fail) | fail))
            refine ⟨Nat.le_trans (Nat.le_of_eq (Nat.zero_add j)) (by omega), ?_⟩
            rw [Nat.zero_add]
            repeat (first | (with_reducible refine st_tC ?_) | (with_reducible refine st_tOp ?_) | ((with_reducible apply st_n); rfl; rfl; (first | trivial | (show _ ≤ _; omega) | (show _ < _; omega) | (show _ ∨ _; omega) | assumption | exact ⟨by assumption, by omega⟩ | exact ⟨W30.one, by omega⟩ | fail); rfl) | (with_reducible refine st_i0 rfl rfl rfl ?_) | ((with_reducible refine st_i rfl rfl ?_ rfl ?_); first | omega | exact ⟨by decide, by decide, by decide⟩ | exact .inl ⟨by decide, by decide⟩ | exact .inl ⟨by omega, by omega⟩ | exact .inr ⟨by omega, by omega⟩ | fail) | ((fail_if_success refine Exists.intro (α := Nat → Nat → L2.St → Hp → Prop) ?_ ?_); (fail_if_success refine Exists.intro (α := L2.St → Hp → Prop) ?_ ?_); (fail_if_success refine Exists.intro (α := Nat → L2.St → Hp → Prop) ?_ ?_); apply Exists.intro) | ((refine And.intro ?_ ?_); first | with_reducible rfl | with_reducible assumption | rfl | ((with_reducible apply SqL.of); assumption) | ((with_reducible apply SqT.of); assumption) | ((with_reducible apply OwnC.cl); assumption) | (with_reducible exact isI_int _) | exact within_args | (with_reducible exact upd_same) | ((with_reducible apply Mid.o); assumption) | ((with_reducible apply Mid.t); assumption) | exact .inl ⟨rfl, _, SqL.of (by assumption)⟩ | (with_reducible exact ⟨_, SqT.of (by assumption)⟩) | (with_reducible exact ⟨_, SqL.of (by assumption)⟩) | omega | exact Nat.le_of_ble_eq_true rfl | exact nat9 (by omega) | exact ⟨_, rfl⟩ | (show _ ≤ sizeLine; decide) | exact ⟨by decide, by decide, by decide⟩ | exact .inl ⟨by decide, by decide⟩ | exact .inl ⟨by omega, by omega⟩ | exact .inr ⟨by omega, by omega⟩ | assumption | fail) | ((with_reducible refine iteF' ?_ ?_); first | rfl | exact decide_eq_false (by omega) | exact in_no (by omega) (by omega) | exact in_no (by omega) (by assumption) | (simp <;> fail) | fail) | ((with_reducible refine iteT' ?_ ?_); first | rfl | exact decide_eq_true (by omega) | (simp <;> fail) | fail))
            have rg : (List.range (j + 1)).filter (fun b => decide (2 ^ b < c)) = (List.range j).filter (fun b => decide (2 ^ b < c)) ++ [j].filter (fun b => decide (2 ^ b < c)) := by
              rw [List.range_succ, List.filter_append]
            by_cases h : 2 ^ j < c
            · refine iteT' (decide_eq_true (by exact Int.ofNat_lt.mpr h)) ?_
              rw [show (0 : Int) + (j : Int) = (j : Int) by omega]
              refine ⟨_, rfl, _, g_D, ?_, fun a o e => ?_, ?_⟩
              · have := List.length_filter_le (fun b => decide (2 ^ b < c)) (List.range j)
                rw [List.length_range] at this
                rw [List.length_map, sizeLine_eq]
                omega
              · rw [upd_ne (ne_of_none e hD)]
                exact S6 _ _ e
              · rw [upd_same, rg, List.map_append, show [j].filter (fun b => decide (2 ^ b < c)) = [j] by simp [h]]
                rfl
            · refine iteF' (decide_eq_false (fun z => h (Int.ofNat_lt.mp z))) ?_
              rw [rg, show [j].filter (fun b => decide (2 ^ b < c)) = [] by simp [h], List.append_nil]
              exact ⟨S6, g_D⟩
          · clear S60
            rintro H6 ⟨S6, g_D⟩
            have lnD : (((List.range 8).filter fun b => decide (2 ^ b < c)).map fun b : Nat => V.int (b : Int)).length = pbOf c := by
              rw [List.length_map]
              exact (pb_facts c (by have := ok.c2; omega) ok.c1).2.2
            replace M := M.same S6; replace is1 := is1.same S6
            repeat (first | (with_reducible refine st_tC ?_) | (with_reducible refine st_tOp ?_) | ((with_reducible apply st_n); rfl; rfl; (first | trivial | (show _ ≤ _; omega) | (show _ < _; omega) | (show _ ∨ _; omega) | assumption | exact ⟨by assumption, by omega⟩ | exact ⟨W30.one, by omega⟩ | fail); rfl) | (with_reducible refine st_i0 rfl rfl rfl ?_) | ((with_reducible refine st_i rfl rfl ?_ rfl ?_); first | omega | exact ⟨by decide, by decide, by decide⟩ | exact .inl ⟨by decide, by decide⟩ | exact .inl ⟨by omega, by omega⟩ | exact .inr ⟨by omega, by omega⟩ | fail) | ((fail_if_success refine Exists.intro (α := Nat → Nat → L2.St → Hp → Prop) ?_ ?_); (fail_if_success refine Exists.intro (α := L2.St → Hp → Prop) ?_ ?_); (fail_if_success refine Exists.intro (α := Nat → L2.St → Hp → Prop) ?_ ?_); apply Exists.intro) | ((refine And.intro ?_ ?_); first | with_reducible rfl | with_reducible assumption | rfl | ((with_reducible apply SqL.of); assumption) | ((with_reducible apply SqT.of); assumption) | ((with_reducible apply OwnC.cl); assumption) | (with_reducible exact isI_int _) | exact within_args | (with_reducible exact upd_same) | ((with_reducible apply Mid.o); assumption) | ((with_reducible apply Mid.t); assumption) | exact .inl ⟨rfl, _, SqL.of (by assumption)⟩ | (with_reducible exact ⟨_, SqT.of (by assumption)⟩) | (with_reducible exact ⟨_, SqL.of (by assumption)⟩) | omega | exact Nat.le_of_ble_eq_true rfl | exact nat9 (by omega) | exact ⟨_, rfl⟩ | (show _ ≤ sizeLine; decide) | exact ⟨by decide, by decide, by decide⟩ | exact .inl ⟨by decide, by decide⟩ | exact .inl ⟨by omega, by omega⟩ | exact .inr ⟨by omega, by omega⟩ | assumption | fail) | ((with_reducible refine iteF' ?_ ?_); first | rfl | exact decide_eq_false (by omega) | exact in_no (by omega) (by omega) | exact in_no (by omega) (by assumption) | (simp <;> fail) | fail) | ((with_reducible refine iteT' ?_ ?_); first | rfl | exact decide_eq_true (by omega) | (simp <;> fail) | fail))
            refine ⟨.inl (SqL.of g_D), ?_⟩
            rw [lnD]
            clear lnD S6 hD g_D D
            have p8 := ok.pb.2
            have tp := ok.top
            have rw' := ok.rows
            obtain ⟨dx, fs, h1, h2, h3, h4, h5, h6⟩ := id is1
            have m8 := ok.m2
            repeat (first | (with_reducible refine st_tC ?_) | (with_reducible refine st_tOp ?_) | ((with_reducible apply st_n); rfl; rfl; (first | trivial | (show _ ≤ _; omega) | (show _ < _; omega) | (show _ ∨ _; omega) | assumption | exact ⟨by assumption, by omega⟩ | exact ⟨W30.one, by omega⟩ | fail); rfl) | (with_reducible refine st_i0 rfl rfl rfl ?_) | ((with_reducible refine st_i rfl rfl ?_ rfl ?_); first | omega | exact ⟨by decide, by decide, by decide⟩ | exact .inl ⟨by decide, by decide⟩ | exact .inl ⟨by omega, by omega⟩ | exact .inr ⟨by omega, by omega⟩ | fail) | ((fail_if_success refine Exists.intro (α := Nat → Nat → L2.St → Hp → Prop) ?_ ?_); (fail_if_success refine Exists.intro (α := L2.St → Hp → Prop) ?_ ?_); (fail_if_success refine Exists.intro (α := Nat → L2.St → Hp → Prop) ?_ ?_); apply Exists.intro) | ((refine And.intro ?_ ?_); first | with_reducible rfl | with_reducible assumption | rfl | ((with_reducible apply SqL.of); assumption) | ((with_reducible apply SqT.of); assumption) | ((with_reducible apply OwnC.cl); assumption) | (with_reducible exact isI_int _) | exact within_args | (with_reducible exact upd_same) | ((with_reducible apply Mid.o); assumption) | ((with_reducible apply Mid.t); assumption) | exact .inl ⟨rfl, _, SqL.of (by assumption)⟩ | (with_reducible exact ⟨_, SqT.of (by assumption)⟩) | (with_reducible exact ⟨_, SqL.of (by assumption)⟩) | omega | exact Nat.le_of_ble_eq_true rfl | exact nat9 (by omega) | exact ⟨_, rfl⟩ | (show _ ≤ sizeLine; decide) | exact ⟨by decide, by decide, by decide⟩ | exact .inl ⟨by decide, by decide⟩ | exact .inl ⟨by omega, by omega⟩ | exact .inr ⟨by omega, by omega⟩ | assumption | fail) | ((with_reducible refine iteF' ?_ ?_); first | rfl | exact decide_eq_false (by omega) | exact in_no (by omega) (by omega) | exact in_no (by omega) (by assumption) | (simp <;> fail) | fail) | ((with_reducible refine iteT' ?_ ?_); first | rfl | exact decide_eq_true (by omega) | (simp <;> fail) | fail))
            intro la h_la; have np_la := M.pD h_la; have nb_la := M.bD h_la; generalize hE : upd _ la _ = H7; obtain ⟨S_la, g_la⟩ := new_facts h_la hE; clear hE; replace M := M.same S_la; replace is1 := is1.same S_la
            have bs : c * s' + 1 + m * (pbOf c + s') < 2 ^ 14 := by omega
            have e0 : ((c : Int) * (s' : Int) + 1 + (m : Int) * (((pbOf c : Nat) : Int) + (s' : Int))) = ((c * s' + 1 + m * (pbOf c + s') : Nat) : Int) := by
              simp only [Int.natCast_add, Int.natCast_mul, Int.natCast_one]
            have lgs : ∀ n ∈ [(c : Int), (s' : Int), (m : Int), ((pbOf c : Nat) : Int), ((c * s' + 1 + m * (pbOf c + s') : Nat) : Int)], n.natAbs.log2 < 1920 := by
              have key : ∀ n : Nat, n < 2 ^ 14 → ((n : Nat) : Int).natAbs.log2 < 1920 := fun n hn => by
                rw [Int.natAbs_natCast]
                by_cases z : n = 0
                · rw [z]; decide
                · exact Nat.lt_trans ((Nat.log2_lt z).mpr hn) (by decide)
              intro n hn
              simp only [List.mem_cons, List.not_mem_nil, or_false] at hn
              rcases hn with rfl | rfl | rfl | rfl | rfl <;> refine key _ (by omega)
            have l5 : [(c : Int), (s' : Int), (m : Int), ((pbOf c : Nat) : Int), ((c * s' + 1 + m * (pbOf c + s') : Nat) : Int)].length ≤ 1000 := by show 5 ≤ 1000; decide
            generalize hb : c * s' + 1 + m * (pbOf c + s') = bb at *
            repeat (first | (refine ⟨la, [(c : Int), (s' : Int), (m : Int), ((pbOf c : Nat) : Int), (bb : Int)], rfl, lgs, l5, .inl ⟨SqL.of g_la, ?_⟩⟩) | (with_reducible refine st_tC ?_) | (with_reducible refine st_tOp ?_) | ((with_reducible apply st_n); rfl; rfl; (first | trivial | (show _ ≤ _; omega) | (show _ < _; omega) | (show _ ∨ _; omega) | assumption | exact ⟨by assumption, by omega⟩ | exact ⟨W30.one, by omega⟩ | fail); rfl) | (with_reducible refine st_i0 rfl rfl rfl ?_) | ((with_reducible refine st_i rfl rfl ?_ rfl ?_); first | omega | exact ⟨by decide, by decide, by decide⟩ | exact .inl ⟨by decide, by decide⟩ | exact .inl ⟨by omega, by omega⟩ | exact .inr ⟨by omega, by omega⟩ | fail) | ((fail_if_success refine Exists.intro (α := Nat → Nat → L2.St → Hp → Prop) ?_ ?_); (fail_if_success refine Exists.intro (α := L2.St → Hp → Prop) ?_ ?_); (fail_if_success refine Exists.intro (α := Nat → L2.St → Hp → Prop) ?_ ?_); apply Exists.intro) | ((refine And.intro ?_ ?_); first | with_reducible rfl | with_reducible assumption | rfl | ((with_reducible apply SqL.of); assumption) | ((with_reducible apply SqT.of); assumption) | ((with_reducible apply OwnC.cl); assumption) | (with_reducible exact isI_int _) | exact within_args | (with_reducible exact upd_same) | ((with_reducible apply Mid.o); assumption) | ((with_reducible apply Mid.t); assumption) | exact .inl ⟨rfl, _, SqL.of (by assumption)⟩ | (with_reducible exact ⟨_, SqT.of (by assumption)⟩) | (with_reducible exact ⟨_, SqL.of (by assumption)⟩) | omega | exact Nat.le_of_ble_eq_true rfl | exact nat9 (by omega) | exact ⟨_, rfl⟩ | (show _ ≤ sizeLine; decide) | exact ⟨by decide, by decide, by decide⟩ | exact .inl ⟨by decide, by decide⟩ | exact .inl ⟨by omega, by omega⟩ | exact .inr ⟨by omega, by omega⟩ | assumption | fail) | ((with_reducible refine iteF' ?_ ?_); first | rfl | exact decide_eq_false (by omega) | exact in_no (by omega) (by omega) | exact in_no (by omega) (by assumption) | (simp <;> fail) | fail) | ((with_reducible refine iteT' ?_ ?_); first | rfl | exact decide_eq_true (by omega) | (simp <;> fail) | fail))
            intro lb h_lb; have np_lb := M.pD h_lb; have nb_lb := M.bD h_lb; generalize hE : upd _ lb _ = H8; obtain ⟨S_lb, g_lb⟩ := new_facts h_lb hE; clear hE; replace M := M.same S_lb; replace is1 := is1.same S_lb
            rw [e0] at g_lb
            repeat (first | (refine ⟨lb, [(c : Int), (s' : Int), (m : Int), ((pbOf c : Nat) : Int), (bb : Int)], rfl, lgs, l5, .inl ⟨SqL.of g_lb, ?_⟩⟩) | (with_reducible refine st_tC ?_) | (with_reducible refine st_tOp ?_) | ((with_reducible apply st_n); rfl; rfl; (first | trivial | (show _ ≤ _; omega) | (show _ < _; omega) | (show _ ∨ _; omega) | assumption | exact ⟨by assumption, by omega⟩ | exact ⟨W30.one, by omega⟩ | fail); rfl) | (with_reducible refine st_i0 rfl rfl rfl ?_) | ((with_reducible refine st_i rfl rfl ?_ rfl ?_); first | omega | exact ⟨by decide, by decide, by decide⟩ | exact .inl ⟨by decide, by decide⟩ | exact .inl ⟨by omega, by omega⟩ | exact .inr ⟨by omega, by omega⟩ | fail) | ((fail_if_success refine Exists.intro (α := Nat → Nat → L2.St → Hp → Prop) ?_ ?_); (fail_if_success refine Exists.intro (α := L2.St → Hp → Prop) ?_ ?_); (fail_if_success refine Exists.intro (α := Nat → L2.St → Hp → Prop) ?_ ?_); apply Exists.intro) | ((refine And.intro ?_ ?_); first | with_reducible rfl | with_reducible assumption | rfl | ((with_reducible apply SqL.of); assumption) | ((with_reducible apply SqT.of); assumption) | ((with_reducible apply OwnC.cl); assumption) | (with_reducible exact isI_int _) | exact within_args | (with_reducible exact upd_same) | ((with_reducible apply Mid.o); assumption) | ((with_reducible apply Mid.t); assumption) | exact .inl ⟨rfl, _, SqL.of (by assumption)⟩ | (with_reducible exact ⟨_, SqT.of (by assumption)⟩) | (with_reducible exact ⟨_, SqL.of (by assumption)⟩) | omega | exact Nat.le_of_ble_eq_true rfl | exact nat9 (by omega) | exact ⟨_, rfl⟩ | (show _ ≤ sizeLine; decide) | exact ⟨by decide, by decide, by decide⟩ | exact .inl ⟨by decide, by decide⟩ | exact .inl ⟨by omega, by omega⟩ | exact .inr ⟨by omega, by omega⟩ | assumption | fail) | ((with_reducible refine iteF' ?_ ?_); first | rfl | exact decide_eq_false (by omega) | exact in_no (by omega) (by omega) | exact in_no (by omega) (by assumption) | (simp <;> fail) | fail) | ((with_reducible refine iteT' ?_ ?_); first | rfl | exact decide_eq_true (by omega) | (simp <;> fail) | fail))
            clear g_la S_la h_la np_la nb_la g_lb S_lb h_lb np_lb nb_lb lgs l5 e0 h1 h2 h3 h4 h5 h6
            have c256 := ok.c2
            have s48 := ok.s2
            have lg : ∀ n : Nat, n < 1000 → (n : Int).natAbs.log2 < 1920 := fun n hn => by
              rw [Int.natAbs_natCast]
              exact Nat.lt_of_le_of_lt (Nat.log2_le_self n) (by omega)
            have s1' := ds_short (show c < 1000 by omega)
            have s2' := ds_short (show s' < 1000 by omega)
            have s3' := ds_short (show m < 1000 by omega)
            have ea : ∀ y : Str, Str.empty ++ y = y := fun y => by
              cases y with
              | mk c => exact congrArg Str.mk (Array.empty_append (xs := c))
            have l1 : (" " : Str).length = 1 := by decide +kernel
            refine .inr ⟨_, rfl, lg c (by omega), ?_⟩
            refine ⟨ds c, rfl, by rw [ea, sizeLine_eq]; omega, ?_⟩
            rw [ea]
            refine ⟨_, rfl, by rw [Str.length_append, l1, sizeLine_eq]; omega, ?_⟩
            refine ⟨_, rfl, .inr ⟨_, rfl, lg s' (by omega), ds s', rfl, by rw [Str.length_append, Str.length_append, l1, sizeLine_eq]; omega, ?_⟩⟩
            refine ⟨_, rfl, by rw [Str.length_append, Str.length_append, Str.length_append, l1, sizeLine_eq]; omega, ?_⟩
            refine ⟨_, rfl, .inr ⟨_, rfl, lg m (by omega), ds m, rfl, by rw [Str.length_append, Str.length_append, Str.length_append, Str.length_append, l1, sizeLine_eq]; omega, ?_⟩⟩
            rw [show ds c ++ " " ++ ds s' ++ " " ++ ds m = storeT c s' m from rfl]
            have zl : (storeT c s' m).length ≤ 100 := by
              unfold storeT
              rw [Str.length_append, Str.length_append, Str.length_append, Str.length_append, l1]
              omega
            have dT := due_store ok
            clear s1' s2' s3' ea l1 lg
            generalize hT : storeT c s' m = zT at *
            refine (fun key : (∀ mo : Nat, ShOk c s' mo → (?G : Nat → Prop) mo) => ?_) ?_
            rotate_left
            · have m1' := ok.m1
              have mc' := ok.mc
              have m8' := ok.m2
              by_cases q1 : 1 < m
              · obtain ⟨mo, emo⟩ : ∃ mo, mo = m - 1 := ⟨_, rfl⟩
                have okm : ShOk c s' mo := ⟨ok.c1, ok.c2, ok.s1, ok.s2, by omega, by omega, by omega⟩
                repeat (first | (with_reducible refine st_tC ?_) | (with_reducible refine st_tOp ?_) | ((with_reducible apply st_n); rfl; rfl; (first | trivial | (show _ ≤ _; omega) | (show _ < _; omega) | (show _ ∨ _; omega) | assumption | exact ⟨by assumption, by omega⟩ | exact ⟨W30.one, by omega⟩ | fail); rfl) | (with_reducible refine st_i0 rfl rfl rfl ?_) | ((with_reducible refine st_i rfl rfl ?_ rfl ?_); first | omega | exact ⟨by decide, by decide, by decide⟩ | exact .inl ⟨by decide, by decide⟩ | exact .inl ⟨by omega, by omega⟩ | exact .inr ⟨by omega, by omega⟩ | fail) | ((fail_if_success refine Exists.intro (α := Nat → Nat → L2.St → Hp → Prop) ?_ ?_); (fail_if_success refine Exists.intro (α := L2.St → Hp → Prop) ?_ ?_); (fail_if_success refine Exists.intro (α := Nat → L2.St → Hp → Prop) ?_ ?_); apply Exists.intro) | ((refine And.intro ?_ ?_); first | with_reducible rfl | with_reducible assumption | rfl | ((with_reducible apply SqL.of); assumption) | ((with_reducible apply SqT.of); assumption) | ((with_reducible apply OwnC.cl); assumption) | (with_reducible exact isI_int _) | exact within_args | (with_reducible exact upd_same) | ((with_reducible apply Mid.o); assumption) | ((with_reducible apply Mid.t); assumption) | exact .inl ⟨rfl, _, SqL.of (by assumption)⟩ | (with_reducible exact ⟨_, SqT.of (by assumption)⟩) | (with_reducible exact ⟨_, SqL.of (by assumption)⟩) | omega | exact Nat.le_of_ble_eq_true rfl | exact nat9 (by omega) | exact ⟨_, rfl⟩ | (show _ ≤ sizeLine; decide) | exact ⟨by decide, by decide, by decide⟩ | exact .inl ⟨by decide, by decide⟩ | exact .inl ⟨by omega, by omega⟩ | exact .inr ⟨by omega, by omega⟩ | assumption | fail) | ((with_reducible refine iteF' ?_ ?_); first | rfl | exact decide_eq_false (by omega) | exact in_no (by omega) (by omega) | exact in_no (by omega) (by assumption) | (simp <;> fail) | fail) | ((with_reducible refine iteT' ?_ ?_); first | rfl | exact decide_eq_true (by omega) | (simp <;> fail) | fail))
                rw [show ((m : Int) - 1) = (mo : Int) by omega]
                exact key mo okm
              · by_cases q2 : 1 < c
                · obtain ⟨mo, emo⟩ : ∃ mo, mo = 2 := ⟨_, rfl⟩
                  have okm : ShOk c s' mo := ⟨ok.c1, ok.c2, ok.s1, ok.s2, by omega, by omega, by omega⟩
                  repeat (first | (with_reducible refine st_tC ?_) | (with_reducible refine st_tOp ?_) | ((with_reducible apply st_n); rfl; rfl; (first | trivial | (show _ ≤ _; omega) | (show _ < _; omega) | (show _ ∨ _; omega) | assumption | exact ⟨by assumption, by omega⟩ | exact ⟨W30.one, by omega⟩ | fail); rfl) | (with_reducible refine st_i0 rfl rfl rfl ?_) | ((with_reducible refine st_i rfl rfl ?_ rfl ?_); first | omega | exact ⟨by decide, by decide, by decide⟩ | exact .inl ⟨by decide, by decide⟩ | exact .inl ⟨by omega, by omega⟩ | exact .inr ⟨by omega, by omega⟩ | fail) | ((fail_if_success refine Exists.intro (α := Nat → Nat → L2.St → Hp → Prop) ?_ ?_); (fail_if_success refine Exists.intro (α := L2.St → Hp → Prop) ?_ ?_); (fail_if_success refine Exists.intro (α := Nat → L2.St → Hp → Prop) ?_ ?_); apply Exists.intro) | ((refine And.intro ?_ ?_); first | with_reducible rfl | with_reducible assumption | rfl | ((with_reducible apply SqL.of); assumption) | ((with_reducible apply SqT.of); assumption) | ((with_reducible apply OwnC.cl); assumption) | (with_reducible exact isI_int _) | exact within_args | (with_reducible exact upd_same) | ((with_reducible apply Mid.o); assumption) | ((with_reducible apply Mid.t); assumption) | exact .inl ⟨rfl, _, SqL.of (by assumption)⟩ | (with_reducible exact ⟨_, SqT.of (by assumption)⟩) | (with_reducible exact ⟨_, SqL.of (by assumption)⟩) | omega | exact Nat.le_of_ble_eq_true rfl | exact nat9 (by omega) | exact ⟨_, rfl⟩ | (show _ ≤ sizeLine; decide) | exact ⟨by decide, by decide, by decide⟩ | exact .inl ⟨by decide, by decide⟩ | exact .inl ⟨by omega, by omega⟩ | exact .inr ⟨by omega, by omega⟩ | assumption | fail) | ((with_reducible refine iteF' ?_ ?_); first | rfl | exact decide_eq_false (by omega) | exact in_no (by omega) (by omega) | exact in_no (by omega) (by assumption) | (simp <;> fail) | fail) | ((with_reducible refine iteT' ?_ ?_); first | rfl | exact decide_eq_true (by omega) | (simp <;> fail) | fail))
                  refine .inr ⟨_, rfl, ?_⟩
                  rw [decide_eq_true (show (1 : Int) < (c : Int) by omega)]
                  repeat (first | (with_reducible refine st_tC ?_) | (with_reducible refine st_tOp ?_) | ((with_reducible apply st_n); rfl; rfl; (first | trivial | (show _ ≤ _; omega) | (show _ < _; omega) | (show _ ∨ _; omega) | assumption | exact ⟨by assumption, by omega⟩ | exact ⟨W30.one, by omega⟩ | fail); rfl) | (with_reducible refine st_i0 rfl rfl rfl ?_) | ((with_reducible refine st_i rfl rfl ?_ rfl ?_); first | omega | exact ⟨by decide, by decide, by decide⟩ | exact .inl ⟨by decide, by decide⟩ | exact .inl ⟨by omega, by omega⟩ | exact .inr ⟨by omega, by omega⟩ | fail) | ((fail_if_success refine Exists.intro (α := Nat → Nat → L2.St → Hp → Prop) ?_ ?_); (fail_if_success refine Exists.intro (α := L2.St → Hp → Prop) ?_ ?_); (fail_if_success refine Exists.intro (α := Nat → L2.St → Hp → Prop) ?_ ?_); apply Exists.intro) | ((refine And.intro ?_ ?_); first | with_reducible rfl | with_reducible assumption | rfl | ((with_reducible apply SqL.of); assumption) | ((with_reducible apply SqT.of); assumption) | ((with_reducible apply OwnC.cl); assumption) | (with_reducible exact isI_int _) | exact within_args | (with_reducible exact upd_same) | ((with_reducible apply Mid.o); assumption) | ((with_reducible apply Mid.t); assumption) | exact .inl ⟨rfl, _, SqL.of (by assumption)⟩ | (with_reducible exact ⟨_, SqT.of (by assumption)⟩) | (with_reducible exact ⟨_, SqL.of (by assumption)⟩) | omega | exact Nat.le_of_ble_eq_true rfl | exact nat9 (by omega) | exact ⟨_, rfl⟩ | (show _ ≤ sizeLine; decide) | exact ⟨by decide, by decide, by decide⟩ | exact .inl ⟨by decide, by decide⟩ | exact .inl ⟨by omega, by omega⟩ | exact .inr ⟨by omega, by omega⟩ | assumption | fail) | ((with_reducible refine iteF' ?_ ?_); first | rfl | exact decide_eq_false (by omega) | exact in_no (by omega) (by omega) | exact in_no (by omega) (by assumption) | (simp <;> fail) | fail) | ((with_reducible refine iteT' ?_ ?_); first | rfl | exact decide_eq_true (by omega) | (simp <;> fail) | fail))
                  rw [if_pos rfl, show ((1 : Int) + 1) = (mo : Int) by omega]
                  exact key mo okm
                · obtain ⟨mo, emo⟩ : ∃ mo, mo = 1 := ⟨_, rfl⟩
                  have okm : ShOk c s' mo := ⟨ok.c1, ok.c2, ok.s1, ok.s2, by omega, by omega, by omega⟩
                  repeat (first | (with_reducible refine st_tC ?_) | (with_reducible refine st_tOp ?_) | ((with_reducible apply st_n); rfl; rfl; (first | trivial | (show _ ≤ _; omega) | (show _ < _; omega) | (show _ ∨ _; omega) | assumption | exact ⟨by assumption, by omega⟩ | exact ⟨W30.one, by omega⟩ | fail); rfl) | (with_reducible refine st_i0 rfl rfl rfl ?_) | ((with_reducible refine st_i rfl rfl ?_ rfl ?_); first | omega | exact ⟨by decide, by decide, by decide⟩ | exact .inl ⟨by decide, by decide⟩ | exact .inl ⟨by omega, by omega⟩ | exact .inr ⟨by omega, by omega⟩ | fail) | ((fail_if_success refine Exists.intro (α := Nat → Nat → L2.St → Hp → Prop) ?_ ?_); (fail_if_success refine Exists.intro (α := L2.St → Hp → Prop) ?_ ?_); (fail_if_success refine Exists.intro (α := Nat → L2.St → Hp → Prop) ?_ ?_); apply Exists.intro) | ((refine And.intro ?_ ?_); first | with_reducible rfl | with_reducible assumption | rfl | ((with_reducible apply SqL.of); assumption) | ((with_reducible apply SqT.of); assumption) | ((with_reducible apply OwnC.cl); assumption) | (with_reducible exact isI_int _) | exact within_args | (with_reducible exact upd_same) | ((with_reducible apply Mid.o); assumption) | ((with_reducible apply Mid.t); assumption) | exact .inl ⟨rfl, _, SqL.of (by assumption)⟩ | (with_reducible exact ⟨_, SqT.of (by assumption)⟩) | (with_reducible exact ⟨_, SqL.of (by assumption)⟩) | omega | exact Nat.le_of_ble_eq_true rfl | exact nat9 (by omega) | exact ⟨_, rfl⟩ | (show _ ≤ sizeLine; decide) | exact ⟨by decide, by decide, by decide⟩ | exact .inl ⟨by decide, by decide⟩ | exact .inl ⟨by omega, by omega⟩ | exact .inr ⟨by omega, by omega⟩ | assumption | fail) | ((with_reducible refine iteF' ?_ ?_); first | rfl | exact decide_eq_false (by omega) | exact in_no (by omega) (by omega) | exact in_no (by omega) (by assumption) | (simp <;> fail) | fail) | ((with_reducible refine iteT' ?_ ?_); first | rfl | exact decide_eq_true (by omega) | (simp <;> fail) | fail))
                  refine .inr ⟨_, rfl, ?_⟩
                  rw [decide_eq_false (show ¬ (1 : Int) < (c : Int) by omega)]
                  repeat (first | (with_reducible refine st_tC ?_) | (with_reducible refine st_tOp ?_) | ((with_reducible apply st_n); rfl; rfl; (first | trivial | (show _ ≤ _; omega) | (show _ < _; omega) | (show _ ∨ _; omega) | assumption | exact ⟨by assumption, by omega⟩ | exact ⟨W30.one, by omega⟩ | fail); rfl) | (with_reducible refine st_i0 rfl rfl rfl ?_) | ((with_reducible refine st_i rfl rfl ?_ rfl ?_); first | omega | exact ⟨by decide, by decide, by decide⟩ | exact .inl ⟨by decide, by decide⟩ | exact .inl ⟨by omega, by omega⟩ | exact .inr ⟨by omega, by omega⟩ | fail) | ((fail_if_success refine Exists.intro (α := Nat → Nat → L2.St → Hp → Prop) ?_ ?_); (fail_if_success refine Exists.intro (α := L2.St → Hp → Prop) ?_ ?_); (fail_if_success refine Exists.intro (α := Nat → L2.St → Hp → Prop) ?_ ?_); apply Exists.intro) | ((refine And.intro ?_ ?_); first | with_reducible rfl | with_reducible assumption | rfl | ((with_reducible apply SqL.of); assumption) | ((with_reducible apply SqT.of); assumption) | ((with_reducible apply OwnC.cl); assumption) | (with_reducible exact isI_int _) | exact within_args | (with_reducible exact upd_same) | ((with_reducible apply Mid.o); assumption) | ((with_reducible apply Mid.t); assumption) | exact .inl ⟨rfl, _, SqL.of (by assumption)⟩ | (with_reducible exact ⟨_, SqT.of (by assumption)⟩) | (with_reducible exact ⟨_, SqL.of (by assumption)⟩) | omega | exact Nat.le_of_ble_eq_true rfl | exact nat9 (by omega) | exact ⟨_, rfl⟩ | (show _ ≤ sizeLine; decide) | exact ⟨by decide, by decide, by decide⟩ | exact .inl ⟨by decide, by decide⟩ | exact .inl ⟨by omega, by omega⟩ | exact .inr ⟨by omega, by omega⟩ | assumption | fail) | ((with_reducible refine iteF' ?_ ?_); first | rfl | exact decide_eq_false (by omega) | exact in_no (by omega) (by omega) | exact in_no (by omega) (by assumption) | (simp <;> fail) | fail) | ((with_reducible refine iteT' ?_ ?_); first | rfl | exact decide_eq_true (by omega) | (simp <;> fail) | fail))
                  rw [if_neg (by decide), show ((0 : Int) + 1) = (mo : Int) by omega]
                  exact key mo okm
            · intro mo okm
              repeat (first | (with_reducible refine st_tC ?_) | (with_reducible refine st_tOp ?_) | ((with_reducible apply st_n); rfl; rfl; (first | trivial | (show _ ≤ _; omega) | (show _ < _; omega) | (show _ ∨ _; omega) | assumption | exact ⟨by assumption, by omega⟩ | exact ⟨W30.one, by omega⟩ | fail); rfl) | (with_reducible refine st_i0 rfl rfl rfl ?_) | ((with_reducible refine st_i rfl rfl ?_ rfl ?_); first | omega | exact ⟨by decide, by decide, by decide⟩ | exact .inl ⟨by decide, by decide⟩ | exact .inl ⟨by omega, by omega⟩ | exact .inr ⟨by omega, by omega⟩ | fail) | ((fail_if_success refine Exists.intro (α := Nat → Nat → L2.St → Hp → Prop) ?_ ?_); (fail_if_success refine Exists.intro (α := L2.St → Hp → Prop) ?_ ?_); (fail_if_success refine Exists.intro (α := Nat → L2.St → Hp → Prop) ?_ ?_); apply Exists.intro) | ((refine And.intro ?_ ?_); first | with_reducible rfl | with_reducible assumption | rfl | ((with_reducible apply SqL.of); assumption) | ((with_reducible apply SqT.of); assumption) | ((with_reducible apply OwnC.cl); assumption) | (with_reducible exact isI_int _) | exact within_args | (with_reducible exact upd_same) | ((with_reducible apply Mid.o); assumption) | ((with_reducible apply Mid.t); assumption) | exact .inl ⟨rfl, _, SqL.of (by assumption)⟩ | (with_reducible exact ⟨_, SqT.of (by assumption)⟩) | (with_reducible exact ⟨_, SqL.of (by assumption)⟩) | omega | exact Nat.le_of_ble_eq_true rfl | exact nat9 (by omega) | exact ⟨_, rfl⟩ | (show _ ≤ sizeLine; decide) | exact ⟨by decide, by decide, by decide⟩ | exact .inl ⟨by decide, by decide⟩ | exact .inl ⟨by omega, by omega⟩ | exact .inr ⟨by omega, by omega⟩ | assumption | fail) | ((with_reducible refine iteF' ?_ ?_); first | rfl | exact decide_eq_false (by omega) | exact in_no (by omega) (by omega) | exact in_no (by omega) (by assumption) | (simp <;> fail) | fail) | ((with_reducible refine iteT' ?_ ?_); first | rfl | exact decide_eq_true (by omega) | (simp <;> fail) | fail))
              intro ot dx nx ndx nex
              refine make_st okm nx ndx fun H9 S9 is2 => ?_
              replace M := M.same S9; replace is1 := is1.same S9
              clear S9 nx ndx nex dx
              obtain ⟨dx1, fs1, hx1, _⟩ := id is1
              repeat (first | (refine ⟨st, dx1, fs1, rfl, hx1, ?_⟩) | (refine ⟨st, c, s', m, rfl, is1, ok, ?_⟩) | (with_reducible refine st_tC ?_) | (with_reducible refine st_tOp ?_) | ((with_reducible apply st_n); rfl; rfl; (first | trivial | (show _ ≤ _; omega) | (show _ < _; omega) | (show _ ∨ _; omega) | assumption | exact ⟨by assumption, by omega⟩ | exact ⟨W30.one, by omega⟩ | fail); rfl) | (with_reducible refine st_i0 rfl rfl rfl ?_) | ((with_reducible refine st_i rfl rfl ?_ rfl ?_); first | omega | exact ⟨by decide, by decide, by decide⟩ | exact .inl ⟨by decide, by decide⟩ | exact .inl ⟨by omega, by omega⟩ | exact .inr ⟨by omega, by omega⟩ | fail) | ((fail_if_success refine Exists.intro (α := Nat → Nat → L2.St → Hp → Prop) ?_ ?_); (fail_if_success refine Exists.intro (α := L2.St → Hp → Prop) ?_ ?_); (fail_if_success refine Exists.intro (α := Nat → L2.St → Hp → Prop) ?_ ?_); apply Exists.intro) | ((refine And.intro ?_ ?_); first | with_reducible rfl | with_reducible assumption | rfl | ((with_reducible apply SqL.of); assumption) | ((with_reducible apply SqT.of); assumption) | ((with_reducible apply OwnC.cl); assumption) | (with_reducible exact isI_int _) | exact within_args | (with_reducible exact upd_same) | ((with_reducible apply Mid.o); assumption) | ((with_reducible apply Mid.t); assumption) | exact .inl ⟨rfl, _, SqL.of (by assumption)⟩ | (with_reducible exact ⟨_, SqT.of (by assumption)⟩) | (with_reducible exact ⟨_, SqL.of (by assumption)⟩) | omega | exact Nat.le_of_ble_eq_true rfl | exact nat9 (by omega) | exact ⟨_, rfl⟩ | (show _ ≤ sizeLine; decide) | exact ⟨by decide, by decide, by decide⟩ | exact .inl ⟨by decide, by decide⟩ | exact .inl ⟨by omega, by omega⟩ | exact .inr ⟨by omega, by omega⟩ | assumption | fail) | ((with_reducible refine iteF' ?_ ?_); first | rfl | exact decide_eq_false (by omega) | exact in_no (by omega) (by omega) | exact in_no (by omega) (by assumption) | (simp <;> fail) | fail) | ((with_reducible refine iteT' ?_ ?_); first | rfl | exact decide_eq_true (by omega) | (simp <;> fail) | fail))
              refine iteF' (by rw [hT, decide_eq_true rfl]; rfl) ?_
              repeat (first | (with_reducible refine st_tC ?_) | (with_reducible refine st_tOp ?_) | ((with_reducible apply st_n); rfl; rfl; (first | trivial | (show _ ≤ _; omega) | (show _ < _; omega) | (show _ ∨ _; omega) | assumption | exact ⟨by assumption, by omega⟩ | exact ⟨W30.one, by omega⟩ | fail); rfl) | (with_reducible refine st_i0 rfl rfl rfl ?_) | ((with_reducible refine st_i rfl rfl ?_ rfl ?_); first | omega | exact ⟨by decide, by decide, by decide⟩ | exact .inl ⟨by decide, by decide⟩ | exact .inl ⟨by omega, by omega⟩ | exact .inr ⟨by omega, by omega⟩ | fail) | ((fail_if_success refine Exists.intro (α := Nat → Nat → L2.St → Hp → Prop) ?_ ?_); (fail_if_success refine Exists.intro (α := L2.St → Hp → Prop) ?_ ?_); (fail_if_success refine Exists.intro (α := Nat → L2.St → Hp → Prop) ?_ ?_); apply Exists.intro) | ((refine And.intro ?_ ?_); first | with_reducible rfl | with_reducible assumption | rfl | ((with_reducible apply SqL.of); assumption) | ((with_reducible apply SqT.of); assumption) | ((with_reducible apply OwnC.cl); assumption) | (with_reducible exact isI_int _) | exact within_args | (with_reducible exact upd_same) | ((with_reducible apply Mid.o); assumption) | ((with_reducible apply Mid.t); assumption) | exact .inl ⟨rfl, _, SqL.of (by assumption)⟩ | (with_reducible exact ⟨_, SqT.of (by assumption)⟩) | (with_reducible exact ⟨_, SqL.of (by assumption)⟩) | omega | exact Nat.le_of_ble_eq_true rfl | exact nat9 (by omega) | exact ⟨_, rfl⟩ | (show _ ≤ sizeLine; decide) | exact ⟨by decide, by decide, by decide⟩ | exact .inl ⟨by decide, by decide⟩ | exact .inl ⟨by omega, by omega⟩ | exact .inr ⟨by omega, by omega⟩ | assumption | fail) | ((with_reducible refine iteF' ?_ ?_); first | rfl | exact decide_eq_false (by omega) | exact in_no (by omega) (by omega) | exact in_no (by omega) (by assumption) | (simp <;> fail) | fail) | ((with_reducible refine iteT' ?_ ?_); first | rfl | exact decide_eq_true (by omega) | (simp <;> fail) | fail))
              refine .inr ⟨zT, rfl, by omega, (fun k' e' => by rw [dT] at e'; cases e'), fun c2 s2 m2 ok2 ez y1 H10 ny1 S10 is3 => ?_⟩
              obtain ⟨rfl, rfl, rfl⟩ := storeT_inj ok ok2 (hT.trans ez)
              replace M := M.same S10; replace is1 := is1.same S10; replace is2 := is2.same S10
              clear S10 ny1
              repeat (first | (refine ne_st is3 is1 (fun bn en => ⟨_, rfl, ?_⟩)) | (with_reducible refine st_tC ?_) | (with_reducible refine st_tOp ?_) | ((with_reducible apply st_n); rfl; rfl; (first | trivial | (show _ ≤ _; omega) | (show _ < _; omega) | (show _ ∨ _; omega) | assumption | exact ⟨by assumption, by omega⟩ | exact ⟨W30.one, by omega⟩ | fail); rfl) | (with_reducible refine st_i0 rfl rfl rfl ?_) | ((with_reducible refine st_i rfl rfl ?_ rfl ?_); first | omega | exact ⟨by decide, by decide, by decide⟩ | exact .inl ⟨by decide, by decide⟩ | exact .inl ⟨by omega, by omega⟩ | exact .inr ⟨by omega, by omega⟩ | fail) | ((fail_if_success refine Exists.intro (α := Nat → Nat → L2.St → Hp → Prop) ?_ ?_); (fail_if_success refine Exists.intro (α := L2.St → Hp → Prop) ?_ ?_); (fail_if_success refine Exists.intro (α := Nat → L2.St → Hp → Prop) ?_ ?_); apply Exists.intro) | ((refine And.intro ?_ ?_); first | with_reducible rfl | with_reducible assumption | rfl | ((with_reducible apply SqL.of); assumption) | ((with_reducible apply SqT.of); assumption) | ((with_reducible apply OwnC.cl); assumption) | (with_reducible exact isI_int _) | exact within_args | (with_reducible exact upd_same) | ((with_reducible apply Mid.o); assumption) | ((with_reducible apply Mid.t); assumption) | exact .inl ⟨rfl, _, SqL.of (by assumption)⟩ | (with_reducible exact ⟨_, SqT.of (by assumption)⟩) | (with_reducible exact ⟨_, SqL.of (by assumption)⟩) | omega | exact Nat.le_of_ble_eq_true rfl | exact nat9 (by omega) | exact ⟨_, rfl⟩ | (show _ ≤ sizeLine; decide) | exact ⟨by decide, by decide, by decide⟩ | exact .inl ⟨by decide, by decide⟩ | exact .inl ⟨by omega, by omega⟩ | exact .inr ⟨by omega, by omega⟩ | assumption | fail) | ((with_reducible refine iteF' ?_ ?_); first | rfl | exact decide_eq_false (by omega) | exact in_no (by omega) (by omega) | exact in_no (by omega) (by assumption) | (simp <;> fail) | fail) | ((with_reducible refine iteT' ?_ ?_); first | rfl | exact decide_eq_true (by omega) | (simp <;> fail) | fail))
              rw [en, decide_eq_true ⟨rfl, rfl, rfl⟩]
              refine iteF ?_
              clear en bn
              repeat (first | (with_reducible refine st_tC ?_) | (with_reducible refine st_tOp ?_) | ((with_reducible apply st_n); rfl; rfl; (first | trivial | (show _ ≤ _; omega) | (show _ < _; omega) | (show _ ∨ _; omega) | assumption | exact ⟨by assumption, by omega⟩ | exact ⟨W30.one, by omega⟩ | fail); rfl) | (with_reducible refine st_i0 rfl rfl rfl ?_) | ((with_reducible refine st_i rfl rfl ?_ rfl ?_); first | omega | exact ⟨by decide, by decide, by decide⟩ | exact .inl ⟨by decide, by decide⟩ | exact .inl ⟨by omega, by omega⟩ | exact .inr ⟨by omega, by omega⟩ | fail) | ((fail_if_success refine Exists.intro (α := Nat → Nat → L2.St → Hp → Prop) ?_ ?_); (fail_if_success refine Exists.intro (α := L2.St → Hp → Prop) ?_ ?_); (fail_if_success refine Exists.intro (α := Nat → L2.St → Hp → Prop) ?_ ?_); apply Exists.intro) | ((refine And.intro ?_ ?_); first | with_reducible rfl | with_reducible assumption | rfl | ((with_reducible apply SqL.of); assumption) | ((with_reducible apply SqT.of); assumption) | ((with_reducible apply OwnC.cl); assumption) | (with_reducible exact isI_int _) | exact within_args | (with_reducible exact upd_same) | ((with_reducible apply Mid.o); assumption) | ((with_reducible apply Mid.t); assumption) | exact .inl ⟨rfl, _, SqL.of (by assumption)⟩ | (with_reducible exact ⟨_, SqT.of (by assumption)⟩) | (with_reducible exact ⟨_, SqL.of (by assumption)⟩) | omega | exact Nat.le_of_ble_eq_true rfl | exact nat9 (by omega) | exact ⟨_, rfl⟩ | (show _ ≤ sizeLine; decide) | exact ⟨by decide, by decide, by decide⟩ | exact .inl ⟨by decide, by decide⟩ | exact .inl ⟨by omega, by omega⟩ | exact .inr ⟨by omega, by omega⟩ | assumption | fail) | ((with_reducible refine iteF' ?_ ?_); first | rfl | exact decide_eq_false (by omega) | exact in_no (by omega) (by omega) | exact in_no (by omega) (by assumption) | (simp <;> fail) | fail) | ((with_reducible refine iteT' ?_ ?_); first | rfl | exact decide_eq_true (by omega) | (simp <;> fail) | fail))
              refine .inr ⟨zT, rfl, by omega, (fun k' e' => by rw [dT] at e'; cases e'), fun c2 s2 m2 ok2 ez y2 H11 ny2 S11 is4 => ?_⟩
              obtain ⟨rfl, rfl, rfl⟩ := storeT_inj ok ok2 (hT.trans ez)
              replace M := M.same S11; replace is1 := is1.same S11; replace is2 := is2.same S11
              clear S11 ny2 is3
              obtain ⟨dx4, fs4, hx4, _, _, _, _, f46⟩ := id is4
              obtain ⟨dx1, fs1, hx1, _, _, _, _, f16⟩ := id is1
              repeat (first | (refine eq_txt O_Store sustr is1 ⟨_, rfl, ?_⟩) | (with_reducible refine st_tC ?_) | (with_reducible refine st_tOp ?_) | ((with_reducible apply st_n); rfl; rfl; (first | trivial | (show _ ≤ _; omega) | (show _ < _; omega) | (show _ ∨ _; omega) | assumption | exact ⟨by assumption, by omega⟩ | exact ⟨W30.one, by omega⟩ | fail); rfl) | (with_reducible refine st_i0 rfl rfl rfl ?_) | ((with_reducible refine st_i rfl rfl ?_ rfl ?_); first | omega | exact ⟨by decide, by decide, by decide⟩ | exact .inl ⟨by decide, by decide⟩ | exact .inl ⟨by omega, by omega⟩ | exact .inr ⟨by omega, by omega⟩ | fail) | ((fail_if_success refine Exists.intro (α := Nat → Nat → L2.St → Hp → Prop) ?_ ?_); (fail_if_success refine Exists.intro (α := L2.St → Hp → Prop) ?_ ?_); (fail_if_success refine Exists.intro (α := Nat → L2.St → Hp → Prop) ?_ ?_); apply Exists.intro) | ((refine And.intro ?_ ?_); first | with_reducible rfl | with_reducible assumption | rfl | ((with_reducible apply SqL.of); assumption) | ((with_reducible apply SqT.of); assumption) | ((with_reducible apply OwnC.cl); assumption) | (with_reducible exact isI_int _) | exact within_args | (with_reducible exact upd_same) | ((with_reducible apply Mid.o); assumption) | ((with_reducible apply Mid.t); assumption) | exact .inl ⟨rfl, _, SqL.of (by assumption)⟩ | (with_reducible exact ⟨_, SqT.of (by assumption)⟩) | (with_reducible exact ⟨_, SqL.of (by assumption)⟩) | omega | exact Nat.le_of_ble_eq_true rfl | exact nat9 (by omega) | exact ⟨_, rfl⟩ | (show _ ≤ sizeLine; decide) | exact ⟨by decide, by decide, by decide⟩ | exact .inl ⟨by decide, by decide⟩ | exact .inl ⟨by omega, by omega⟩ | exact .inr ⟨by omega, by omega⟩ | assumption | fail) | ((with_reducible refine iteF' ?_ ?_); first | rfl | exact decide_eq_false (by omega) | exact in_no (by omega) (by omega) | exact in_no (by omega) (by assumption) | (simp <;> fail) | fail) | ((with_reducible refine iteT' ?_ ?_); first | rfl | exact decide_eq_true (by omega) | (simp <;> fail) | fail))
              clear is4 hx4 f46 hx1 f16
              intro tq h_tq; have np_tq := M.pD h_tq; have nb_tq := M.bD h_tq; generalize hE : upd _ tq _ = H12; obtain ⟨S_tq, g_tq⟩ := new_facts h_tq hE; clear hE; replace M := M.same S_tq; replace is1 := is1.same S_tq; replace is2 := is2.same S_tq
              repeat (first | (refine eq_tup O_Store is1 g_tq ⟨_, rfl, ?_⟩) | (with_reducible refine st_tC ?_) | (with_reducible refine st_tOp ?_) | ((with_reducible apply st_n); rfl; rfl; (first | trivial | (show _ ≤ _; omega) | (show _ < _; omega) | (show _ ∨ _; omega) | assumption | exact ⟨by assumption, by omega⟩ | exact ⟨W30.one, by omega⟩ | fail); rfl) | (with_reducible refine st_i0 rfl rfl rfl ?_) | ((with_reducible refine st_i rfl rfl ?_ rfl ?_); first | omega | exact ⟨by decide, by decide, by decide⟩ | exact .inl ⟨by decide, by decide⟩ | exact .inl ⟨by omega, by omega⟩ | exact .inr ⟨by omega, by omega⟩ | fail) | ((fail_if_success refine Exists.intro (α := Nat → Nat → L2.St → Hp → Prop) ?_ ?_); (fail_if_success refine Exists.intro (α := L2.St → Hp → Prop) ?_ ?_); (fail_if_success refine Exists.intro (α := Nat → L2.St → Hp → Prop) ?_ ?_); apply Exists.intro) | ((refine And.intro ?_ ?_); first | with_reducible rfl | with_reducible assumption | rfl | ((with_reducible apply SqL.of); assumption) | ((with_reducible apply SqT.of); assumption) | ((with_reducible apply OwnC.cl); assumption) | (with_reducible exact isI_int _) | exact within_args | (with_reducible exact upd_same) | ((with_reducible apply Mid.o); assumption) | ((with_reducible apply Mid.t); assumption) | exact .inl ⟨rfl, _, SqL.of (by assumption)⟩ | (with_reducible exact ⟨_, SqT.of (by assumption)⟩) | (with_reducible exact ⟨_, SqL.of (by assumption)⟩) | omega | exact Nat.le_of_ble_eq_true rfl | exact nat9 (by omega) | exact ⟨_, rfl⟩ | (show _ ≤ sizeLine; decide) | exact ⟨by decide, by decide, by decide⟩ | exact .inl ⟨by decide, by decide⟩ | exact .inl ⟨by omega, by omega⟩ | exact .inr ⟨by omega, by omega⟩ | assumption | fail) | ((with_reducible refine iteF' ?_ ?_); first | rfl | exact decide_eq_false (by omega) | exact in_no (by omega) (by omega) | exact in_no (by omega) (by assumption) | (simp <;> fail) | fail) | ((with_reducible refine iteT' ?_ ?_); first | rfl | exact decide_eq_true (by omega) | (simp <;> fail) | fail))
              clear g_tq S_tq h_tq
              intro s5 dx nx ndx nex
              refine make_st ok nx ndx fun H13 S13 is5 => ?_
              replace M := M.same S13; replace is1 := is1.same S13; replace is2 := is2.same S13
              clear S13 nx ndx nex dx
              repeat (first | (refine eq_st is1 is5 (fun bn en => ⟨_, rfl, ?_⟩)) | (with_reducible refine st_tC ?_) | (with_reducible refine st_tOp ?_) | ((with_reducible apply st_n); rfl; rfl; (first | trivial | (show _ ≤ _; omega) | (show _ < _; omega) | (show _ ∨ _; omega) | assumption | exact ⟨by assumption, by omega⟩ | exact ⟨W30.one, by omega⟩ | fail); rfl) | (with_reducible refine st_i0 rfl rfl rfl ?_) | ((with_reducible refine st_i rfl rfl ?_ rfl ?_); first | omega | exact ⟨by decide, by decide, by decide⟩ | exact .inl ⟨by decide, by decide⟩ | exact .inl ⟨by omega, by omega⟩ | exact .inr ⟨by omega, by omega⟩ | fail) | ((fail_if_success refine Exists.intro (α := Nat → Nat → L2.St → Hp → Prop) ?_ ?_); (fail_if_success refine Exists.intro (α := L2.St → Hp → Prop) ?_ ?_); (fail_if_success refine Exists.intro (α := Nat → L2.St → Hp → Prop) ?_ ?_); apply Exists.intro) | ((refine And.intro ?_ ?_); first | with_reducible rfl | with_reducible assumption | rfl | ((with_reducible apply SqL.of); assumption) | ((with_reducible apply SqT.of); assumption) | ((with_reducible apply OwnC.cl); assumption) | (with_reducible exact isI_int _) | exact within_args | (with_reducible exact upd_same) | ((with_reducible apply Mid.o); assumption) | ((with_reducible apply Mid.t); assumption) | exact .inl ⟨rfl, _, SqL.of (by assumption)⟩ | (with_reducible exact ⟨_, SqT.of (by assumption)⟩) | (with_reducible exact ⟨_, SqL.of (by assumption)⟩) | omega | exact Nat.le_of_ble_eq_true rfl | exact nat9 (by omega) | exact ⟨_, rfl⟩ | (show _ ≤ sizeLine; decide) | exact ⟨by decide, by decide, by decide⟩ | exact .inl ⟨by decide, by decide⟩ | exact .inl ⟨by omega, by omega⟩ | exact .inr ⟨by omega, by omega⟩ | assumption | fail) | ((with_reducible refine iteF' ?_ ?_); first | rfl | exact decide_eq_false (by omega) | exact in_no (by omega) (by omega) | exact in_no (by omega) (by assumption) | (simp <;> fail) | fail) | ((with_reducible refine iteT' ?_ ?_); first | rfl | exact decide_eq_true (by omega) | (simp <;> fail) | fail))
              rw [en, decide_eq_true ⟨rfl, rfl, rfl⟩]
              refine iteT ?_
              clear en bn is5
              obtain ⟨dx2, fs2, hx2, _, _, f23, _⟩ := id is2
              repeat (first | (refine eq_st is1 is2 (fun bn en => ?_)) | (with_reducible refine st_tC ?_) | (with_reducible refine st_tOp ?_) | ((with_reducible apply st_n); rfl; rfl; (first | trivial | (show _ ≤ _; omega) | (show _ < _; omega) | (show _ ∨ _; omega) | assumption | exact ⟨by assumption, by omega⟩ | exact ⟨W30.one, by omega⟩ | fail); rfl) | (with_reducible refine st_i0 rfl rfl rfl ?_) | ((with_reducible refine st_i rfl rfl ?_ rfl ?_); first | omega | exact ⟨by decide, by decide, by decide⟩ | exact .inl ⟨by decide, by decide⟩ | exact .inl ⟨by omega, by omega⟩ | exact .inr ⟨by omega, by omega⟩ | fail) | ((fail_if_success refine Exists.intro (α := Nat → Nat → L2.St → Hp → Prop) ?_ ?_); (fail_if_success refine Exists.intro (α := L2.St → Hp → Prop) ?_ ?_); (fail_if_success refine Exists.intro (α := Nat → L2.St → Hp → Prop) ?_ ?_); apply Exists.intro) | ((refine And.intro ?_ ?_); first | with_reducible rfl | with_reducible assumption | rfl | ((with_reducible apply SqL.of); assumption) | ((with_reducible apply SqT.of); assumption) | ((with_reducible apply OwnC.cl); assumption) | (with_reducible exact isI_int _) | exact within_args | (with_reducible exact upd_same) | ((with_reducible apply Mid.o); assumption) | ((with_reducible apply Mid.t); assumption) | exact .inl ⟨rfl, _, SqL.of (by assumption)⟩ | (with_reducible exact ⟨_, SqT.of (by assumption)⟩) | (with_reducible exact ⟨_, SqL.of (by assumption)⟩) | omega | exact Nat.le_of_ble_eq_true rfl | exact nat9 (by omega) | exact ⟨_, rfl⟩ | (show _ ≤ sizeLine; decide) | exact ⟨by decide, by decide, by decide⟩ | exact .inl ⟨by decide, by decide⟩ | exact .inl ⟨by omega, by omega⟩ | exact .inr ⟨by omega, by omega⟩ | assumption | fail) | ((with_reducible refine iteF' ?_ ?_); first | rfl | exact decide_eq_false (by omega) | exact in_no (by omega) (by omega) | exact in_no (by omega) (by assumption) | (simp <;> fail) | fail) | ((with_reducible refine iteT' ?_ ?_); first | rfl | exact decide_eq_true (by omega) | (simp <;> fail) | fail))
              have eb : bn = decide (V.int (mo : Int) = V.int (m : Int)) := by
                rw [en]
                refine decide_eq_decide.mpr ⟨fun z => by rw [z.2.2], fun z => ⟨rfl, rfl, ?_⟩⟩
                have := V.int.inj z
                omega
              rw [eb]
              refine iteT' (decide_eq_true rfl) ?_
              clear eb en bn hx2 f23
              repeat (first | (refine .inl ⟨_, rfl, ?_⟩) | (with_reducible refine st_tC ?_) | (with_reducible refine st_tOp ?_) | ((with_reducible apply st_n); rfl; rfl; (first | trivial | (show _ ≤ _; omega) | (show _ < _; omega) | (show _ ∨ _; omega) | assumption | exact ⟨by assumption, by omega⟩ | exact ⟨W30.one, by omega⟩ | fail); rfl) | (with_reducible refine st_i0 rfl rfl rfl ?_) | ((with_reducible refine st_i rfl rfl ?_ rfl ?_); first | omega | exact ⟨by decide, by decide, by decide⟩ | exact .inl ⟨by decide, by decide⟩ | exact .inl ⟨by omega, by omega⟩ | exact .inr ⟨by omega, by omega⟩ | fail) | ((fail_if_success refine Exists.intro (α := Nat → Nat → L2.St → Hp → Prop) ?_ ?_); (fail_if_success refine Exists.intro (α := L2.St → Hp → Prop) ?_ ?_); (fail_if_success refine Exists.intro (α := Nat → L2.St → Hp → Prop) ?_ ?_); apply Exists.intro) | ((refine And.intro ?_ ?_); first | with_reducible rfl | with_reducible assumption | rfl | ((with_reducible apply SqL.of); assumption) | ((with_reducible apply SqT.of); assumption) | ((with_reducible apply OwnC.cl); assumption) | (with_reducible exact isI_int _) | exact within_args | (with_reducible exact upd_same) | ((with_reducible apply Mid.o); assumption) | ((with_reducible apply Mid.t); assumption) | exact .inl ⟨rfl, _, SqL.of (by assumption)⟩ | (with_reducible exact ⟨_, SqT.of (by assumption)⟩) | (with_reducible exact ⟨_, SqL.of (by assumption)⟩) | omega | exact Nat.le_of_ble_eq_true rfl | exact nat9 (by omega) | exact ⟨_, rfl⟩ | (show _ ≤ sizeLine; decide) | exact ⟨by decide, by decide, by decide⟩ | exact .inl ⟨by decide, by decide⟩ | exact .inl ⟨by omega, by omega⟩ | exact .inr ⟨by omega, by omega⟩ | assumption | fail) | ((with_reducible refine iteF' ?_ ?_); first | rfl | exact decide_eq_false (by omega) | exact in_no (by omega) (by omega) | exact in_no (by omega) (by assumption) | (simp <;> fail) | fail) | ((with_reducible refine iteT' ?_ ?_); first | rfl | exact decide_eq_true (by omega) | (simp <;> fail) | fail))
              intro s6 dx nx ndx nex
              rw [show ((1 : Int) + (s' : Int) % 48) = ((1 + s' % 48 : Nat) : Int) by omega]
              refine make_st (s := 1 + s' % 48) ⟨ok.c1, ok.c2, by omega, by omega, ok.m1, ok.m2, ok.mc⟩ nx ndx fun H14 S14 is6 => ?_
              replace M := M.same S14; replace is1 := is1.same S14
              repeat (first | (refine ne_st is1 is6 (fun bn en => ?_)) | (with_reducible refine st_tC ?_) | (with_reducible refine st_tOp ?_) | ((with_reducible apply st_n); rfl; rfl; (first | trivial | (show _ ≤ _; omega) | (show _ < _; omega) | (show _ ∨ _; omega) | assumption | exact ⟨by assumption, by omega⟩ | exact ⟨W30.one, by omega⟩ | fail); rfl) | (with_reducible refine st_i0 rfl rfl rfl ?_) | ((with_reducible refine st_i rfl rfl ?_ rfl ?_); first | omega | exact ⟨by decide, by decide, by decide⟩ | exact .inl ⟨by decide, by decide⟩ | exact .inl ⟨by omega, by omega⟩ | exact .inr ⟨by omega, by omega⟩ | fail) | ((fail_if_success refine Exists.intro (α := Nat → Nat → L2.St → Hp → Prop) ?_ ?_); (fail_if_success refine Exists.intro (α := L2.St → Hp → Prop) ?_ ?_); (fail_if_success refine Exists.intro (α := Nat → L2.St → Hp → Prop) ?_ ?_); apply Exists.intro) | ((refine And.intro ?_ ?_); first | with_reducible rfl | with_reducible assumption | rfl | ((with_reducible apply SqL.of); assumption) | ((with_reducible apply SqT.of); assumption) | ((with_reducible apply OwnC.cl); assumption) | (with_reducible exact isI_int _) | exact within_args | (with_reducible exact upd_same) | ((with_reducible apply Mid.o); assumption) | ((with_reducible apply Mid.t); assumption) | exact .inl ⟨rfl, _, SqL.of (by assumption)⟩ | (with_reducible exact ⟨_, SqT.of (by assumption)⟩) | (with_reducible exact ⟨_, SqL.of (by assumption)⟩) | omega | exact Nat.le_of_ble_eq_true rfl | exact nat9 (by omega) | exact ⟨_, rfl⟩ | (show _ ≤ sizeLine; decide) | exact ⟨by decide, by decide, by decide⟩ | exact .inl ⟨by decide, by decide⟩ | exact .inl ⟨by omega, by omega⟩ | exact .inr ⟨by omega, by omega⟩ | assumption | fail) | ((with_reducible refine iteF' ?_ ?_); first | rfl | exact decide_eq_false (by omega) | exact in_no (by omega) (by omega) | exact in_no (by omega) (by assumption) | (simp <;> fail) | fail) | ((with_reducible refine iteT' ?_ ?_); first | rfl | exact decide_eq_true (by omega) | (simp <;> fail) | fail))
              rw [en, decide_eq_false (fun z => by have := z.2.1; have := ok.s1; omega)]
              exact k _ (M.mono (by omega))
    obtain ⟨t, h1, h2⟩ := t0
    exact ⟨t, h1.nox, h2⟩
end
end K53
/-! A call of a variable that holds one of some defs, all of which keep one promise. -/
namespace OB
open PySem PySem.Spec PyProof.Rows L2
def AskOk (P : Program) (w : World) (K : PySem.W.Frag) (mg : Str → Option Value) (base : Heap) (CX : CXT) (k : Nat) (f : Addr) (sp : Sp) : Prop :=
  ∃ (fd : FuncData) (ps : List Str), FnOk P w K mg base CX k f fd ps sp ∧ L2.Binds K fd ps [] ∧ PySem.W.keepIn K (.ref f) = true
theorem askOk_of {P : Program} {w : World} {K : PySem.W.Frag} {mg : Str → Option Value} {base : Heap} {CX : CXT} {j k : Nat} {f : Addr} {fd : FuncData} {ps : List Str} {sp sp' : Sp} (F : FnOk P w K mg base CX j f fd ps sp') (h : ∀ vs H Q E, sp vs H Q E → sp' vs H Q E) (hj : j ≤ k)
    (b : L2.Binds K fd ps []) (kp : PySem.W.keepIn K (.ref f) = true) : AskOk P w K mg base CX k f sp :=
  ⟨fd, ps, ⟨fun vs H Q E z => F.len _ _ _ _ (h _ _ _ _ z), fun A outer s H args us vs Q E hr e0 hb r hs => F.run A outer s H args us vs Q E (hr.mono hj) e0 hb r (h _ _ _ _ hs)⟩, b, kp⟩
section
variable {X : Cx} {CX : CXT} {k i : Nat} {L : List Addr} {sp : Sp} {E : L2.St → XK} {x : Str} {p pos : Pos} {e : Expr} {es : List Expr} {t : TA}
def tCallVs (L : List Addr) (i : Nat) (sp : Sp) (E : L2.St → XK) (t : TA) : TE := fun σ H Q => ∃ f ∈ L, σ[i]? = some (some (.ref f)) ∧ t σ H fun vs H1 => sp vs H1 Q (E σ)
theorem pe_callVs (F : ∀ f ∈ L, AskOk X.prog X.w X.K X.mg X.base CX k f sp) (hr : Room k X.A) (hx : ∀ σ, PassesAt CX X σ (E σ)) (hN : X.N[i]? = some x) (hv : Vis X.env.scope x) (ha : PA X (e :: es) t)
    (hd : (x == ("__debug__" : Str)) = false := by decide) (hcd : (x == ("__classdict__" : Str)) = false := by decide)
    (he : starEach (e :: es) X.env = (false, eval e X.env) :: starEach es X.env := by rfl) (hpl : (backTo pos (starEach es X.env)).any (·.1) = false := by rfl) : PE X (.Call (.Name x p) (e :: es) [] pos) (tCallVs L i sp E t) := by
  refine ⟨fun pins s σ H Q I h => ?_⟩
  obtain ⟨f, hf, hs, h⟩ := h
  obtain ⟨fd, ps, G, b, kp⟩ := F f hf
  refine wpAny_Call_Name_kw (thn ((pe_var (pos := p) (i := i) hN hv hd hcd).run pins s σ H (fun v H1 => v = .ref f ∧ H1 = H) I ⟨.ref f, hs, rfl, rfl⟩) fun u s1 ⟨v, H1, I1, r1, ev, eH⟩ => ?_)
  subst ev
  rw [eH] at I1
  cases r1
  refine PySem.W.callWith_K (h₀ := X.base) I.ok.mod.kin kp (thn (ha.run pos pins s1 σ H _ I1 h) fun us s2 ⟨vs, H2, I2, r, q⟩ => ⟨I2.kIn, ?_⟩) he hpl
  exact run_fnS G hr b (hx σ) I2 r q
end
end OB
namespace K53
open PySem PySem.Spec PyProof.Rows L2 OB SkE LamX ClX
/-- all stays but the draws' own list and the tables -/
structure KpS (p : Addr) (H0 H : Hp) : Prop where
  k : ∀ q o, H0 q = some o → q ≠ p → (∀ ps, o ≠ .tbl ps) → H q = some o
theorem KpS.refl {p : Addr} {H : Hp} : KpS p H H := ⟨fun _ _ e _ _ => e⟩
theorem KpS.same {p : Addr} {H0 H H' : Hp} (a : KpS p H0 H) (s : Same H H') : KpS p H0 H' := ⟨fun q o e n t => s _ _ (a.k q o e n t)⟩
theorem KpS.but {p : Addr} {H0 H H' : Hp} {xs : List V} (a : KpS p H0 H) (s : But p H H') (_ : H p = some (.lst xs)) : KpS p H0 H' := ⟨fun q o e n t => s _ _ (a.k q o e n t) n⟩
theorem KpS.ext {p : Addr} {H0 H H' : Hp} (a : KpS p H0 H) (s : ExtN H H') : KpS p H0 H' := ⟨fun q o e n t => s _ _ (a.k q o e n t) t⟩
theorem mono_Vs {L : List Addr} {i : Nat} {sp : Sp} {t : TA} (hs : SpMono sp) (ht : MTA t) : ∀ σ : L2.St, MonoL fun E H' Q' => tCallVs L i sp (WE fun cls d _ H => E cls d H) t σ H' Q' :=
  fun σ E1 E2 H Q1 Q2 hE hQ ⟨f, hf, ef, z⟩ => ⟨f, hf, ef, ht σ H _ _ (fun vs H1 z1 => hs _ _ _ _ _ _ (fun c d H => hE c d H) (fun v H => hQ v H) z1) z⟩
def MTT (t : L2.TT) : Prop := ∀ σ H (Q1 Q2 : Bool → Hp → Prop), (∀ v H, Q1 v H → Q2 v H) → t σ H Q1 → t σ H Q2
theorem mtt_b {t : TE} (h : MTE t) : MTT (tB t) := fun σ H Q1 Q2 k z => h σ H _ _ (fun x H1 ⟨c, e, q⟩ => ⟨c, e, k _ _ q⟩) z
theorem mtt_not {t : L2.TT} (h : MTT t) : MTT (tNot t) := fun σ H Q1 Q2 k z => h σ H _ _ (fun c H1 q => k _ _ q) z
theorem mte_if {t : L2.TT} {a b : TE} (h : MTT t) (ha : MTE a) (hb : MTE b) : MTE (tIf t a b) := fun σ H Q1 Q2 k z => h σ H _ _ (fun c H1 q => by
  cases c with
  | true => exact ha σ H1 _ _ k q
  | false => exact hb σ H1 _ _ k q) z
theorem mono_isi {K : PySem.W.Frag} : RMono (rIsi K) := fun vs H Q1 Q2 h ⟨x, c, t, u, b, e1, e2, e3, e4, k⟩ => ⟨x, c, t, u, b, e1, e2, e3, e4, h _ _ k⟩
theorem refs_of {L : List Addr} {i : Nat} {x : V} (h : (L.map V.ref)[i]? = some x) : ∃ g, x = .ref g ∧ g ∈ L := by
  rw [List.getElem?_map] at h
  cases e : L[i]? with
  | none => rw [e] at h; cases h
  | some g => rw [e] at h; exact ⟨g, (Option.some.inj h).symm, List.mem_of_getElem? e⟩
def spLaw (K : PySem.W.Frag) (Pa Pb : Addr) : Sp := fun vs H Q _ => ∃ (a : Addr) (ns : List Int), vs = [.ref a] ∧ SqL K H a (ns.map V.int) ∧ ns.length ≤ 63 ∧ (H Pa = some (.tbl #[]) ∧ H Pb = some (.tbl #[])) ∧ ∀ H', Q (.bl true) H'
section
variable {P : Program} {w : World} {K : PySem.W.Frag} {mg : Str → Option Value} {base : Heap}
theorem sc_law : FnScope ["script", "shed", "turn", "text", "due", "odd", "ask", "heard"] ["script"] (defScope s_law) := ⟨rfl, rfl, rfl, by decide +kernel, rfl, by decide +kernel, by decide +kernel⟩
abbrev N_law : List Str := ["script", "shed", "turn", "text", "due", "odd", "ask", "heard"]
theorem ok_law {f f1 f2 f3 f4 f5 f6 f7 f11 f12 f13 f14 f15 f16 f17 f18 f19 f20 fI fR pR fS C CF CC CT c Pa Pb : Addr} {fd1 fd2 fd3 fd4 fd5 fd6 fd7 fd11 fd12 fd13 fd14 fd15 fd16 fd17 fd18 fd19 fd20 fdR fdS : FuncData} {mc : Value} {oc kV doc pm ct : Value} {od an : Option Addr} {osl : Array (Option Value)} (T : Blt mg)
    (lk : K.lookup f = some ⟨oc, od, .func (PySem.W.fnOf "law" "law" (defArgs s_law) (defBody s_law) (defScope s_law) .none kV doc pm an (.ref c) ct), osl⟩) (hcd : PySem.W.codeIn K (.ref c) "law" = true)
    (TB : TabB base mg c Pb) (hu : ∀ p ∈ TB2 Pa Pb, p.1 = Pb → p.2 = LQb) (Z : Kinds K mg CF CC CT) (O_Store : OwnC K mg "Store" C fI)
    (D__law_shed : Df K mg "_law_shed" s__law_shed ["script"] f1 fd1) (G__law_shed : FnOk P w K mg base CX0 1 f1 fd1 ["script"] (spLot K)) (D__law_made_right : Df K mg "_law_made_right" s__law_made_right ["shed"] f2 fd2) (G__law_made_right : FnG P w K mg base CX0 14 f2 fd2 ["shed"] (spStep (TB2 Pa Pb) 20)) (D__law_bent : Df K mg "_law_bent" s__law_bent ["shed"] f3 fd3) (G__law_bent : FnOk P w K mg base CX0 3 f3 fd3 ["shed"] spBent) (D__law_due : Df K mg "_law_due" s__law_due ["items"] f4 fd4) (G__law_due : FnOk P w K mg base CX0 2 f4 fd4 ["items"] spDue)
    (D__law_heard : Df K mg "_law_heard" s__law_heard ["ask"] f5 fd5) (D__law_hang : Df K mg "_law_hang" s__law_hang ["shed", "many"] f6 fd6) (D__law_pick : Df K mg "_law_pick" s__law_pick ["shed", "some"] f7 fd7) (D_values_in : Df K mg "values_in" s_values_in ["store", "word"] f11 fd11) (GX_values_in : FnOk P w K mg base (L2.CX P w) 4 f11 fd11 ["store", "word"] (spRef2 K C CC)) (D_is_open : Df K mg "is_open" s_is_open ["store", "word"] f12 fd12) (GX_is_open : FnOk P w K mg base (L2.CX P w) 4 f12 fd12 ["store", "word"] (spRef2 K C CC)) (D_rows_in : Df K mg "rows_in" s_rows_in ["store", "word"] f13 fd13) (GX_rows_in : FnOk P w K mg base (L2.CX P w) 4 f13 fd13 ["store", "word"] (spRef2 K C CC)) (D_mend_plan : Df K mg "mend_plan" s_mend_plan ["store", "word"] f14 fd14) (GX_mend_plan : FnOk P w K mg base (L2.CX P w) 4 f14 fd14 ["store", "word"] (spRef2 K C CC)) (D_word_for : Df K mg "word_for" s_word_for ["store", "values"] f15 fd15) (GX_word_for : FnOk P w K mg base (L2.CX P w) 4 f15 fd15 ["store", "values"] (spRef2 K C CC)) (D_counting_in : Df K mg "counting_in" s_counting_in ["store", "word"] f16 fd16) (GX_counting_in : FnOk P w K mg base (L2.CX P w) 6 f16 fd16 ["store", "word"] (spRef2 K C CC)) (D_deed_plan : Df K mg "deed_plan" s_deed_plan ["store", "word", "deed"] f17 fd17) (GX_deed_plan : FnOk P w K mg base (L2.CX P w) 5 f17 fd17 ["store", "word", "deed"] (spRef3 K C CC)) (D_done_in : Df K mg "done_in" s_done_in ["store", "word", "deed"] f18 fd18) (GX_done_in : FnOk P w K mg base (L2.CX P w) 4 f18 fd18 ["store", "word", "deed"] (spRef3 K C CC)) (D_is_plain : Df K mg "is_plain" s_is_plain ["store", "word", "phase"] f19 fd19) (GX_is_plain : FnOk P w K mg base (L2.CX P w) 4 f19 fd19 ["store", "word", "phase"] (spRef3 K C CC)) (D_shows_whole : Df K mg "shows_whole" s_shows_whole ["store", "word", "deed", "value"] f20 fd20) (GX_shows_whole : FnOk P w K mg base (L2.CX P w) 5 f20 fd20 ["store", "word", "deed", "value"] (spRef4 K C CC))
    (RD_Store : CRead K C mc) (SM_Store_read : CStat K C mc "read" pR fR) (b_Store_read : L2.Binds K fdR ["text"] []) (GX_Store_read : FnOk P w K mg base (L2.CX P w) 6 fR fdR ["text"] (spStoreRead K C CT)) (ST_Store : OwnStrC K C fS) (b_Store_str : L2.Binds K fdS ["self"] []) (G_Store_str : FnOk P w K mg base CX0 1 fS fdS ["self"] (spStoreStr C)) :
    FnG P w K mg base CX0 16 f (PySem.W.fnOf "law" "law" (defArgs s_law) (defBody s_law) (defScope s_law) .none kV doc pm an (.ref c) ct) ["script"] (spLaw K Pa Pb) := by
  have G__law_pick : FnOk P w K mg base CX0 2 f7 fd7 ["shed", "some"] spOne := ok__law_pick D__law_pick.F T D__law_hang
  have G_Store_read := calm_of GX_Store_read
  have asks2 : ∀ g ∈ [f11, f12, f13, f14, f15, f16], AskOk P w K mg base (L2.CX P w) 6 g (spRef2 K C CC) := fun g hg => by
    simp only [List.mem_cons, List.not_mem_nil, or_false] at hg
    rcases hg with rfl | rfl | rfl | rfl | rfl | rfl
    · exact askOk_of GX_values_in (fun _ _ _ _ z => z) (by decide) D_values_in.b D_values_in.F.kp
    · exact askOk_of GX_is_open (fun _ _ _ _ z => z) (by decide) D_is_open.b D_is_open.F.kp
    · exact askOk_of GX_rows_in (fun _ _ _ _ z => z) (by decide) D_rows_in.b D_rows_in.F.kp
    · exact askOk_of GX_mend_plan (fun _ _ _ _ z => z) (by decide) D_mend_plan.b D_mend_plan.F.kp
    · exact askOk_of GX_word_for (fun _ _ _ _ z => z) (by decide) D_word_for.b D_word_for.F.kp
    · exact askOk_of GX_counting_in (fun _ _ _ _ z => z) (by decide) D_counting_in.b D_counting_in.F.kp
  have asks3 : ∀ g ∈ [f17, f18, f19], AskOk P w K mg base (L2.CX P w) 6 g (spRef3 K C CC) := fun g hg => by
    simp only [List.mem_cons, List.not_mem_nil, or_false] at hg
    rcases hg with rfl | rfl | rfl
    · exact askOk_of GX_deed_plan (fun _ _ _ _ z => z) (by decide) D_deed_plan.b D_deed_plan.F.kp
    · exact askOk_of GX_done_in (fun _ _ _ _ z => z) (by decide) D_done_in.b D_done_in.F.kp
    · exact askOk_of GX_is_plain (fun _ _ _ _ z => z) (by decide) D_is_plain.b D_is_plain.F.kp
  obtain ⟨ocH, odH, kVH, docH, pmH, anH, cdvH, ctH, oslH, eH, lkH, hcH⟩ := D__law_heard.F.ex
  subst eH
  refine fnG_of lk hcd sc_law (fun vs H Q E h => ?_) fun A outer s H vs Q E hgd hr h => ?_
  · obtain ⟨a, ns, rfl, _⟩ := h
    rfl
  · obtain ⟨a, ns, rfl, hS, hl, ⟨hPa, hPb⟩, k⟩ := h
    have t0 : ∃ t, PSs (cxOf CX0 P w K mg base ["script", "shed", "turn", "text", "due", "odd", "ask", "heard"] "law" (defScope s_law) f (.ref c) A outer s H E).nox (defBody s_law) t ∧ t { nx := fun _ H' => Q .non H', rt := Q } (L2.start ["script", "shed", "turn", "text", "due", "odd", "ask", "heard"] [.ref a]) H := by
      refine ⟨_, (pss_cons (ps_set (i := 1) sc_law.nd rfl (Or.inl rfl) (pe_call G__law_shed (hr.mono (by decide)) (by rfl) D__law_shed.g D__law_shed.F.kp D__law_shed.b .nil pass0 (pa_cons (pv 0) pa_nil)))
  (pss_cons (ps_for PassesOwn.never rfl (pi_range1 (by rfl) T.n_range (pa_cons pe_int pa_nil)) (pg_name (i := 2) sc_law.nd rfl (Or.inl rfl)) (pss_cons (ps_if (pt_not (pt_val (pe_callG G__law_made_right hgd (hr.mono (by decide)) (by rfl) D__law_made_right.g D__law_made_right.F.kp D__law_made_right.b .nil pass0 (pa_cons (pv 1) pa_nil)))) (pss_one (ps_ret pe_bl)) pss_nil)
  (pss_cons (ps_set (i := 3) sc_law.nd rfl (Or.inr rfl) (pe_call G__law_bent (hr.mono (by decide)) (by rfl) D__law_bent.g D__law_bent.F.kp D__law_bent.b .nil pass0 (pa_cons (pv 1) pa_nil)))
  (pss_cons (ps_set (i := 4) sc_law.nd rfl (Or.inl rfl) (pe_call G__law_due (hr.mono (by decide)) (by rfl) D__law_due.g D__law_due.F.kp D__law_due.b .nil pass0 (pa_cons (pe_split (pv 3) pe_str) pa_nil)))
  (pss_one (ps_if (PW.pt (pw_or (PW.pt (pw_and (pt_cmpR op_isN (pv 4) pe_non (nomark _)) (pw_and1 (pt_cmpR op_ne (pe_callTy (call_strO G_Store_str ST_Store b_Store_str pass0 (hr.mono (by decide))) (by rfl) T.n_str (by decide +kernel) (pa_cons (pe_smeth (pl := _) (pe_glob (v := .ref _) (by rfl) O_Store.g rfl) RD_Store SM_Store_read G_Store_read (hr.mono (by decide)) b_Store_read pass0 (pa_cons (pv 3) pa_nil)) pa_nil)) (pv 3) (nomark _))))) (pw_or1 (PW.pt (pw_and (pt_cmpR op_notN (pv 4) pe_non (nomark _)) (pw_and1 (pt_cmpR (op_neD hr.units) (pe_lam (T := TB2 Pa Pb) (vs := []) (TT := TTheard CC CT) (k := 9) (nm := []) (dts := []) (t := fun E => tSMethS C (spStoreRead K C CT) (WE fun cls d _ H => E cls d H) (tC (.ref C)) (tCons (tVar 3) tNil)) (by rfl) D__law_heard.g D__law_heard.F.kp lkH hcH D__law_heard.b sc__law_heard rfl (Or.inl rfl) (heard_gives Z T) TB rfl (List.mem_cons_of_mem _ List.mem_cons_self) hu (hr.mono (by decide)) (lamN_by (sc := defScope s_law) (N := N_law) (by decide +kernel)) (.inl ⟨rfl, rfl⟩) (bind_0 fun _ _ _ _ _ _ _ => rfl) (mono_SS read_mono mte_c (mta_cons mte_var mta_nil)) pa_nil (fun _ _ _ => rfl) rfl (fun A outer s H E f c' hr2 => pe_smethS (pl := _) (pe_glob (v := .ref _) (by rfl) O_Store.g rfl) RD_Store SM_Store_read GX_Store_read (hr2.mono (by decide)) b_Store_read (fun σ => passAt (takes_of rfl rfl rfl rfl) σ) (pa_cons (pv 3) pa_nil))) (pe_tup (pa_cons pe_str (pa_cons pe_int (pa_cons (pv 4) pa_nil)))) (nomark _)))))))) (pss_one (ps_ret pe_bl)) pss_nil))))))
  (pss_cons (ps_set (i := 5) sc_law.nd rfl (Or.inr rfl) (pe_call G__law_pick (hr.mono (by decide)) (by rfl) D__law_pick.g D__law_pick.F.kp D__law_pick.b .nil pass0 (pa_cons (pv 1) (pa_cons (pe_lst (pa_cons pe_non (pa_cons pe_int (pa_cons (pe_tup (pa_cons pe_int (pa_cons pe_int (pa_cons pe_int pa_nil)))) (pa_cons pe_str (pa_cons pe_bl (pa_cons (pe_lst (pa_cons pe_int pa_nil)) pa_nil))))))) pa_nil))))
  (pss_cons (ps_for PassesOwn.never rfl (pi_tup (pe_tup (pa_cons (pe_glob (v := .ref _) (by rfl) D_values_in.g rfl) (pa_cons (pe_glob (v := .ref _) (by rfl) D_is_open.g rfl) (pa_cons (pe_glob (v := .ref _) (by rfl) D_rows_in.g rfl) (pa_cons (pe_glob (v := .ref _) (by rfl) D_mend_plan.g rfl) (pa_cons (pe_glob (v := .ref _) (by rfl) D_word_for.g rfl) (pa_cons (pe_glob (v := .ref _) (by rfl) D_counting_in.g rfl) pa_nil)))))))) (pg_name (i := 6) sc_law.nd rfl (Or.inr rfl)) (pss_one (ps_if (pt_cmpR (op_neD hr.units) (pe_lam (T := TB2 Pa Pb) (vs := []) (TT := TTheard CC CT) (k := 9) (nm := []) (dts := []) (t := fun E => tCallVs [f11, f12, f13, f14, f15, f16] 6 (spRef2 K C CC) (WE fun cls d _ H => E cls d H) (tCons (tVar 5) (tCons (tC .non) tNil))) (by rfl) D__law_heard.g D__law_heard.F.kp lkH hcH D__law_heard.b sc__law_heard rfl (Or.inl rfl) (heard_gives Z T) TB rfl (List.mem_cons_of_mem _ List.mem_cons_self) hu (hr.mono (by decide)) (lamN_by (sc := defScope s_law) (N := N_law) (by decide +kernel)) (.inl ⟨rfl, rfl⟩) (bind_0 fun _ _ _ _ _ _ _ => rfl) (mono_Vs ref2_mono (mta_cons mte_var (mta_cons mte_c mta_nil))) pa_nil (fun _ _ _ => rfl) rfl (fun A outer s H E f c' hr2 => pe_callVs asks2 (hr2.mono (by decide)) (fun σ => passAt (takes_of rfl rfl rfl rfl) σ) rfl (by first | exact .inl rfl | exact .inr (.inl rfl) | exact .inr (.inr rfl)) (pa_cons (pv 5) (pa_cons pe_non pa_nil)))) (pe_tup (pa_cons pe_str (pa_cons pe_str pa_nil))) (nomark _)) (pss_one (ps_ret pe_bl)) pss_nil)))
  (pss_cons (ps_for PassesOwn.never rfl (pi_tup (pe_tup (pa_cons (pe_glob (v := .ref _) (by rfl) D_deed_plan.g rfl) (pa_cons (pe_glob (v := .ref _) (by rfl) D_done_in.g rfl) (pa_cons (pe_glob (v := .ref _) (by rfl) D_is_plain.g rfl) pa_nil))))) (pg_name (i := 6) sc_law.nd rfl (Or.inr rfl)) (pss_one (ps_if (pt_cmpR (op_neD hr.units) (pe_lam (T := TB2 Pa Pb) (vs := []) (TT := TTheard CC CT) (k := 9) (nm := []) (dts := []) (t := fun E => tCallVs [f17, f18, f19] 6 (spRef3 K C CC) (WE fun cls d _ H => E cls d H) (tCons (tVar 5) (tCons (tC .non) (tCons (tC .non) tNil)))) (by rfl) D__law_heard.g D__law_heard.F.kp lkH hcH D__law_heard.b sc__law_heard rfl (Or.inl rfl) (heard_gives Z T) TB rfl (List.mem_cons_of_mem _ List.mem_cons_self) hu (hr.mono (by decide)) (lamN_by (sc := defScope s_law) (N := N_law) (by decide +kernel)) (.inl ⟨rfl, rfl⟩) (bind_0 fun _ _ _ _ _ _ _ => rfl) (mono_Vs ref3_mono (mta_cons mte_var (mta_cons mte_c (mta_cons mte_c mta_nil)))) pa_nil (fun _ _ _ => rfl) rfl (fun A outer s H E f c' hr2 => pe_callVs asks3 (hr2.mono (by decide)) (fun σ => passAt (takes_of rfl rfl rfl rfl) σ) rfl (by first | exact .inl rfl | exact .inr (.inl rfl) | exact .inr (.inr rfl)) (pa_cons (pv 5) (pa_cons pe_non (pa_cons pe_non pa_nil))))) (pe_tup (pa_cons pe_str (pa_cons pe_str pa_nil))) (nomark _)) (pss_one (ps_ret pe_bl)) pss_nil)))
  (pss_cons (ps_set (i := 7) sc_law.nd rfl (Or.inl rfl) (pe_lst (pa_cons (pe_lam (T := TB2 Pa Pb) (vs := []) (TT := TTheard CC CT) (k := 9) (nm := []) (dts := []) (t := fun E => tSMethS C (spStoreRead K C CT) (WE fun cls d _ H => E cls d H) (tC (.ref C)) (tCons (tIf (tNot (tB (tCB (rIsi K) (tCons (tVar 5) (tCons (tC (.ty "str")) tNil))))) (tVar 5) (tC .non)) tNil)) (by rfl) D__law_heard.g D__law_heard.F.kp lkH hcH D__law_heard.b sc__law_heard rfl (Or.inl rfl) (heard_gives Z T) TB rfl (List.mem_cons_of_mem _ List.mem_cons_self) hu (hr.mono (by decide)) (lamN_by (sc := defScope s_law) (N := N_law) (by decide +kernel)) (.inl ⟨rfl, rfl⟩) (bind_0 fun _ _ _ _ _ _ _ => rfl) (mono_SS read_mono mte_c (mta_cons (mte_if (mtt_not (mtt_b (mte_cb mono_isi (mta_cons mte_var (mta_cons mte_c mta_nil))))) mte_var mte_c) mta_nil)) pa_nil (fun _ _ _ => rfl) rfl (fun A outer s H E f c' hr2 => pe_smethS (pl := _) (pe_glob (v := .ref _) (by rfl) O_Store.g rfl) RD_Store SM_Store_read GX_Store_read (hr2.mono (by decide)) b_Store_read (fun σ => passAt (takes_of rfl rfl rfl rfl) σ) (pa_cons (pe_ifExp (pt_not (pt_val (pe_callB call_isi (by rfl) T.n_isinstance (by decide +kernel) (pa_cons (pv 5) (pa_cons (pe_bltn (v := .ty "str") (by rfl) T.n_str (by decide +kernel) rfl) pa_nil))))) (pv 5) pe_non) pa_nil))) pa_nil)))
  (pss_cons (ps_expr (pe_bm PySem.F.plainAttrs_list PySem.F.slot_list_append PySem.F.type_list_append mt_append (pv 7) (pa_cons (pe_lam (T := TB2 Pa Pb) (vs := []) (TT := TTheard CC CT) (k := 9) (nm := []) (dts := []) (t := fun E => tCallS (spRef4 K C CC) (WE fun cls d _ H => E cls d H) (tCons (tVar 5) (tCons (tC .non) (tCons (tC .non) (tCons (tC .non) tNil))))) (by rfl) D__law_heard.g D__law_heard.F.kp lkH hcH D__law_heard.b sc__law_heard rfl (Or.inl rfl) (heard_gives Z T) TB rfl (List.mem_cons_of_mem _ List.mem_cons_self) hu (hr.mono (by decide)) (lamN_by (sc := defScope s_law) (N := N_law) (by decide +kernel)) (.inl ⟨rfl, rfl⟩) (bind_0 fun _ _ _ _ _ _ _ => rfl) (mono_S ref4_mono (mta_cons mte_var (mta_cons mte_c (mta_cons mte_c (mta_cons mte_c mta_nil))))) pa_nil (fun _ _ _ => rfl) rfl (fun A outer s H E f c' hr2 => pe_callS GX_shows_whole (hr2.mono (by decide)) (by rfl) D_shows_whole.g D_shows_whole.F.kp D_shows_whole.b (fun σ => passAt (takes_of rfl rfl rfl rfl) σ) (pa_cons (pv 5) (pa_cons pe_non (pa_cons pe_non (pa_cons pe_non pa_nil)))))) pa_nil)))
  (pss_one (ps_ret (pe_cmpR (op_eqD hr.units) (pv 7) (pe_lst (pa_cons (pe_tup (pa_cons pe_str (pa_cons pe_int (pa_cons pe_int pa_nil)))) (pa_cons (pe_tup (pa_cons pe_str (pa_cons pe_str pa_nil))) pa_nil))) (nomark _))))))))))), ?_⟩
      refine ⟨_, rfl, a, ns, rfl, hS, hl, fun p b H1 hp hb O S1 => ?_⟩
      have M1 : Mid (TB2 Pa Pb) p b 0 H1 := ⟨O, fun x hx => by
        rcases List.mem_cons.mp hx with rfl | hx
        · exact .nil (S1 _ _ hPa)
        · rw [List.mem_singleton.mp hx]
          exact .nil (S1 _ _ hPb)⟩
      refine ⟨5, rfl, by decide, by decide, ?_⟩
      refine for_range (n := 5) (fun i σ H' => Mid (TB2 Pa Pb) p b (100 * i) H' ∧ ∃ u2 u3 u4 : Option V, σ = [some (.ref a), some (.ref p), u2, u3, u4, none, none, none]) ⟨M1, none, none, none, rfl⟩ ?_ ?_
      · rintro i σ H2 hi ⟨M, u2, u3, u4, rfl⟩
        clear S1 O M1 hS hPa hPb hp hb
        repeat (first | (with_reducible refine st_tC ?_) | (with_reducible refine st_tOp ?_) | ((with_reducible apply st_n); rfl; rfl; (first | trivial | (show _ ≤ _; omega) | (show _ < _; omega) | (show _ ∨ _; omega) | assumption | exact ⟨by assumption, by omega⟩ | exact ⟨W30.one, by omega⟩ | fail); rfl) | (with_reducible refine st_i0 rfl rfl rfl ?_) | ((with_reducible refine st_i rfl rfl ?_ rfl ?_); first | omega | exact ⟨by decide, by decide, by decide⟩ | exact .inl ⟨by decide, by decide⟩ | exact .inl ⟨by omega, by omega⟩ | exact .inr ⟨by omega, by omega⟩ | fail) | ((fail_if_success refine Exists.intro (α := Nat → Nat → L2.St → Hp → Prop) ?_ ?_); (fail_if_success refine Exists.intro (α := L2.St → Hp → Prop) ?_ ?_); (fail_if_success refine Exists.intro (α := Nat → L2.St → Hp → Prop) ?_ ?_); apply Exists.intro) | ((refine And.intro ?_ ?_); first | with_reducible rfl | with_reducible assumption | rfl | ((with_reducible apply SqL.of); assumption) | ((with_reducible apply SqT.of); assumption) | ((with_reducible apply OwnC.cl); assumption) | (with_reducible exact isI_int _) | exact within_args | (with_reducible exact upd_same) | ((with_reducible apply Mid.o); assumption) | ((with_reducible apply Mid.t); assumption) | exact .inl ⟨rfl, _, SqL.of (by assumption)⟩ | (with_reducible exact ⟨_, SqT.of (by assumption)⟩) | (with_reducible exact ⟨_, SqL.of (by assumption)⟩) | omega | exact Nat.le_of_ble_eq_true rfl | exact nat9 (by omega) | exact ⟨_, rfl⟩ | (show _ ≤ sizeLine; decide) | exact ⟨by decide, by decide, by decide⟩ | exact .inl ⟨by decide, by decide⟩ | exact .inl ⟨by omega, by omega⟩ | exact .inr ⟨by omega, by omega⟩ | assumption | fail) | ((with_reducible refine iteF' ?_ ?_); first | rfl | exact decide_eq_false (by omega) | exact in_no (by omega) (by omega) | exact in_no (by omega) (by assumption) | (simp <;> fail) | fail) | ((with_reducible refine iteT' ?_ ?_); first | rfl | exact decide_eq_true (by omega) | (simp <;> fail) | fail))
        intro H3 M
        repeat (first | (with_reducible refine st_tC ?_) | (with_reducible refine st_tOp ?_) | ((with_reducible apply st_n); rfl; rfl; (first | trivial | (show _ ≤ _; omega) | (show _ < _; omega) | (show _ ∨ _; omega) | assumption | exact ⟨by assumption, by omega⟩ | exact ⟨W30.one, by omega⟩ | fail); rfl) | (with_reducible refine st_i0 rfl rfl rfl ?_) | ((with_reducible refine st_i rfl rfl ?_ rfl ?_); first | omega | exact ⟨by decide, by decide, by decide⟩ | exact .inl ⟨by decide, by decide⟩ | exact .inl ⟨by omega, by omega⟩ | exact .inr ⟨by omega, by omega⟩ | fail) | ((fail_if_success refine Exists.intro (α := Nat → Nat → L2.St → Hp → Prop) ?_ ?_); (fail_if_success refine Exists.intro (α := L2.St → Hp → Prop) ?_ ?_); (fail_if_success refine Exists.intro (α := Nat → L2.St → Hp → Prop) ?_ ?_); apply Exists.intro) | ((refine And.intro ?_ ?_); first | with_reducible rfl | with_reducible assumption | rfl | ((with_reducible apply SqL.of); assumption) | ((with_reducible apply SqT.of); assumption) | ((with_reducible apply OwnC.cl); assumption) | (with_reducible exact isI_int _) | exact within_args | (with_reducible exact upd_same) | ((with_reducible apply Mid.o); assumption) | ((with_reducible apply Mid.t); assumption) | exact .inl ⟨rfl, _, SqL.of (by assumption)⟩ | (with_reducible exact ⟨_, SqT.of (by assumption)⟩) | (with_reducible exact ⟨_, SqL.of (by assumption)⟩) | omega | exact Nat.le_of_ble_eq_true rfl | exact nat9 (by omega) | exact ⟨_, rfl⟩ | (show _ ≤ sizeLine; decide) | exact ⟨by decide, by decide, by decide⟩ | exact .inl ⟨by decide, by decide⟩ | exact .inl ⟨by omega, by omega⟩ | exact .inr ⟨by omega, by omega⟩ | assumption | fail) | ((with_reducible refine iteF' ?_ ?_); first | rfl | exact decide_eq_false (by omega) | exact in_no (by omega) (by omega) | exact in_no (by omega) (by assumption) | (simp <;> fail) | fail) | ((with_reducible refine iteT' ?_ ?_); first | rfl | exact decide_eq_true (by omega) | (simp <;> fail) | fail))
        intro z H4 zA zL O4 B4
        replace M := M.draw O4 B4
        clear O4 B4
        have z2 : z.length + 2 ≤ sizeLine := by rw [sizeLine_eq]; omega
        have l1 : ((" " : Str).length == 0) = false := by decide +kernel
        repeat (first | (with_reducible refine st_tC ?_) | (with_reducible refine st_tOp ?_) | ((with_reducible apply st_n); rfl; rfl; (first | trivial | (show _ ≤ _; omega) | (show _ < _; omega) | (show _ ∨ _; omega) | assumption | exact ⟨by assumption, by omega⟩ | exact ⟨W30.one, by omega⟩ | fail); rfl) | (with_reducible refine st_i0 rfl rfl rfl ?_) | ((with_reducible refine st_i rfl rfl ?_ rfl ?_); first | omega | exact ⟨by decide, by decide, by decide⟩ | exact .inl ⟨by decide, by decide⟩ | exact .inl ⟨by omega, by omega⟩ | exact .inr ⟨by omega, by omega⟩ | fail) | ((fail_if_success refine Exists.intro (α := Nat → Nat → L2.St → Hp → Prop) ?_ ?_); (fail_if_success refine Exists.intro (α := L2.St → Hp → Prop) ?_ ?_); (fail_if_success refine Exists.intro (α := Nat → L2.St → Hp → Prop) ?_ ?_); apply Exists.intro) | ((refine And.intro ?_ ?_); first | with_reducible rfl | with_reducible assumption | rfl | ((with_reducible apply SqL.of); assumption) | ((with_reducible apply SqT.of); assumption) | ((with_reducible apply OwnC.cl); assumption) | (with_reducible exact isI_int _) | exact within_args | (with_reducible exact upd_same) | ((with_reducible apply Mid.o); assumption) | ((with_reducible apply Mid.t); assumption) | exact .inl ⟨rfl, _, SqL.of (by assumption)⟩ | (with_reducible exact ⟨_, SqT.of (by assumption)⟩) | (with_reducible exact ⟨_, SqL.of (by assumption)⟩) | omega | exact Nat.le_of_ble_eq_true rfl | exact nat9 (by omega) | exact ⟨_, rfl⟩ | (show _ ≤ sizeLine; decide) | exact ⟨by decide, by decide, by decide⟩ | exact .inl ⟨by decide, by decide⟩ | exact .inl ⟨by omega, by omega⟩ | exact .inr ⟨by omega, by omega⟩ | assumption | fail) | ((with_reducible refine iteF' ?_ ?_); first | rfl | exact decide_eq_false (by omega) | exact in_no (by omega) (by omega) | exact in_no (by omega) (by assumption) | (simp <;> fail) | fail) | ((with_reducible refine iteT' ?_ ?_); first | rfl | exact decide_eq_true (by omega) | (simp <;> fail) | fail))
        intro sp h_sp; have np_sp := M.pD h_sp; have nb_sp := M.bD h_sp; generalize hE : upd _ sp _ = H5; obtain ⟨S_sp, g_sp⟩ := new_facts h_sp hE; clear hE; replace M := M.same S_sp
        have hL : ∀ y ∈ Txt.split z " ", y.length ≤ 100000 ∧ MN.asc y := fun y hy => ⟨by have := MN.split_short hy; omega, MN.split_asc zA hy⟩
        repeat (first | (refine ⟨sp, _, rfl, g_sp, hL, ?_⟩) | (with_reducible refine st_tC ?_) | (with_reducible refine st_tOp ?_) | ((with_reducible apply st_n); rfl; rfl; (first | trivial | (show _ ≤ _; omega) | (show _ < _; omega) | (show _ ∨ _; omega) | assumption | exact ⟨by assumption, by omega⟩ | exact ⟨W30.one, by omega⟩ | fail); rfl) | (with_reducible refine st_i0 rfl rfl rfl ?_) | ((with_reducible refine st_i rfl rfl ?_ rfl ?_); first | omega | exact ⟨by decide, by decide, by decide⟩ | exact .inl ⟨by decide, by decide⟩ | exact .inl ⟨by omega, by omega⟩ | exact .inr ⟨by omega, by omega⟩ | fail) | ((fail_if_success refine Exists.intro (α := Nat → Nat → L2.St → Hp → Prop) ?_ ?_); (fail_if_success refine Exists.intro (α := L2.St → Hp → Prop) ?_ ?_); (fail_if_success refine Exists.intro (α := Nat → L2.St → Hp → Prop) ?_ ?_); apply Exists.intro) | ((refine And.intro ?_ ?_); first | with_reducible rfl | with_reducible assumption | rfl | ((with_reducible apply SqL.of); assumption) | ((with_reducible apply SqT.of); assumption) | ((with_reducible apply OwnC.cl); assumption) | (with_reducible exact isI_int _) | exact within_args | (with_reducible exact upd_same) | ((with_reducible apply Mid.o); assumption) | ((with_reducible apply Mid.t); assumption) | exact .inl ⟨rfl, _, SqL.of (by assumption)⟩ | (with_reducible exact ⟨_, SqT.of (by assumption)⟩) | (with_reducible exact ⟨_, SqL.of (by assumption)⟩) | omega | exact Nat.le_of_ble_eq_true rfl | exact nat9 (by omega) | exact ⟨_, rfl⟩ | (show _ ≤ sizeLine; decide) | exact ⟨by decide, by decide, by decide⟩ | exact .inl ⟨by decide, by decide⟩ | exact .inl ⟨by omega, by omega⟩ | exact .inr ⟨by omega, by omega⟩ | assumption | fail) | ((with_reducible refine iteF' ?_ ?_); first | rfl | exact decide_eq_false (by omega) | exact in_no (by omega) (by omega) | exact in_no (by omega) (by assumption) | (simp <;> fail) | fail) | ((with_reducible refine iteT' ?_ ?_); first | rfl | exact decide_eq_true (by omega) | (simp <;> fail) | fail))
        intro H6 S6
        replace M := M.same S6
        clear g_sp S_sp h_sp np_sp nb_sp S6 hL
        cases e : dueOf (Txt.split z " ") with
        | none =>
          obtain ⟨c', s', m', ok, ez, _⟩ := due_none e
          repeat (first | (with_reducible refine st_tC ?_) | (with_reducible refine st_tOp ?_) | ((with_reducible apply st_n); rfl; rfl; (first | trivial | (show _ ≤ _; omega) | (show _ < _; omega) | (show _ ∨ _; omega) | assumption | exact ⟨by assumption, by omega⟩ | exact ⟨W30.one, by omega⟩ | fail); rfl) | (with_reducible refine st_i0 rfl rfl rfl ?_) | ((with_reducible refine st_i rfl rfl ?_ rfl ?_); first | omega | exact ⟨by decide, by decide, by decide⟩ | exact .inl ⟨by decide, by decide⟩ | exact .inl ⟨by omega, by omega⟩ | exact .inr ⟨by omega, by omega⟩ | fail) | ((fail_if_success refine Exists.intro (α := Nat → Nat → L2.St → Hp → Prop) ?_ ?_); (fail_if_success refine Exists.intro (α := L2.St → Hp → Prop) ?_ ?_); (fail_if_success refine Exists.intro (α := Nat → L2.St → Hp → Prop) ?_ ?_); apply Exists.intro) | ((refine And.intro ?_ ?_); first | with_reducible rfl | with_reducible assumption | rfl | ((with_reducible apply SqL.of); assumption) | ((with_reducible apply SqT.of); assumption) | ((with_reducible apply OwnC.cl); assumption) | (with_reducible exact isI_int _) | exact within_args | (with_reducible exact upd_same) | ((with_reducible apply Mid.o); assumption) | ((with_reducible apply Mid.t); assumption) | exact .inl ⟨rfl, _, SqL.of (by assumption)⟩ | (with_reducible exact ⟨_, SqT.of (by assumption)⟩) | (with_reducible exact ⟨_, SqL.of (by assumption)⟩) | omega | exact Nat.le_of_ble_eq_true rfl | exact nat9 (by omega) | exact ⟨_, rfl⟩ | (show _ ≤ sizeLine; decide) | exact ⟨by decide, by decide, by decide⟩ | exact .inl ⟨by decide, by decide⟩ | exact .inl ⟨by omega, by omega⟩ | exact .inr ⟨by omega, by omega⟩ | assumption | fail) | ((with_reducible refine iteF' ?_ ?_); first | rfl | exact decide_eq_false (by omega) | exact in_no (by omega) (by omega) | exact in_no (by omega) (by assumption) | (simp <;> fail) | fail) | ((with_reducible refine iteT' ?_ ?_); first | rfl | exact decide_eq_true (by omega) | (simp <;> fail) | fail))
          refine .inr ⟨z, rfl, by omega, (fun k' e' => by rw [e] at e'; cases e'), fun c2 s2 m2 ok2 ez2 r2 H7 n2 S7 hr2 => ?_⟩
          replace M := M.same S7
          obtain ⟨dx2, fs2, hx2, _⟩ := id hr2
          repeat (first | (refine ⟨r2, dx2, fs2, rfl, hx2, ?_⟩) | (refine ⟨r2, c2, s2, m2, rfl, hr2, ok2, ?_⟩) | (with_reducible refine st_tC ?_) | (with_reducible refine st_tOp ?_) | ((with_reducible apply st_n); rfl; rfl; (first | trivial | (show _ ≤ _; omega) | (show _ < _; omega) | (show _ ∨ _; omega) | assumption | exact ⟨by assumption, by omega⟩ | exact ⟨W30.one, by omega⟩ | fail); rfl) | (with_reducible refine st_i0 rfl rfl rfl ?_) | ((with_reducible refine st_i rfl rfl ?_ rfl ?_); first | omega | exact ⟨by decide, by decide, by decide⟩ | exact .inl ⟨by decide, by decide⟩ | exact .inl ⟨by omega, by omega⟩ | exact .inr ⟨by omega, by omega⟩ | fail) | ((fail_if_success refine Exists.intro (α := Nat → Nat → L2.St → Hp → Prop) ?_ ?_); (fail_if_success refine Exists.intro (α := L2.St → Hp → Prop) ?_ ?_); (fail_if_success refine Exists.intro (α := Nat → L2.St → Hp → Prop) ?_ ?_); apply Exists.intro) | ((refine And.intro ?_ ?_); first | with_reducible rfl | with_reducible assumption | rfl | ((with_reducible apply SqL.of); assumption) | ((with_reducible apply SqT.of); assumption) | ((with_reducible apply OwnC.cl); assumption) | (with_reducible exact isI_int _) | exact within_args | (with_reducible exact upd_same) | ((with_reducible apply Mid.o); assumption) | ((with_reducible apply Mid.t); assumption) | exact .inl ⟨rfl, _, SqL.of (by assumption)⟩ | (with_reducible exact ⟨_, SqT.of (by assumption)⟩) | (with_reducible exact ⟨_, SqL.of (by assumption)⟩) | omega | exact Nat.le_of_ble_eq_true rfl | exact nat9 (by omega) | exact ⟨_, rfl⟩ | (show _ ≤ sizeLine; decide) | exact ⟨by decide, by decide, by decide⟩ | exact .inl ⟨by decide, by decide⟩ | exact .inl ⟨by omega, by omega⟩ | exact .inr ⟨by omega, by omega⟩ | assumption | fail) | ((with_reducible refine iteF' ?_ ?_); first | rfl | exact decide_eq_false (by omega) | exact in_no (by omega) (by omega) | exact in_no (by omega) (by assumption) | (simp <;> fail) | fail) | ((with_reducible refine iteT' ?_ ?_); first | rfl | exact decide_eq_true (by omega) | (simp <;> fail) | fail))
          rw [← ez2]
          refine iteF' (by simp) ?_
          repeat (first | (with_reducible refine st_tC ?_) | (with_reducible refine st_tOp ?_) | ((with_reducible apply st_n); rfl; rfl; (first | trivial | (show _ ≤ _; omega) | (show _ < _; omega) | (show _ ∨ _; omega) | assumption | exact ⟨by assumption, by omega⟩ | exact ⟨W30.one, by omega⟩ | fail); rfl) | (with_reducible refine st_i0 rfl rfl rfl ?_) | ((with_reducible refine st_i rfl rfl ?_ rfl ?_); first | omega | exact ⟨by decide, by decide, by decide⟩ | exact .inl ⟨by decide, by decide⟩ | exact .inl ⟨by omega, by omega⟩ | exact .inr ⟨by omega, by omega⟩ | fail) | ((fail_if_success refine Exists.intro (α := Nat → Nat → L2.St → Hp → Prop) ?_ ?_); (fail_if_success refine Exists.intro (α := L2.St → Hp → Prop) ?_ ?_); (fail_if_success refine Exists.intro (α := Nat → L2.St → Hp → Prop) ?_ ?_); apply Exists.intro) | ((refine And.intro ?_ ?_); first | with_reducible rfl | with_reducible assumption | rfl | ((with_reducible apply SqL.of); assumption) | ((with_reducible apply SqT.of); assumption) | ((with_reducible apply OwnC.cl); assumption) | (with_reducible exact isI_int _) | exact within_args | (with_reducible exact upd_same) | ((with_reducible apply Mid.o); assumption) | ((with_reducible apply Mid.t); assumption) | exact .inl ⟨rfl, _, SqL.of (by assumption)⟩ | (with_reducible exact ⟨_, SqT.of (by assumption)⟩) | (with_reducible exact ⟨_, SqL.of (by assumption)⟩) | omega | exact Nat.le_of_ble_eq_true rfl | exact nat9 (by omega) | exact ⟨_, rfl⟩ | (show _ ≤ sizeLine; decide) | exact ⟨by decide, by decide, by decide⟩ | exact .inl ⟨by decide, by decide⟩ | exact .inl ⟨by omega, by omega⟩ | exact .inr ⟨by omega, by omega⟩ | assumption | fail) | ((with_reducible refine iteF' ?_ ?_); first | rfl | exact decide_eq_false (by omega) | exact in_no (by omega) (by omega) | exact in_no (by omega) (by assumption) | (simp <;> fail) | fail) | ((with_reducible refine iteT' ?_ ?_); first | rfl | exact decide_eq_true (by omega) | (simp <;> fail) | fail))
          exact ⟨M.mono (by omega), _, _, _, rfl⟩
        | some kk =>
          repeat (first | (with_reducible refine st_tC ?_) | (with_reducible refine st_tOp ?_) | ((with_reducible apply st_n); rfl; rfl; (first | trivial | (show _ ≤ _; omega) | (show _ < _; omega) | (show _ ∨ _; omega) | assumption | exact ⟨by assumption, by omega⟩ | exact ⟨W30.one, by omega⟩ | fail); rfl) | (with_reducible refine st_i0 rfl rfl rfl ?_) | ((with_reducible refine st_i rfl rfl ?_ rfl ?_); first | omega | exact ⟨by decide, by decide, by decide⟩ | exact .inl ⟨by decide, by decide⟩ | exact .inl ⟨by omega, by omega⟩ | exact .inr ⟨by omega, by omega⟩ | fail) | ((fail_if_success refine Exists.intro (α := Nat → Nat → L2.St → Hp → Prop) ?_ ?_); (fail_if_success refine Exists.intro (α := L2.St → Hp → Prop) ?_ ?_); (fail_if_success refine Exists.intro (α := Nat → L2.St → Hp → Prop) ?_ ?_); apply Exists.intro) | ((refine And.intro ?_ ?_); first | with_reducible rfl | with_reducible assumption | rfl | ((with_reducible apply SqL.of); assumption) | ((with_reducible apply SqT.of); assumption) | ((with_reducible apply OwnC.cl); assumption) | (with_reducible exact isI_int _) | exact within_args | (with_reducible exact upd_same) | ((with_reducible apply Mid.o); assumption) | ((with_reducible apply Mid.t); assumption) | exact .inl ⟨rfl, _, SqL.of (by assumption)⟩ | (with_reducible exact ⟨_, SqT.of (by assumption)⟩) | (with_reducible exact ⟨_, SqL.of (by assumption)⟩) | omega | exact Nat.le_of_ble_eq_true rfl | exact nat9 (by omega) | exact ⟨_, rfl⟩ | (show _ ≤ sizeLine; decide) | exact ⟨by decide, by decide, by decide⟩ | exact .inl ⟨by decide, by decide⟩ | exact .inl ⟨by omega, by omega⟩ | exact .inr ⟨by omega, by omega⟩ | assumption | fail) | ((with_reducible refine iteF' ?_ ?_); first | rfl | exact decide_eq_false (by omega) | exact in_no (by omega) (by omega) | exact in_no (by omega) (by assumption) | (simp <;> fail) | fail) | ((with_reducible refine iteT' ?_ ?_); first | rfl | exact decide_eq_true (by omega) | (simp <;> fail) | fail))
          intro Ha ea Ta
          replace M := M.ext ea Ta
          repeat (first | (with_reducible refine st_tC ?_) | (with_reducible refine st_tOp ?_) | ((with_reducible apply st_n); rfl; rfl; (first | trivial | (show _ ≤ _; omega) | (show _ < _; omega) | (show _ ∨ _; omega) | assumption | exact ⟨by assumption, by omega⟩ | exact ⟨W30.one, by omega⟩ | fail); rfl) | (with_reducible refine st_i0 rfl rfl rfl ?_) | ((with_reducible refine st_i rfl rfl ?_ rfl ?_); first | omega | exact ⟨by decide, by decide, by decide⟩ | exact .inl ⟨by decide, by decide⟩ | exact .inl ⟨by omega, by omega⟩ | exact .inr ⟨by omega, by omega⟩ | fail) | ((fail_if_success refine Exists.intro (α := Nat → Nat → L2.St → Hp → Prop) ?_ ?_); (fail_if_success refine Exists.intro (α := L2.St → Hp → Prop) ?_ ?_); (fail_if_success refine Exists.intro (α := Nat → L2.St → Hp → Prop) ?_ ?_); apply Exists.intro) | ((refine And.intro ?_ ?_); first | with_reducible rfl | with_reducible assumption | rfl | ((with_reducible apply SqL.of); assumption) | ((with_reducible apply SqT.of); assumption) | ((with_reducible apply OwnC.cl); assumption) | (with_reducible exact isI_int _) | exact within_args | (with_reducible exact upd_same) | ((with_reducible apply Mid.o); assumption) | ((with_reducible apply Mid.t); assumption) | exact .inl ⟨rfl, _, SqL.of (by assumption)⟩ | (with_reducible exact ⟨_, SqT.of (by assumption)⟩) | (with_reducible exact ⟨_, SqL.of (by assumption)⟩) | omega | exact Nat.le_of_ble_eq_true rfl | exact nat9 (by omega) | exact ⟨_, rfl⟩ | (show _ ≤ sizeLine; decide) | exact ⟨by decide, by decide, by decide⟩ | exact .inl ⟨by decide, by decide⟩ | exact .inl ⟨by omega, by omega⟩ | exact .inr ⟨by omega, by omega⟩ | assumption | fail) | ((with_reducible refine iteF' ?_ ?_); first | rfl | exact decide_eq_false (by omega) | exact in_no (by omega) (by omega) | exact in_no (by omega) (by assumption) | (simp <;> fail) | fail) | ((with_reducible refine iteT' ?_ ?_); first | rfl | exact decide_eq_true (by omega) | (simp <;> fail) | fail))
          refine .inr ⟨z, rfl, by omega, (fun k' e' H7 S7 dd hdd => ?_), fun c2 s2 m2 ok2 ez2 => by
            have := due_store ok2
            rw [← ez2, e] at this
            cases this⟩
          rw [e] at e'
          cases e'
          refine ⟨dd, rfl, .inr ⟨rfl, 0, (kk : Int), upd_same, fun q H8 S8 hq => ?_⟩⟩
          replace M := M.same ((S7.trans (same_new hdd)).trans S8)
          clear S7 S8 hdd ea Ta
          repeat (first | (with_reducible refine st_tC ?_) | (with_reducible refine st_tOp ?_) | ((with_reducible apply st_n); rfl; rfl; (first | trivial | (show _ ≤ _; omega) | (show _ < _; omega) | (show _ ∨ _; omega) | assumption | exact ⟨by assumption, by omega⟩ | exact ⟨W30.one, by omega⟩ | fail); rfl) | (with_reducible refine st_i0 rfl rfl rfl ?_) | ((with_reducible refine st_i rfl rfl ?_ rfl ?_); first | omega | exact ⟨by decide, by decide, by decide⟩ | exact .inl ⟨by decide, by decide⟩ | exact .inl ⟨by omega, by omega⟩ | exact .inr ⟨by omega, by omega⟩ | fail) | ((fail_if_success refine Exists.intro (α := Nat → Nat → L2.St → Hp → Prop) ?_ ?_); (fail_if_success refine Exists.intro (α := L2.St → Hp → Prop) ?_ ?_); (fail_if_success refine Exists.intro (α := Nat → L2.St → Hp → Prop) ?_ ?_); apply Exists.intro) | ((refine And.intro ?_ ?_); first | with_reducible rfl | with_reducible assumption | rfl | ((with_reducible apply SqL.of); assumption) | ((with_reducible apply SqT.of); assumption) | ((with_reducible apply OwnC.cl); assumption) | (with_reducible exact isI_int _) | exact within_args | (with_reducible exact upd_same) | ((with_reducible apply Mid.o); assumption) | ((with_reducible apply Mid.t); assumption) | exact .inl ⟨rfl, _, SqL.of (by assumption)⟩ | (with_reducible exact ⟨_, SqT.of (by assumption)⟩) | (with_reducible exact ⟨_, SqL.of (by assumption)⟩) | omega | exact Nat.le_of_ble_eq_true rfl | exact nat9 (by omega) | exact ⟨_, rfl⟩ | (show _ ≤ sizeLine; decide) | exact ⟨by decide, by decide, by decide⟩ | exact .inl ⟨by decide, by decide⟩ | exact .inl ⟨by omega, by omega⟩ | exact .inr ⟨by omega, by omega⟩ | assumption | fail) | ((with_reducible refine iteF' ?_ ?_); first | rfl | exact decide_eq_false (by omega) | exact in_no (by omega) (by omega) | exact in_no (by omega) (by assumption) | (simp <;> fail) | fail) | ((with_reducible refine iteT' ?_ ?_); first | rfl | exact decide_eq_true (by omega) | (simp <;> fail) | fail))
          intro tq h_tq; have np_tq := M.pD h_tq; have nb_tq := M.bD h_tq; generalize hE : upd _ tq _ = H9; obtain ⟨S_tq, g_tq⟩ := new_facts h_tq hE; clear hE; replace M := M.same S_tq
          replace hq := S_tq _ _ hq
          have sh : SeqAt.shaped (.tuple [.str "text", .int 0, .int (kk : Int)]) = true := by
            rw [show SeqAt.shaped (.tuple [.str "text", .int 0, .int (kk : Int)]) = SeqAt.shaped (.tuple [.str "text", .int 0, .int 0]) from rfl]
            decide +kernel
          refine ⟨.tuple [.str "text", .int 0, .int (kk : Int)], .tuple [.str "text", .int 0, .int (kk : Int)], Dp.tup (SqT.of hq) (.cons (.str _) (.cons (.int _) (.cons (.int _) .nil))), Dp.tup (SqT.of g_tq) (.cons (.str _) (.cons (.int _) (.cons (.int _) .nil))), sh, sh, _, rfl, ?_⟩
          rw [SeqAt.eqv_refl _ (SeqAt.canLay_of_shaped sh)]
          refine iteF' rfl ?_
          exact ⟨M.mono (by omega), _, _, _, rfl⟩
      · rintro σ H2 ⟨M, u2, u3, u4, rfl⟩
        repeat (first | (with_reducible refine st_tC ?_) | (with_reducible refine st_tOp ?_) | ((with_reducible apply st_n); rfl; rfl; (first | trivial | (show _ ≤ _; omega) | (show _ < _; omega) | (show _ ∨ _; omega) | assumption | exact ⟨by assumption, by omega⟩ | exact ⟨W30.one, by omega⟩ | fail); rfl) | (with_reducible refine st_i0 rfl rfl rfl ?_) | ((with_reducible refine st_i rfl rfl ?_ rfl ?_); first | omega | exact ⟨by decide, by decide, by decide⟩ | exact .inl ⟨by decide, by decide⟩ | exact .inl ⟨by omega, by omega⟩ | exact .inr ⟨by omega, by omega⟩ | fail) | ((fail_if_success refine Exists.intro (α := Nat → Nat → L2.St → Hp → Prop) ?_ ?_); (fail_if_success refine Exists.intro (α := L2.St → Hp → Prop) ?_ ?_); (fail_if_success refine Exists.intro (α := Nat → L2.St → Hp → Prop) ?_ ?_); apply Exists.intro) | ((refine And.intro ?_ ?_); first | with_reducible rfl | with_reducible assumption | rfl | ((with_reducible apply SqL.of); assumption) | ((with_reducible apply SqT.of); assumption) | ((with_reducible apply OwnC.cl); assumption) | (with_reducible exact isI_int _) | exact within_args | (with_reducible exact upd_same) | ((with_reducible apply Mid.o); assumption) | ((with_reducible apply Mid.t); assumption) | exact .inl ⟨rfl, _, SqL.of (by assumption)⟩ | (with_reducible exact ⟨_, SqT.of (by assumption)⟩) | (with_reducible exact ⟨_, SqL.of (by assumption)⟩) | omega | exact Nat.le_of_ble_eq_true rfl | exact nat9 (by omega) | exact ⟨_, rfl⟩ | (show _ ≤ sizeLine; decide) | exact ⟨by decide, by decide, by decide⟩ | exact .inl ⟨by decide, by decide⟩ | exact .inl ⟨by omega, by omega⟩ | exact .inr ⟨by omega, by omega⟩ | assumption | fail) | ((with_reducible refine iteF' ?_ ?_); first | rfl | exact decide_eq_false (by omega) | exact in_no (by omega) (by omega) | exact in_no (by omega) (by assumption) | (simp <;> fail) | fail) | ((with_reducible refine iteT' ?_ ?_); first | rfl | exact decide_eq_true (by omega) | (simp <;> fail) | fail))
        intro o1 h_o1; have np_o1 := M.pD h_o1; have nb_o1 := M.bD h_o1; generalize hE : upd _ o1 _ = H3; obtain ⟨S_o1, g_o1⟩ := new_facts h_o1 hE; clear hE; replace M := M.same S_o1
        repeat (first | (with_reducible refine st_tC ?_) | (with_reducible refine st_tOp ?_) | ((with_reducible apply st_n); rfl; rfl; (first | trivial | (show _ ≤ _; omega) | (show _ < _; omega) | (show _ ∨ _; omega) | assumption | exact ⟨by assumption, by omega⟩ | exact ⟨W30.one, by omega⟩ | fail); rfl) | (with_reducible refine st_i0 rfl rfl rfl ?_) | ((with_reducible refine st_i rfl rfl ?_ rfl ?_); first | omega | exact ⟨by decide, by decide, by decide⟩ | exact .inl ⟨by decide, by decide⟩ | exact .inl ⟨by omega, by omega⟩ | exact .inr ⟨by omega, by omega⟩ | fail) | ((fail_if_success refine Exists.intro (α := Nat → Nat → L2.St → Hp → Prop) ?_ ?_); (fail_if_success refine Exists.intro (α := L2.St → Hp → Prop) ?_ ?_); (fail_if_success refine Exists.intro (α := Nat → L2.St → Hp → Prop) ?_ ?_); apply Exists.intro) | ((refine And.intro ?_ ?_); first | with_reducible rfl | with_reducible assumption | rfl | ((with_reducible apply SqL.of); assumption) | ((with_reducible apply SqT.of); assumption) | ((with_reducible apply OwnC.cl); assumption) | (with_reducible exact isI_int _) | exact within_args | (with_reducible exact upd_same) | ((with_reducible apply Mid.o); assumption) | ((with_reducible apply Mid.t); assumption) | exact .inl ⟨rfl, _, SqL.of (by assumption)⟩ | (with_reducible exact ⟨_, SqT.of (by assumption)⟩) | (with_reducible exact ⟨_, SqL.of (by assumption)⟩) | omega | exact Nat.le_of_ble_eq_true rfl | exact nat9 (by omega) | exact ⟨_, rfl⟩ | (show _ ≤ sizeLine; decide) | exact ⟨by decide, by decide, by decide⟩ | exact .inl ⟨by decide, by decide⟩ | exact .inl ⟨by omega, by omega⟩ | exact .inr ⟨by omega, by omega⟩ | assumption | fail) | ((with_reducible refine iteF' ?_ ?_); first | rfl | exact decide_eq_false (by omega) | exact in_no (by omega) (by omega) | exact in_no (by omega) (by assumption) | (simp <;> fail) | fail) | ((with_reducible refine iteT' ?_ ?_); first | rfl | exact decide_eq_true (by omega) | (simp <;> fail) | fail))
        intro o2 h_o2; have np_o2 := M.pD h_o2; have nb_o2 := M.bD h_o2; generalize hE : upd _ o2 _ = H5; obtain ⟨S_o2, g_o2⟩ := new_facts h_o2 hE; clear hE; replace M := M.same S_o2; replace g_o1 := S_o2 _ _ g_o1
        repeat (first | (with_reducible refine st_tC ?_) | (with_reducible refine st_tOp ?_) | ((with_reducible apply st_n); rfl; rfl; (first | trivial | (show _ ≤ _; omega) | (show _ < _; omega) | (show _ ∨ _; omega) | assumption | exact ⟨by assumption, by omega⟩ | exact ⟨W30.one, by omega⟩ | fail); rfl) | (with_reducible refine st_i0 rfl rfl rfl ?_) | ((with_reducible refine st_i rfl rfl ?_ rfl ?_); first | omega | exact ⟨by decide, by decide, by decide⟩ | exact .inl ⟨by decide, by decide⟩ | exact .inl ⟨by omega, by omega⟩ | exact .inr ⟨by omega, by omega⟩ | fail) | ((fail_if_success refine Exists.intro (α := Nat → Nat → L2.St → Hp → Prop) ?_ ?_); (fail_if_success refine Exists.intro (α := L2.St → Hp → Prop) ?_ ?_); (fail_if_success refine Exists.intro (α := Nat → L2.St → Hp → Prop) ?_ ?_); apply Exists.intro) | ((refine And.intro ?_ ?_); first | with_reducible rfl | with_reducible assumption | rfl | ((with_reducible apply SqL.of); assumption) | ((with_reducible apply SqT.of); assumption) | ((with_reducible apply OwnC.cl); assumption) | (with_reducible exact isI_int _) | exact within_args | (with_reducible exact upd_same) | ((with_reducible apply Mid.o); assumption) | ((with_reducible apply Mid.t); assumption) | exact .inl ⟨rfl, _, SqL.of (by assumption)⟩ | (with_reducible exact ⟨_, SqT.of (by assumption)⟩) | (with_reducible exact ⟨_, SqL.of (by assumption)⟩) | omega | exact Nat.le_of_ble_eq_true rfl | exact nat9 (by omega) | exact ⟨_, rfl⟩ | (show _ ≤ sizeLine; decide) | exact ⟨by decide, by decide, by decide⟩ | exact .inl ⟨by decide, by decide⟩ | exact .inl ⟨by omega, by omega⟩ | exact .inr ⟨by omega, by omega⟩ | assumption | fail) | ((with_reducible refine iteF' ?_ ?_); first | rfl | exact decide_eq_false (by omega) | exact in_no (by omega) (by omega) | exact in_no (by omega) (by assumption) | (simp <;> fail) | fail) | ((with_reducible refine iteT' ?_ ?_); first | rfl | exact decide_eq_true (by omega) | (simp <;> fail) | fail))
        intro lo h_lo; have np_lo := M.pD h_lo; have nb_lo := M.bD h_lo; generalize hE : upd _ lo _ = H6; obtain ⟨S_lo, g_lo⟩ := new_facts h_lo hE; clear hE; replace M := M.same S_lo; replace g_o1 := S_lo _ _ g_o1; replace g_o2 := S_lo _ _ g_o2
        repeat (first | (with_reducible refine st_tC ?_) | (with_reducible refine st_tOp ?_) | ((with_reducible apply st_n); rfl; rfl; (first | trivial | (show _ ≤ _; omega) | (show _ < _; omega) | (show _ ∨ _; omega) | assumption | exact ⟨by assumption, by omega⟩ | exact ⟨W30.one, by omega⟩ | fail); rfl) | (with_reducible refine st_i0 rfl rfl rfl ?_) | ((with_reducible refine st_i rfl rfl ?_ rfl ?_); first | omega | exact ⟨by decide, by decide, by decide⟩ | exact .inl ⟨by decide, by decide⟩ | exact .inl ⟨by omega, by omega⟩ | exact .inr ⟨by omega, by omega⟩ | fail) | ((fail_if_success refine Exists.intro (α := Nat → Nat → L2.St → Hp → Prop) ?_ ?_); (fail_if_success refine Exists.intro (α := L2.St → Hp → Prop) ?_ ?_); (fail_if_success refine Exists.intro (α := Nat → L2.St → Hp → Prop) ?_ ?_); apply Exists.intro) | ((refine And.intro ?_ ?_); first | with_reducible rfl | with_reducible assumption | rfl | ((with_reducible apply SqL.of); assumption) | ((with_reducible apply SqT.of); assumption) | ((with_reducible apply OwnC.cl); assumption) | (with_reducible exact isI_int _) | exact within_args | (with_reducible exact upd_same) | ((with_reducible apply Mid.o); assumption) | ((with_reducible apply Mid.t); assumption) | exact .inl ⟨rfl, _, SqL.of (by assumption)⟩ | (with_reducible exact ⟨_, SqT.of (by assumption)⟩) | (with_reducible exact ⟨_, SqL.of (by assumption)⟩) | omega | exact Nat.le_of_ble_eq_true rfl | exact nat9 (by omega) | exact ⟨_, rfl⟩ | (show _ ≤ sizeLine; decide) | exact ⟨by decide, by decide, by decide⟩ | exact .inl ⟨by decide, by decide⟩ | exact .inl ⟨by omega, by omega⟩ | exact .inr ⟨by omega, by omega⟩ | assumption | fail) | ((with_reducible refine iteF' ?_ ?_); first | rfl | exact decide_eq_false (by omega) | exact in_no (by omega) (by omega) | exact in_no (by omega) (by assumption) | (simp <;> fail) | fail) | ((with_reducible refine iteT' ?_ ?_); first | rfl | exact decide_eq_true (by omega) | (simp <;> fail) | fail))
        intro j_odd odd H7 e_odd O_odd B_odd; replace g_o1 := B_odd _ _ g_o1 np_o1; replace g_o2 := B_odd _ _ g_o2 np_o2; replace M := M.draw O_odd B_odd; clear O_odd B_odd
        have kS : ∀ n : String, kitB n "str" = some false → PySem.W.kitOne K (.type n) (.type "str") = some false := fun n h => kit_ty h
        have badS : ∀ H', KpS p H7 H' → NotS (cxOf CX0 P w K mg base ["script", "shed", "turn", "text", "due", "odd", "ask", "heard"] "law" (defScope s_law) f (.ref c) A outer s H E).nox.K H' odd ∨ odd = .str "3 2 1" := by
          intro H' kp
          have m := List.mem_of_getElem? e_odd
          have g1 := kp.k _ _ g_o1 np_o1 (fun _ z => nomatch z)
          have g2 := kp.k _ _ g_o2 np_o2 (fun _ z => nomatch z)
          simp only [List.mem_cons, List.not_mem_nil, or_false] at m
          rcases m with rfl | rfl | rfl | rfl | rfl | rfl
          · exact .inl ⟨_, .base .non, kit_ty (by decide +kernel)⟩
          · exact .inl ⟨_, .base (.int _), kit_ty (by decide +kernel)⟩
          · exact .inl ⟨_, .base (.tup g1), kit_ty (by decide +kernel)⟩
          · exact .inr rfl
          · exact .inl ⟨_, .base (.bl _), kit_ty (by decide +kernel)⟩
          · exact .inl ⟨_, .base (.lst g2), kit_ty (by decide +kernel)⟩
        have badO : ∀ H', KpS p H7 H' → NotO (cxOf CX0 P w K mg base ["script", "shed", "turn", "text", "due", "odd", "ask", "heard"] "law" (defScope s_law) f (.ref c) A outer s H E).nox.K C H' odd := by
          intro H' kp
          have m := List.mem_of_getElem? e_odd
          have g1 := kp.k _ _ g_o1 np_o1 (fun _ z => nomatch z)
          have g2 := kp.k _ _ g_o2 np_o2 (fun _ z => nomatch z)
          simp only [List.mem_cons, List.not_mem_nil, or_false] at m
          rcases m with rfl | rfl | rfl | rfl | rfl | rfl
          · exact O_Store.non
          · exact O_Store.int _
          · exact O_Store.tup g1
          · exact O_Store.str _
          · exact O_Store.bl _
          · exact O_Store.lst g2
        clear e_odd j_odd g_o1 g_o2 g_lo S_o1 S_o2 S_lo h_o1 h_o2 h_lo kS
        have kp : KpS p H7 H7 := KpS.refl
        have sh1 : SeqAt.shaped (.tuple [.str "store", .str "store"]) = true := by decide +kernel
        repeat (first | (with_reducible refine st_tC ?_) | (with_reducible refine st_tOp ?_) | ((with_reducible apply st_n); rfl; rfl; (first | trivial | (show _ ≤ _; omega) | (show _ < _; omega) | (show _ ∨ _; omega) | assumption | exact ⟨by assumption, by omega⟩ | exact ⟨W30.one, by omega⟩ | fail); rfl) | (with_reducible refine st_i0 rfl rfl rfl ?_) | ((with_reducible refine st_i rfl rfl ?_ rfl ?_); first | omega | exact ⟨by decide, by decide, by decide⟩ | exact .inl ⟨by decide, by decide⟩ | exact .inl ⟨by omega, by omega⟩ | exact .inr ⟨by omega, by omega⟩ | fail) | ((fail_if_success refine Exists.intro (α := Nat → Nat → L2.St → Hp → Prop) ?_ ?_); (fail_if_success refine Exists.intro (α := L2.St → Hp → Prop) ?_ ?_); (fail_if_success refine Exists.intro (α := Nat → L2.St → Hp → Prop) ?_ ?_); apply Exists.intro) | ((refine And.intro ?_ ?_); first | with_reducible rfl | with_reducible assumption | rfl | ((with_reducible apply SqL.of); assumption) | ((with_reducible apply SqT.of); assumption) | ((with_reducible apply OwnC.cl); assumption) | (with_reducible exact isI_int _) | exact within_args | (with_reducible exact upd_same) | ((with_reducible apply Mid.o); assumption) | ((with_reducible apply Mid.t); assumption) | exact .inl ⟨rfl, _, SqL.of (by assumption)⟩ | (with_reducible exact ⟨_, SqT.of (by assumption)⟩) | (with_reducible exact ⟨_, SqL.of (by assumption)⟩) | omega | exact Nat.le_of_ble_eq_true rfl | exact nat9 (by omega) | exact ⟨_, rfl⟩ | (show _ ≤ sizeLine; decide) | exact ⟨by decide, by decide, by decide⟩ | exact .inl ⟨by decide, by decide⟩ | exact .inl ⟨by omega, by omega⟩ | exact .inr ⟨by omega, by omega⟩ | assumption | fail) | ((with_reducible refine iteF' ?_ ?_); first | rfl | exact decide_eq_false (by omega) | exact in_no (by omega) (by omega) | exact in_no (by omega) (by assumption) | (simp <;> fail) | fail) | ((with_reducible refine iteT' ?_ ?_); first | rfl | exact decide_eq_true (by omega) | (simp <;> fail) | fail))
        intro tq h_tq; have np_tq := M.pD h_tq; have nb_tq := M.bD h_tq; generalize hE : upd _ tq _ = H8; obtain ⟨S_tq, g_tq⟩ := new_facts h_tq hE; clear hE; replace M := M.same S_tq; replace kp := kp.same S_tq
        repeat (first | (with_reducible refine st_tC ?_) | (with_reducible refine st_tOp ?_) | ((with_reducible apply st_n); rfl; rfl; (first | trivial | (show _ ≤ _; omega) | (show _ < _; omega) | (show _ ∨ _; omega) | assumption | exact ⟨by assumption, by omega⟩ | exact ⟨W30.one, by omega⟩ | fail); rfl) | (with_reducible refine st_i0 rfl rfl rfl ?_) | ((with_reducible refine st_i rfl rfl ?_ rfl ?_); first | omega | exact ⟨by decide, by decide, by decide⟩ | exact .inl ⟨by decide, by decide⟩ | exact .inl ⟨by omega, by omega⟩ | exact .inr ⟨by omega, by omega⟩ | fail) | ((fail_if_success refine Exists.intro (α := Nat → Nat → L2.St → Hp → Prop) ?_ ?_); (fail_if_success refine Exists.intro (α := L2.St → Hp → Prop) ?_ ?_); (fail_if_success refine Exists.intro (α := Nat → L2.St → Hp → Prop) ?_ ?_); apply Exists.intro) | ((refine And.intro ?_ ?_); first | with_reducible rfl | with_reducible assumption | rfl | ((with_reducible apply SqL.of); assumption) | ((with_reducible apply SqT.of); assumption) | ((with_reducible apply OwnC.cl); assumption) | (with_reducible exact isI_int _) | exact within_args | (with_reducible exact upd_same) | ((with_reducible apply Mid.o); assumption) | ((with_reducible apply Mid.t); assumption) | exact .inl ⟨rfl, _, SqL.of (by assumption)⟩ | (with_reducible exact ⟨_, SqT.of (by assumption)⟩) | (with_reducible exact ⟨_, SqL.of (by assumption)⟩) | omega | exact Nat.le_of_ble_eq_true rfl | exact nat9 (by omega) | exact ⟨_, rfl⟩ | (show _ ≤ sizeLine; decide) | exact ⟨by decide, by decide, by decide⟩ | exact .inl ⟨by decide, by decide⟩ | exact .inl ⟨by omega, by omega⟩ | exact .inr ⟨by omega, by omega⟩ | assumption | fail) | ((with_reducible refine iteF' ?_ ?_); first | rfl | exact decide_eq_false (by omega) | exact in_no (by omega) (by omega) | exact in_no (by omega) (by assumption) | (simp <;> fail) | fail) | ((with_reducible refine iteT' ?_ ?_); first | rfl | exact decide_eq_true (by omega) | (simp <;> fail) | fail))
        refine for_tup (K := K) (a := tq) (xs := [.ref f11, .ref f12, .ref f13, .ref f14, .ref f15, .ref f16]) (fun i σ H' => Mid (TB2 Pa Pb) p b (100 * 5 + 1) H' ∧ KpS p H7 H' ∧ H' tq = some (.tup [.ref f11, .ref f12, .ref f13, .ref f14, .ref f15, .ref f16]) ∧ Hid (∃ u6 : Option V, σ = [some (.ref a), some (.ref p), u2, u3, u4, some odd, u6, none])) ⟨M, kp, g_tq, ⟨_, rfl⟩⟩ (fun i σ H' _ w => SqT.of w.2.2.1) ?_ ?_
        · clear M kp g_tq
          rintro i x σ H1 hx ⟨M, kp, g_tq, ⟨u6, rfl⟩⟩
          obtain ⟨g, rfl, hg⟩ := refs_of (L := [f11, f12, f13, f14, f15, f16]) hx
          clear hx
          repeat (first | (with_reducible refine st_tC ?_) | (with_reducible refine st_tOp ?_) | ((with_reducible apply st_n); rfl; rfl; (first | trivial | (show _ ≤ _; omega) | (show _ < _; omega) | (show _ ∨ _; omega) | assumption | exact ⟨by assumption, by omega⟩ | exact ⟨W30.one, by omega⟩ | fail); rfl) | (with_reducible refine st_i0 rfl rfl rfl ?_) | ((with_reducible refine st_i rfl rfl ?_ rfl ?_); first | omega | exact ⟨by decide, by decide, by decide⟩ | exact .inl ⟨by decide, by decide⟩ | exact .inl ⟨by omega, by omega⟩ | exact .inr ⟨by omega, by omega⟩ | fail) | ((fail_if_success refine Exists.intro (α := Nat → Nat → L2.St → Hp → Prop) ?_ ?_); (fail_if_success refine Exists.intro (α := L2.St → Hp → Prop) ?_ ?_); (fail_if_success refine Exists.intro (α := Nat → L2.St → Hp → Prop) ?_ ?_); apply Exists.intro) | ((refine And.intro ?_ ?_); first | with_reducible rfl | with_reducible assumption | rfl | ((with_reducible apply SqL.of); assumption) | ((with_reducible apply SqT.of); assumption) | ((with_reducible apply OwnC.cl); assumption) | (with_reducible exact isI_int _) | exact within_args | (with_reducible exact upd_same) | ((with_reducible apply Mid.o); assumption) | ((with_reducible apply Mid.t); assumption) | exact .inl ⟨rfl, _, SqL.of (by assumption)⟩ | (with_reducible exact ⟨_, SqT.of (by assumption)⟩) | (with_reducible exact ⟨_, SqL.of (by assumption)⟩) | omega | exact Nat.le_of_ble_eq_true rfl | exact nat9 (by omega) | exact ⟨_, rfl⟩ | (show _ ≤ sizeLine; decide) | exact ⟨by decide, by decide, by decide⟩ | exact .inl ⟨by decide, by decide⟩ | exact .inl ⟨by omega, by omega⟩ | exact .inr ⟨by omega, by omega⟩ | assumption | fail) | ((with_reducible refine iteF' ?_ ?_); first | rfl | exact decide_eq_false (by omega) | exact in_no (by omega) (by omega) | exact in_no (by omega) (by assumption) | (simp <;> fail) | fail) | ((with_reducible refine iteT' ?_ ?_); first | rfl | exact decide_eq_true (by omega) | (simp <;> fail) | fail))
          intro Ha ea Ta
          replace M := M.ext ea Ta
          replace kp := kp.ext ea
          replace g_tq := ea _ _ g_tq (fun _ z => nomatch z)
          have nO := badO _ kp
          repeat (first | (with_reducible refine st_tC ?_) | (with_reducible refine st_tOp ?_) | ((with_reducible apply st_n); rfl; rfl; (first | trivial | (show _ ≤ _; omega) | (show _ < _; omega) | (show _ ∨ _; omega) | assumption | exact ⟨by assumption, by omega⟩ | exact ⟨W30.one, by omega⟩ | fail); rfl) | (with_reducible refine st_i0 rfl rfl rfl ?_) | ((with_reducible refine st_i rfl rfl ?_ rfl ?_); first | omega | exact ⟨by decide, by decide, by decide⟩ | exact .inl ⟨by decide, by decide⟩ | exact .inl ⟨by omega, by omega⟩ | exact .inr ⟨by omega, by omega⟩ | fail) | ((fail_if_success refine Exists.intro (α := Nat → Nat → L2.St → Hp → Prop) ?_ ?_); (fail_if_success refine Exists.intro (α := L2.St → Hp → Prop) ?_ ?_); (fail_if_success refine Exists.intro (α := Nat → L2.St → Hp → Prop) ?_ ?_); apply Exists.intro) | ((refine And.intro ?_ ?_); first | with_reducible rfl | with_reducible assumption | rfl | ((with_reducible apply SqL.of); assumption) | ((with_reducible apply SqT.of); assumption) | ((with_reducible apply OwnC.cl); assumption) | (with_reducible exact isI_int _) | exact within_args | (with_reducible exact upd_same) | ((with_reducible apply Mid.o); assumption) | ((with_reducible apply Mid.t); assumption) | exact .inl ⟨rfl, _, SqL.of (by assumption)⟩ | (with_reducible exact ⟨_, SqT.of (by assumption)⟩) | (with_reducible exact ⟨_, SqL.of (by assumption)⟩) | omega | exact Nat.le_of_ble_eq_true rfl | exact nat9 (by omega) | exact ⟨_, rfl⟩ | (show _ ≤ sizeLine; decide) | exact ⟨by decide, by decide, by decide⟩ | exact .inl ⟨by decide, by decide⟩ | exact .inl ⟨by omega, by omega⟩ | exact .inr ⟨by omega, by omega⟩ | assumption | fail) | ((with_reducible refine iteF' ?_ ?_); first | rfl | exact decide_eq_false (by omega) | exact in_no (by omega) (by omega) | exact in_no (by omega) (by assumption) | (simp <;> fail) | fail) | ((with_reducible refine iteT' ?_ ?_); first | rfl | exact decide_eq_true (by omega) | (simp <;> fail) | fail))
          intro dd hdd
          refine ⟨dd, rfl, .inl ⟨rfl, _, upd_same, fun t1 Hb Sb g_t1 => ?_⟩⟩
          have Sd := (same_new (o := .xd [(("part" : Str), .str "store")]) hdd).trans Sb
          replace M := M.same Sd; replace kp := kp.same Sd
          replace g_tq := Sd _ _ g_tq
          clear Sd Sb hdd ea Ta nO
          repeat (first | (with_reducible refine st_tC ?_) | (with_reducible refine st_tOp ?_) | ((with_reducible apply st_n); rfl; rfl; (first | trivial | (show _ ≤ _; omega) | (show _ < _; omega) | (show _ ∨ _; omega) | assumption | exact ⟨by assumption, by omega⟩ | exact ⟨W30.one, by omega⟩ | fail); rfl) | (with_reducible refine st_i0 rfl rfl rfl ?_) | ((with_reducible refine st_i rfl rfl ?_ rfl ?_); first | omega | exact ⟨by decide, by decide, by decide⟩ | exact .inl ⟨by decide, by decide⟩ | exact .inl ⟨by omega, by omega⟩ | exact .inr ⟨by omega, by omega⟩ | fail) | ((fail_if_success refine Exists.intro (α := Nat → Nat → L2.St → Hp → Prop) ?_ ?_); (fail_if_success refine Exists.intro (α := L2.St → Hp → Prop) ?_ ?_); (fail_if_success refine Exists.intro (α := Nat → L2.St → Hp → Prop) ?_ ?_); apply Exists.intro) | ((refine And.intro ?_ ?_); first | with_reducible rfl | with_reducible assumption | rfl | ((with_reducible apply SqL.of); assumption) | ((with_reducible apply SqT.of); assumption) | ((with_reducible apply OwnC.cl); assumption) | (with_reducible exact isI_int _) | exact within_args | (with_reducible exact upd_same) | ((with_reducible apply Mid.o); assumption) | ((with_reducible apply Mid.t); assumption) | exact .inl ⟨rfl, _, SqL.of (by assumption)⟩ | (with_reducible exact ⟨_, SqT.of (by assumption)⟩) | (with_reducible exact ⟨_, SqL.of (by assumption)⟩) | omega | exact Nat.le_of_ble_eq_true rfl | exact nat9 (by omega) | exact ⟨_, rfl⟩ | (show _ ≤ sizeLine; decide) | exact ⟨by decide, by decide, by decide⟩ | exact .inl ⟨by decide, by decide⟩ | exact .inl ⟨by omega, by omega⟩ | exact .inr ⟨by omega, by omega⟩ | assumption | fail) | ((with_reducible refine iteF' ?_ ?_); first | rfl | exact decide_eq_false (by omega) | exact in_no (by omega) (by omega) | exact in_no (by omega) (by assumption) | (simp <;> fail) | fail) | ((with_reducible refine iteT' ?_ ?_); first | rfl | exact decide_eq_true (by omega) | (simp <;> fail) | fail))
          intro t2 h_t2; have np_t2 := M.pD h_t2; have nb_t2 := M.bD h_t2; generalize hE : upd _ t2 _ = H2; obtain ⟨S_t2, g_t2⟩ := new_facts h_t2 hE; clear hE; replace M := M.same S_t2; replace kp := kp.same S_t2; replace g_t1 := S_t2 _ _ g_t1; replace g_tq := S_t2 _ _ g_tq
          refine ⟨.tuple [.str "store", .str "store"], .tuple [.str "store", .str "store"], Dp.tup (SqT.of g_t1) (.cons (.str _) (.cons (.str _) .nil)), Dp.tup (SqT.of g_t2) (.cons (.str _) (.cons (.str _) .nil)), sh1, sh1, _, rfl, ?_⟩
          rw [SeqAt.eqv_refl _ (SeqAt.canLay_of_shaped sh1)]
          refine iteF' rfl ?_
          exact ⟨M, kp, g_tq, ⟨_, rfl⟩⟩
        clear M kp g_tq S_tq h_tq np_tq nb_tq
        rintro σ H9 ⟨M, kp, _, ⟨u6, rfl⟩⟩
        repeat (first | (with_reducible refine st_tC ?_) | (with_reducible refine st_tOp ?_) | ((with_reducible apply st_n); rfl; rfl; (first | trivial | (show _ ≤ _; omega) | (show _ < _; omega) | (show _ ∨ _; omega) | assumption | exact ⟨by assumption, by omega⟩ | exact ⟨W30.one, by omega⟩ | fail); rfl) | (with_reducible refine st_i0 rfl rfl rfl ?_) | ((with_reducible refine st_i rfl rfl ?_ rfl ?_); first | omega | exact ⟨by decide, by decide, by decide⟩ | exact .inl ⟨by decide, by decide⟩ | exact .inl ⟨by omega, by omega⟩ | exact .inr ⟨by omega, by omega⟩ | fail) | ((fail_if_success refine Exists.intro (α := Nat → Nat → L2.St → Hp → Prop) ?_ ?_); (fail_if_success refine Exists.intro (α := L2.St → Hp → Prop) ?_ ?_); (fail_if_success refine Exists.intro (α := Nat → L2.St → Hp → Prop) ?_ ?_); apply Exists.intro) | ((refine And.intro ?_ ?_); first | with_reducible rfl | with_reducible assumption | rfl | ((with_reducible apply SqL.of); assumption) | ((with_reducible apply SqT.of); assumption) | ((with_reducible apply OwnC.cl); assumption) | (with_reducible exact isI_int _) | exact within_args | (with_reducible exact upd_same) | ((with_reducible apply Mid.o); assumption) | ((with_reducible apply Mid.t); assumption) | exact .inl ⟨rfl, _, SqL.of (by assumption)⟩ | (with_reducible exact ⟨_, SqT.of (by assumption)⟩) | (with_reducible exact ⟨_, SqL.of (by assumption)⟩) | omega | exact Nat.le_of_ble_eq_true rfl | exact nat9 (by omega) | exact ⟨_, rfl⟩ | (show _ ≤ sizeLine; decide) | exact ⟨by decide, by decide, by decide⟩ | exact .inl ⟨by decide, by decide⟩ | exact .inl ⟨by omega, by omega⟩ | exact .inr ⟨by omega, by omega⟩ | assumption | fail) | ((with_reducible refine iteF' ?_ ?_); first | rfl | exact decide_eq_false (by omega) | exact in_no (by omega) (by omega) | exact in_no (by omega) (by assumption) | (simp <;> fail) | fail) | ((with_reducible refine iteT' ?_ ?_); first | rfl | exact decide_eq_true (by omega) | (simp <;> fail) | fail))
        intro tr h_tr; have np_tr := M.pD h_tr; have nb_tr := M.bD h_tr; generalize hE : upd _ tr _ = H10; obtain ⟨S_tr, g_tr⟩ := new_facts h_tr hE; clear hE; replace M := M.same S_tr; replace kp := kp.same S_tr
        repeat (first | (with_reducible refine st_tC ?_) | (with_reducible refine st_tOp ?_) | ((with_reducible apply st_n); rfl; rfl; (first | trivial | (show _ ≤ _; omega) | (show _ < _; omega) | (show _ ∨ _; omega) | assumption | exact ⟨by assumption, by omega⟩ | exact ⟨W30.one, by omega⟩ | fail); rfl) | (with_reducible refine st_i0 rfl rfl rfl ?_) | ((with_reducible refine st_i rfl rfl ?_ rfl ?_); first | omega | exact ⟨by decide, by decide, by decide⟩ | exact .inl ⟨by decide, by decide⟩ | exact .inl ⟨by omega, by omega⟩ | exact .inr ⟨by omega, by omega⟩ | fail) | ((fail_if_success refine Exists.intro (α := Nat → Nat → L2.St → Hp → Prop) ?_ ?_); (fail_if_success refine Exists.intro (α := L2.St → Hp → Prop) ?_ ?_); (fail_if_success refine Exists.intro (α := Nat → L2.St → Hp → Prop) ?_ ?_); apply Exists.intro) | ((refine And.intro ?_ ?_); first | with_reducible rfl | with_reducible assumption | rfl | ((with_reducible apply SqL.of); assumption) | ((with_reducible apply SqT.of); assumption) | ((with_reducible apply OwnC.cl); assumption) | (with_reducible exact isI_int _) | exact within_args | (with_reducible exact upd_same) | ((with_reducible apply Mid.o); assumption) | ((with_reducible apply Mid.t); assumption) | exact .inl ⟨rfl, _, SqL.of (by assumption)⟩ | (with_reducible exact ⟨_, SqT.of (by assumption)⟩) | (with_reducible exact ⟨_, SqL.of (by assumption)⟩) | omega | exact Nat.le_of_ble_eq_true rfl | exact nat9 (by omega) | exact ⟨_, rfl⟩ | (show _ ≤ sizeLine; decide) | exact ⟨by decide, by decide, by decide⟩ | exact .inl ⟨by decide, by decide⟩ | exact .inl ⟨by omega, by omega⟩ | exact .inr ⟨by omega, by omega⟩ | assumption | fail) | ((with_reducible refine iteF' ?_ ?_); first | rfl | exact decide_eq_false (by omega) | exact in_no (by omega) (by omega) | exact in_no (by omega) (by assumption) | (simp <;> fail) | fail) | ((with_reducible refine iteT' ?_ ?_); first | rfl | exact decide_eq_true (by omega) | (simp <;> fail) | fail))
        refine for_tup (K := K) (a := tr) (xs := [.ref f17, .ref f18, .ref f19]) (fun i σ H' => Mid (TB2 Pa Pb) p b (100 * 5 + 1) H' ∧ KpS p H7 H' ∧ H' tr = some (.tup [.ref f17, .ref f18, .ref f19]) ∧ Hid (∃ u6 : Option V, σ = [some (.ref a), some (.ref p), u2, u3, u4, some odd, u6, none])) ⟨M, kp, g_tr, ⟨_, rfl⟩⟩ (fun i σ H' _ w => SqT.of w.2.2.1) ?_ ?_
        · clear M kp g_tr
          rintro i x σ H1 hx ⟨M, kp, g_tr, ⟨u6, rfl⟩⟩
          obtain ⟨g, rfl, hg⟩ := refs_of (L := [f17, f18, f19]) hx
          clear hx
          repeat (first | (with_reducible refine st_tC ?_) | (with_reducible refine st_tOp ?_) | ((with_reducible apply st_n); rfl; rfl; (first | trivial | (show _ ≤ _; omega) | (show _ < _; omega) | (show _ ∨ _; omega) | assumption | exact ⟨by assumption, by omega⟩ | exact ⟨W30.one, by omega⟩ | fail); rfl) | (with_reducible refine st_i0 rfl rfl rfl ?_) | ((with_reducible refine st_i rfl rfl ?_ rfl ?_); first | omega | exact ⟨by decide, by decide, by decide⟩ | exact .inl ⟨by decide, by decide⟩ | exact .inl ⟨by omega, by omega⟩ | exact .inr ⟨by omega, by omega⟩ | fail) | ((fail_if_success refine Exists.intro (α := Nat → Nat → L2.St → Hp → Prop) ?_ ?_); (fail_if_success refine Exists.intro (α := L2.St → Hp → Prop) ?_ ?_); (fail_if_success refine Exists.intro (α := Nat → L2.St → Hp → Prop) ?_ ?_); apply Exists.intro) | ((refine And.intro ?_ ?_); first | with_reducible rfl | with_reducible assumption | rfl | ((with_reducible apply SqL.of); assumption) | ((with_reducible apply SqT.of); assumption) | ((with_reducible apply OwnC.cl); assumption) | (with_reducible exact isI_int _) | exact within_args | (with_reducible exact upd_same) | ((with_reducible apply Mid.o); assumption) | ((with_reducible apply Mid.t); assumption) | exact .inl ⟨rfl, _, SqL.of (by assumption)⟩ | (with_reducible exact ⟨_, SqT.of (by assumption)⟩) | (with_reducible exact ⟨_, SqL.of (by assumption)⟩) | omega | exact Nat.le_of_ble_eq_true rfl | exact nat9 (by omega) | exact ⟨_, rfl⟩ | (show _ ≤ sizeLine; decide) | exact ⟨by decide, by decide, by decide⟩ | exact .inl ⟨by decide, by decide⟩ | exact .inl ⟨by omega, by omega⟩ | exact .inr ⟨by omega, by omega⟩ | assumption | fail) | ((with_reducible refine iteF' ?_ ?_); first | rfl | exact decide_eq_false (by omega) | exact in_no (by omega) (by omega) | exact in_no (by omega) (by assumption) | (simp <;> fail) | fail) | ((with_reducible refine iteT' ?_ ?_); first | rfl | exact decide_eq_true (by omega) | (simp <;> fail) | fail))
          intro Ha ea Ta
          replace M := M.ext ea Ta
          replace kp := kp.ext ea
          replace g_tr := ea _ _ g_tr (fun _ z => nomatch z)
          have nO := badO _ kp
          repeat (first | (with_reducible refine st_tC ?_) | (with_reducible refine st_tOp ?_) | ((with_reducible apply st_n); rfl; rfl; (first | trivial | (show _ ≤ _; omega) | (show _ < _; omega) | (show _ ∨ _; omega) | assumption | exact ⟨by assumption, by omega⟩ | exact ⟨W30.one, by omega⟩ | fail); rfl) | (with_reducible refine st_i0 rfl rfl rfl ?_) | ((with_reducible refine st_i rfl rfl ?_ rfl ?_); first | omega | exact ⟨by decide, by decide, by decide⟩ | exact .inl ⟨by decide, by decide⟩ | exact .inl ⟨by omega, by omega⟩ | exact .inr ⟨by omega, by omega⟩ | fail) | ((fail_if_success refine Exists.intro (α := Nat → Nat → L2.St → Hp → Prop) ?_ ?_); (fail_if_success refine Exists.intro (α := L2.St → Hp → Prop) ?_ ?_); (fail_if_success refine Exists.intro (α := Nat → L2.St → Hp → Prop) ?_ ?_); apply Exists.intro) | ((refine And.intro ?_ ?_); first | with_reducible rfl | with_reducible assumption | rfl | ((with_reducible apply SqL.of); assumption) | ((with_reducible apply SqT.of); assumption) | ((with_reducible apply OwnC.cl); assumption) | (with_reducible exact isI_int _) | exact within_args | (with_reducible exact upd_same) | ((with_reducible apply Mid.o); assumption) | ((with_reducible apply Mid.t); assumption) | exact .inl ⟨rfl, _, SqL.of (by assumption)⟩ | (with_reducible exact ⟨_, SqT.of (by assumption)⟩) | (with_reducible exact ⟨_, SqL.of (by assumption)⟩) | omega | exact Nat.le_of_ble_eq_true rfl | exact nat9 (by omega) | exact ⟨_, rfl⟩ | (show _ ≤ sizeLine; decide) | exact ⟨by decide, by decide, by decide⟩ | exact .inl ⟨by decide, by decide⟩ | exact .inl ⟨by omega, by omega⟩ | exact .inr ⟨by omega, by omega⟩ | assumption | fail) | ((with_reducible refine iteF' ?_ ?_); first | rfl | exact decide_eq_false (by omega) | exact in_no (by omega) (by omega) | exact in_no (by omega) (by assumption) | (simp <;> fail) | fail) | ((with_reducible refine iteT' ?_ ?_); first | rfl | exact decide_eq_true (by omega) | (simp <;> fail) | fail))
          intro dd hdd
          refine ⟨dd, rfl, .inl ⟨rfl, _, upd_same, fun t1 Hb Sb g_t1 => ?_⟩⟩
          have Sd := (same_new (o := .xd [(("part" : Str), .str "store")]) hdd).trans Sb
          replace M := M.same Sd; replace kp := kp.same Sd
          replace g_tr := Sd _ _ g_tr
          clear Sd Sb hdd ea Ta nO
          repeat (first | (with_reducible refine st_tC ?_) | (with_reducible refine st_tOp ?_) | ((with_reducible apply st_n); rfl; rfl; (first | trivial | (show _ ≤ _; omega) | (show _ < _; omega) | (show _ ∨ _; omega) | assumption | exact ⟨by assumption, by omega⟩ | exact ⟨W30.one, by omega⟩ | fail); rfl) | (with_reducible refine st_i0 rfl rfl rfl ?_) | ((with_reducible refine st_i rfl rfl ?_ rfl ?_); first | omega | exact ⟨by decide, by decide, by decide⟩ | exact .inl ⟨by decide, by decide⟩ | exact .inl ⟨by omega, by omega⟩ | exact .inr ⟨by omega, by omega⟩ | fail) | ((fail_if_success refine Exists.intro (α := Nat → Nat → L2.St → Hp → Prop) ?_ ?_); (fail_if_success refine Exists.intro (α := L2.St → Hp → Prop) ?_ ?_); (fail_if_success refine Exists.intro (α := Nat → L2.St → Hp → Prop) ?_ ?_); apply Exists.intro) | ((refine And.intro ?_ ?_); first | with_reducible rfl | with_reducible assumption | rfl | ((with_reducible apply SqL.of); assumption) | ((with_reducible apply SqT.of); assumption) | ((with_reducible apply OwnC.cl); assumption) | (with_reducible exact isI_int _) | exact within_args | (with_reducible exact upd_same) | ((with_reducible apply Mid.o); assumption) | ((with_reducible apply Mid.t); assumption) | exact .inl ⟨rfl, _, SqL.of (by assumption)⟩ | (with_reducible exact ⟨_, SqT.of (by assumption)⟩) | (with_reducible exact ⟨_, SqL.of (by assumption)⟩) | omega | exact Nat.le_of_ble_eq_true rfl | exact nat9 (by omega) | exact ⟨_, rfl⟩ | (show _ ≤ sizeLine; decide) | exact ⟨by decide, by decide, by decide⟩ | exact .inl ⟨by decide, by decide⟩ | exact .inl ⟨by omega, by omega⟩ | exact .inr ⟨by omega, by omega⟩ | assumption | fail) | ((with_reducible refine iteF' ?_ ?_); first | rfl | exact decide_eq_false (by omega) | exact in_no (by omega) (by omega) | exact in_no (by omega) (by assumption) | (simp <;> fail) | fail) | ((with_reducible refine iteT' ?_ ?_); first | rfl | exact decide_eq_true (by omega) | (simp <;> fail) | fail))
          intro t2 h_t2; have np_t2 := M.pD h_t2; have nb_t2 := M.bD h_t2; generalize hE : upd _ t2 _ = H2; obtain ⟨S_t2, g_t2⟩ := new_facts h_t2 hE; clear hE; replace M := M.same S_t2; replace kp := kp.same S_t2; replace g_t1 := S_t2 _ _ g_t1; replace g_tr := S_t2 _ _ g_tr
          refine ⟨.tuple [.str "store", .str "store"], .tuple [.str "store", .str "store"], Dp.tup (SqT.of g_t1) (.cons (.str _) (.cons (.str _) .nil)), Dp.tup (SqT.of g_t2) (.cons (.str _) (.cons (.str _) .nil)), sh1, sh1, _, rfl, ?_⟩
          rw [SeqAt.eqv_refl _ (SeqAt.canLay_of_shaped sh1)]
          refine iteF' rfl ?_
          exact ⟨M, kp, g_tr, ⟨_, rfl⟩⟩
        clear M kp g_tr S_tr h_tr np_tr nb_tr
        rintro σ H11 ⟨M, kp, _, ⟨u6, rfl⟩⟩
        repeat (first | (with_reducible refine st_tC ?_) | (with_reducible refine st_tOp ?_) | ((with_reducible apply st_n); rfl; rfl; (first | trivial | (show _ ≤ _; omega) | (show _ < _; omega) | (show _ ∨ _; omega) | assumption | exact ⟨by assumption, by omega⟩ | exact ⟨W30.one, by omega⟩ | fail); rfl) | (with_reducible refine st_i0 rfl rfl rfl ?_) | ((with_reducible refine st_i rfl rfl ?_ rfl ?_); first | omega | exact ⟨by decide, by decide, by decide⟩ | exact .inl ⟨by decide, by decide⟩ | exact .inl ⟨by omega, by omega⟩ | exact .inr ⟨by omega, by omega⟩ | fail) | ((fail_if_success refine Exists.intro (α := Nat → Nat → L2.St → Hp → Prop) ?_ ?_); (fail_if_success refine Exists.intro (α := L2.St → Hp → Prop) ?_ ?_); (fail_if_success refine Exists.intro (α := Nat → L2.St → Hp → Prop) ?_ ?_); apply Exists.intro) | ((refine And.intro ?_ ?_); first | with_reducible rfl | with_reducible assumption | rfl | ((with_reducible apply SqL.of); assumption) | ((with_reducible apply SqT.of); assumption) | ((with_reducible apply OwnC.cl); assumption) | (with_reducible exact isI_int _) | exact within_args | (with_reducible exact upd_same) | ((with_reducible apply Mid.o); assumption) | ((with_reducible apply Mid.t); assumption) | exact .inl ⟨rfl, _, SqL.of (by assumption)⟩ | (with_reducible exact ⟨_, SqT.of (by assumption)⟩) | (with_reducible exact ⟨_, SqL.of (by assumption)⟩) | omega | exact Nat.le_of_ble_eq_true rfl | exact nat9 (by omega) | exact ⟨_, rfl⟩ | (show _ ≤ sizeLine; decide) | exact ⟨by decide, by decide, by decide⟩ | exact .inl ⟨by decide, by decide⟩ | exact .inl ⟨by omega, by omega⟩ | exact .inr ⟨by omega, by omega⟩ | assumption | fail) | ((with_reducible refine iteF' ?_ ?_); first | rfl | exact decide_eq_false (by omega) | exact in_no (by omega) (by omega) | exact in_no (by omega) (by assumption) | (simp <;> fail) | fail) | ((with_reducible refine iteT' ?_ ?_); first | rfl | exact decide_eq_true (by omega) | (simp <;> fail) | fail))
        intro Ha ea Ta
        replace M := M.ext ea Ta
        replace kp := kp.ext ea
        rcases badS _ kp with ⟨ty, hty, hkt⟩ | rfl
        · repeat (first | (with_reducible refine st_tC ?_) | (with_reducible refine st_tOp ?_) | ((with_reducible apply st_n); rfl; rfl; (first | trivial | (show _ ≤ _; omega) | (show _ < _; omega) | (show _ ∨ _; omega) | assumption | exact ⟨by assumption, by omega⟩ | exact ⟨W30.one, by omega⟩ | fail); rfl) | (with_reducible refine st_i0 rfl rfl rfl ?_) | ((with_reducible refine st_i rfl rfl ?_ rfl ?_); first | omega | exact ⟨by decide, by decide, by decide⟩ | exact .inl ⟨by decide, by decide⟩ | exact .inl ⟨by omega, by omega⟩ | exact .inr ⟨by omega, by omega⟩ | fail) | ((fail_if_success refine Exists.intro (α := Nat → Nat → L2.St → Hp → Prop) ?_ ?_); (fail_if_success refine Exists.intro (α := L2.St → Hp → Prop) ?_ ?_); (fail_if_success refine Exists.intro (α := Nat → L2.St → Hp → Prop) ?_ ?_); apply Exists.intro) | ((refine And.intro ?_ ?_); first | with_reducible rfl | with_reducible assumption | rfl | ((with_reducible apply SqL.of); assumption) | ((with_reducible apply SqT.of); assumption) | ((with_reducible apply OwnC.cl); assumption) | (with_reducible exact isI_int _) | exact within_args | (with_reducible exact upd_same) | ((with_reducible apply Mid.o); assumption) | ((with_reducible apply Mid.t); assumption) | exact .inl ⟨rfl, _, SqL.of (by assumption)⟩ | (with_reducible exact ⟨_, SqT.of (by assumption)⟩) | (with_reducible exact ⟨_, SqL.of (by assumption)⟩) | omega | exact Nat.le_of_ble_eq_true rfl | exact nat9 (by omega) | exact ⟨_, rfl⟩ | (show _ ≤ sizeLine; decide) | exact ⟨by decide, by decide, by decide⟩ | exact .inl ⟨by decide, by decide⟩ | exact .inl ⟨by omega, by omega⟩ | exact .inr ⟨by omega, by omega⟩ | assumption | fail) | ((with_reducible refine iteF' ?_ ?_); first | rfl | exact decide_eq_false (by omega) | exact in_no (by omega) (by omega) | exact in_no (by omega) (by assumption) | (simp <;> fail) | fail) | ((with_reducible refine iteT' ?_ ?_); first | rfl | exact decide_eq_true (by omega) | (simp <;> fail) | fail))
          refine ⟨.ty _, hty, hkt, false, rfl, ?_⟩
          refine iteT ?_
          repeat (first | (with_reducible refine st_tC ?_) | (with_reducible refine st_tOp ?_) | ((with_reducible apply st_n); rfl; rfl; (first | trivial | (show _ ≤ _; omega) | (show _ < _; omega) | (show _ ∨ _; omega) | assumption | exact ⟨by assumption, by omega⟩ | exact ⟨W30.one, by omega⟩ | fail); rfl) | (with_reducible refine st_i0 rfl rfl rfl ?_) | ((with_reducible refine st_i rfl rfl ?_ rfl ?_); first | omega | exact ⟨by decide, by decide, by decide⟩ | exact .inl ⟨by decide, by decide⟩ | exact .inl ⟨by omega, by omega⟩ | exact .inr ⟨by omega, by omega⟩ | fail) | ((fail_if_success refine Exists.intro (α := Nat → Nat → L2.St → Hp → Prop) ?_ ?_); (fail_if_success refine Exists.intro (α := L2.St → Hp → Prop) ?_ ?_); (fail_if_success refine Exists.intro (α := Nat → L2.St → Hp → Prop) ?_ ?_); apply Exists.intro) | ((refine And.intro ?_ ?_); first | with_reducible rfl | with_reducible assumption | rfl | ((with_reducible apply SqL.of); assumption) | ((with_reducible apply SqT.of); assumption) | ((with_reducible apply OwnC.cl); assumption) | (with_reducible exact isI_int _) | exact within_args | (with_reducible exact upd_same) | ((with_reducible apply Mid.o); assumption) | ((with_reducible apply Mid.t); assumption) | exact .inl ⟨rfl, _, SqL.of (by assumption)⟩ | (with_reducible exact ⟨_, SqT.of (by assumption)⟩) | (with_reducible exact ⟨_, SqL.of (by assumption)⟩) | omega | exact Nat.le_of_ble_eq_true rfl | exact nat9 (by omega) | exact ⟨_, rfl⟩ | (show _ ≤ sizeLine; decide) | exact ⟨by decide, by decide, by decide⟩ | exact .inl ⟨by decide, by decide⟩ | exact .inl ⟨by omega, by omega⟩ | exact .inr ⟨by omega, by omega⟩ | assumption | fail) | ((with_reducible refine iteF' ?_ ?_); first | rfl | exact decide_eq_false (by omega) | exact in_no (by omega) (by omega) | exact in_no (by omega) (by assumption) | (simp <;> fail) | fail) | ((with_reducible refine iteT' ?_ ?_); first | rfl | exact decide_eq_true (by omega) | (simp <;> fail) | fail))
          refine .inl ⟨⟨ty, hty, hkt⟩, fun dd hdd => ⟨dd, rfl, .inr ⟨rfl, 0, 0, upd_same, fun t1 Hb Sb g_t1 => ?_⟩⟩⟩
          have Sd := (same_new (o := .xd [(("item" : Str), .int 0), (("line" : Str), .int 0)]) hdd).trans Sb
          replace M := M.same Sd; replace kp := kp.same Sd
          clear Sd Sb hdd ea Ta
          repeat (first | (with_reducible refine st_tC ?_) | (with_reducible refine st_tOp ?_) | ((with_reducible apply st_n); rfl; rfl; (first | trivial | (show _ ≤ _; omega) | (show _ < _; omega) | (show _ ∨ _; omega) | assumption | exact ⟨by assumption, by omega⟩ | exact ⟨W30.one, by omega⟩ | fail); rfl) | (with_reducible refine st_i0 rfl rfl rfl ?_) | ((with_reducible refine st_i rfl rfl ?_ rfl ?_); first | omega | exact ⟨by decide, by decide, by decide⟩ | exact .inl ⟨by decide, by decide⟩ | exact .inl ⟨by omega, by omega⟩ | exact .inr ⟨by omega, by omega⟩ | fail) | ((fail_if_success refine Exists.intro (α := Nat → Nat → L2.St → Hp → Prop) ?_ ?_); (fail_if_success refine Exists.intro (α := L2.St → Hp → Prop) ?_ ?_); (fail_if_success refine Exists.intro (α := Nat → L2.St → Hp → Prop) ?_ ?_); apply Exists.intro) | ((refine And.intro ?_ ?_); first | with_reducible rfl | with_reducible assumption | rfl | ((with_reducible apply SqL.of); assumption) | ((with_reducible apply SqT.of); assumption) | ((with_reducible apply OwnC.cl); assumption) | (with_reducible exact isI_int _) | exact within_args | (with_reducible exact upd_same) | ((with_reducible apply Mid.o); assumption) | ((with_reducible apply Mid.t); assumption) | exact .inl ⟨rfl, _, SqL.of (by assumption)⟩ | (with_reducible exact ⟨_, SqT.of (by assumption)⟩) | (with_reducible exact ⟨_, SqL.of (by assumption)⟩) | omega | exact Nat.le_of_ble_eq_true rfl | exact nat9 (by omega) | exact ⟨_, rfl⟩ | (show _ ≤ sizeLine; decide) | exact ⟨by decide, by decide, by decide⟩ | exact .inl ⟨by decide, by decide⟩ | exact .inl ⟨by omega, by omega⟩ | exact .inr ⟨by omega, by omega⟩ | assumption | fail) | ((with_reducible refine iteF' ?_ ?_); first | rfl | exact decide_eq_false (by omega) | exact in_no (by omega) (by omega) | exact in_no (by omega) (by assumption) | (simp <;> fail) | fail) | ((with_reducible refine iteT' ?_ ?_); first | rfl | exact decide_eq_true (by omega) | (simp <;> fail) | fail))
          intro h h_h; have np_h := M.pD h_h; have nb_h := M.bD h_h; generalize hE : upd _ h _ = H12; obtain ⟨S_h, g_h⟩ := new_facts h_h hE; clear hE; replace M := M.same S_h; replace kp := kp.same S_h; replace g_t1 := S_h _ _ g_t1
          repeat (first | (refine ⟨.inl ⟨rfl, _, SqL.of (by assumption)⟩, ?_⟩) | (with_reducible refine st_tC ?_) | (with_reducible refine st_tOp ?_) | ((with_reducible apply st_n); rfl; rfl; (first | trivial | (show _ ≤ _; omega) | (show _ < _; omega) | (show _ ∨ _; omega) | assumption | exact ⟨by assumption, by omega⟩ | exact ⟨W30.one, by omega⟩ | fail); rfl) | (with_reducible refine st_i0 rfl rfl rfl ?_) | ((with_reducible refine st_i rfl rfl ?_ rfl ?_); first | omega | exact ⟨by decide, by decide, by decide⟩ | exact .inl ⟨by decide, by decide⟩ | exact .inl ⟨by omega, by omega⟩ | exact .inr ⟨by omega, by omega⟩ | fail) | ((fail_if_success refine Exists.intro (α := Nat → Nat → L2.St → Hp → Prop) ?_ ?_); (fail_if_success refine Exists.intro (α := L2.St → Hp → Prop) ?_ ?_); (fail_if_success refine Exists.intro (α := Nat → L2.St → Hp → Prop) ?_ ?_); apply Exists.intro) | ((refine And.intro ?_ ?_); first | with_reducible rfl | with_reducible assumption | rfl | ((with_reducible apply SqL.of); assumption) | ((with_reducible apply SqT.of); assumption) | ((with_reducible apply OwnC.cl); assumption) | (with_reducible exact isI_int _) | exact within_args | (with_reducible exact upd_same) | ((with_reducible apply Mid.o); assumption) | ((with_reducible apply Mid.t); assumption) | exact .inl ⟨rfl, _, SqL.of (by assumption)⟩ | (with_reducible exact ⟨_, SqT.of (by assumption)⟩) | (with_reducible exact ⟨_, SqL.of (by assumption)⟩) | omega | exact Nat.le_of_ble_eq_true rfl | exact nat9 (by omega) | exact ⟨_, rfl⟩ | (show _ ≤ sizeLine; decide) | exact ⟨by decide, by decide, by decide⟩ | exact .inl ⟨by decide, by decide⟩ | exact .inl ⟨by omega, by omega⟩ | exact .inr ⟨by omega, by omega⟩ | assumption | fail) | ((with_reducible refine iteF' ?_ ?_); first | rfl | exact decide_eq_false (by omega) | exact in_no (by omega) (by omega) | exact in_no (by omega) (by assumption) | (simp <;> fail) | fail) | ((with_reducible refine iteT' ?_ ?_); first | rfl | exact decide_eq_true (by omega) | (simp <;> fail) | fail))
          intro Hc ea Ta
          replace M := M.ext ea Ta
          replace kp := kp.ext ea
          replace g_h := ea _ _ g_h (fun _ z => nomatch z)
          replace g_t1 := ea _ _ g_t1 (fun _ z => nomatch z)
          have nO := badO _ kp
          repeat (first | (with_reducible refine st_tC ?_) | (with_reducible refine st_tOp ?_) | ((with_reducible apply st_n); rfl; rfl; (first | trivial | (show _ ≤ _; omega) | (show _ < _; omega) | (show _ ∨ _; omega) | assumption | exact ⟨by assumption, by omega⟩ | exact ⟨W30.one, by omega⟩ | fail); rfl) | (with_reducible refine st_i0 rfl rfl rfl ?_) | ((with_reducible refine st_i rfl rfl ?_ rfl ?_); first | omega | exact ⟨by decide, by decide, by decide⟩ | exact .inl ⟨by decide, by decide⟩ | exact .inl ⟨by omega, by omega⟩ | exact .inr ⟨by omega, by omega⟩ | fail) | ((fail_if_success refine Exists.intro (α := Nat → Nat → L2.St → Hp → Prop) ?_ ?_); (fail_if_success refine Exists.intro (α := L2.St → Hp → Prop) ?_ ?_); (fail_if_success refine Exists.intro (α := Nat → L2.St → Hp → Prop) ?_ ?_); apply Exists.intro) | ((refine And.intro ?_ ?_); first | with_reducible rfl | with_reducible assumption | rfl | ((with_reducible apply SqL.of); assumption) | ((with_reducible apply SqT.of); assumption) | ((with_reducible apply OwnC.cl); assumption) | (with_reducible exact isI_int _) | exact within_args | (with_reducible exact upd_same) | ((with_reducible apply Mid.o); assumption) | ((with_reducible apply Mid.t); assumption) | exact .inl ⟨rfl, _, SqL.of (by assumption)⟩ | (with_reducible exact ⟨_, SqT.of (by assumption)⟩) | (with_reducible exact ⟨_, SqL.of (by assumption)⟩) | omega | exact Nat.le_of_ble_eq_true rfl | exact nat9 (by omega) | exact ⟨_, rfl⟩ | (show _ ≤ sizeLine; decide) | exact ⟨by decide, by decide, by decide⟩ | exact .inl ⟨by decide, by decide⟩ | exact .inl ⟨by omega, by omega⟩ | exact .inr ⟨by omega, by omega⟩ | assumption | fail) | ((with_reducible refine iteF' ?_ ?_); first | rfl | exact decide_eq_false (by omega) | exact in_no (by omega) (by omega) | exact in_no (by omega) (by assumption) | (simp <;> fail) | fail) | ((with_reducible refine iteT' ?_ ?_); first | rfl | exact decide_eq_true (by omega) | (simp <;> fail) | fail))
          intro dd hdd
          refine ⟨dd, rfl, .inl ⟨rfl, _, upd_same, fun t2 Hd Sd g_t2 => ?_⟩⟩
          have Se := (same_new (o := .xd [(("part" : Str), .str "store")]) hdd).trans Sd
          replace g_h := Se _ _ g_h
          replace g_t1 := Se _ _ g_t1
          clear Se Sd hdd ea Ta nO kp M
          repeat (first | (with_reducible refine st_tC ?_) | (with_reducible refine st_tOp ?_) | ((with_reducible apply st_n); rfl; rfl; (first | trivial | (show _ ≤ _; omega) | (show _ < _; omega) | (show _ ∨ _; omega) | assumption | exact ⟨by assumption, by omega⟩ | exact ⟨W30.one, by omega⟩ | fail); rfl) | (with_reducible refine st_i0 rfl rfl rfl ?_) | ((with_reducible refine st_i rfl rfl ?_ rfl ?_); first | omega | exact ⟨by decide, by decide, by decide⟩ | exact .inl ⟨by decide, by decide⟩ | exact .inl ⟨by omega, by omega⟩ | exact .inr ⟨by omega, by omega⟩ | fail) | ((fail_if_success refine Exists.intro (α := Nat → Nat → L2.St → Hp → Prop) ?_ ?_); (fail_if_success refine Exists.intro (α := L2.St → Hp → Prop) ?_ ?_); (fail_if_success refine Exists.intro (α := Nat → L2.St → Hp → Prop) ?_ ?_); apply Exists.intro) | ((refine And.intro ?_ ?_); first | with_reducible rfl | with_reducible assumption | rfl | ((with_reducible apply SqL.of); assumption) | ((with_reducible apply SqT.of); assumption) | ((with_reducible apply OwnC.cl); assumption) | (with_reducible exact isI_int _) | exact within_args | (with_reducible exact upd_same) | ((with_reducible apply Mid.o); assumption) | ((with_reducible apply Mid.t); assumption) | exact .inl ⟨rfl, _, SqL.of (by assumption)⟩ | (with_reducible exact ⟨_, SqT.of (by assumption)⟩) | (with_reducible exact ⟨_, SqL.of (by assumption)⟩) | omega | exact Nat.le_of_ble_eq_true rfl | exact nat9 (by omega) | exact ⟨_, rfl⟩ | (show _ ≤ sizeLine; decide) | exact ⟨by decide, by decide, by decide⟩ | exact .inl ⟨by decide, by decide⟩ | exact .inl ⟨by omega, by omega⟩ | exact .inr ⟨by omega, by omega⟩ | assumption | fail) | ((with_reducible refine iteF' ?_ ?_); first | rfl | exact decide_eq_false (by omega) | exact in_no (by omega) (by omega) | exact in_no (by omega) (by assumption) | (simp <;> fail) | fail) | ((with_reducible refine iteT' ?_ ?_); first | rfl | exact decide_eq_true (by omega) | (simp <;> fail) | fail))
          have ut : ∀ {q : Addr} {xs ys : List V}, Hd q = some (.tup xs) → (upd Hd h (.lst ys)) q = some (.tup xs) := fun {q xs ys} e => by rw [upd_ne (fun z => by rw [z, g_h] at e; cases e)]; exact e
          replace g_t1 := ut (ys := [V.ref t1] ++ [V.ref t2]) g_t1
          replace g_t2 := ut (ys := [V.ref t1] ++ [V.ref t2]) g_t2
          replace g_h : upd Hd h (.lst ([V.ref t1] ++ [V.ref t2])) h = some (.lst ([V.ref t1, V.ref t2])) := upd_same
          clear ut
          generalize upd Hd h _ = H13 at *
          intro q1 h_q1; generalize hE : upd _ q1 _ = H14; obtain ⟨S_q1, g_q1⟩ := new_facts h_q1 hE; clear hE; replace g_t1 := S_q1 _ _ g_t1; replace g_t2 := S_q1 _ _ g_t2; replace g_h := S_q1 _ _ g_h
          repeat (first | (with_reducible refine st_tC ?_) | (with_reducible refine st_tOp ?_) | ((with_reducible apply st_n); rfl; rfl; (first | trivial | (show _ ≤ _; omega) | (show _ < _; omega) | (show _ ∨ _; omega) | assumption | exact ⟨by assumption, by omega⟩ | exact ⟨W30.one, by omega⟩ | fail); rfl) | (with_reducible refine st_i0 rfl rfl rfl ?_) | ((with_reducible refine st_i rfl rfl ?_ rfl ?_); first | omega | exact ⟨by decide, by decide, by decide⟩ | exact .inl ⟨by decide, by decide⟩ | exact .inl ⟨by omega, by omega⟩ | exact .inr ⟨by omega, by omega⟩ | fail) | ((fail_if_success refine Exists.intro (α := Nat → Nat → L2.St → Hp → Prop) ?_ ?_); (fail_if_success refine Exists.intro (α := L2.St → Hp → Prop) ?_ ?_); (fail_if_success refine Exists.intro (α := Nat → L2.St → Hp → Prop) ?_ ?_); apply Exists.intro) | ((refine And.intro ?_ ?_); first | with_reducible rfl | with_reducible assumption | rfl | ((with_reducible apply SqL.of); assumption) | ((with_reducible apply SqT.of); assumption) | ((with_reducible apply OwnC.cl); assumption) | (with_reducible exact isI_int _) | exact within_args | (with_reducible exact upd_same) | ((with_reducible apply Mid.o); assumption) | ((with_reducible apply Mid.t); assumption) | exact .inl ⟨rfl, _, SqL.of (by assumption)⟩ | (with_reducible exact ⟨_, SqT.of (by assumption)⟩) | (with_reducible exact ⟨_, SqL.of (by assumption)⟩) | omega | exact Nat.le_of_ble_eq_true rfl | exact nat9 (by omega) | exact ⟨_, rfl⟩ | (show _ ≤ sizeLine; decide) | exact ⟨by decide, by decide, by decide⟩ | exact .inl ⟨by decide, by decide⟩ | exact .inl ⟨by omega, by omega⟩ | exact .inr ⟨by omega, by omega⟩ | assumption | fail) | ((with_reducible refine iteF' ?_ ?_); first | rfl | exact decide_eq_false (by omega) | exact in_no (by omega) (by omega) | exact in_no (by omega) (by assumption) | (simp <;> fail) | fail) | ((with_reducible refine iteT' ?_ ?_); first | rfl | exact decide_eq_true (by omega) | (simp <;> fail) | fail))
          intro q2 h_q2; generalize hE : upd _ q2 _ = H15; obtain ⟨S_q2, g_q2⟩ := new_facts h_q2 hE; clear hE; replace g_t1 := S_q2 _ _ g_t1; replace g_t2 := S_q2 _ _ g_t2; replace g_h := S_q2 _ _ g_h; replace g_q1 := S_q2 _ _ g_q1
          repeat (first | (with_reducible refine st_tC ?_) | (with_reducible refine st_tOp ?_) | ((with_reducible apply st_n); rfl; rfl; (first | trivial | (show _ ≤ _; omega) | (show _ < _; omega) | (show _ ∨ _; omega) | assumption | exact ⟨by assumption, by omega⟩ | exact ⟨W30.one, by omega⟩ | fail); rfl) | (with_reducible refine st_i0 rfl rfl rfl ?_) | ((with_reducible refine st_i rfl rfl ?_ rfl ?_); first | omega | exact ⟨by decide, by decide, by decide⟩ | exact .inl ⟨by decide, by decide⟩ | exact .inl ⟨by omega, by omega⟩ | exact .inr ⟨by omega, by omega⟩ | fail) | ((fail_if_success refine Exists.intro (α := Nat → Nat → L2.St → Hp → Prop) ?_ ?_); (fail_if_success refine Exists.intro (α := L2.St → Hp → Prop) ?_ ?_); (fail_if_success refine Exists.intro (α := Nat → L2.St → Hp → Prop) ?_ ?_); apply Exists.intro) | ((refine And.intro ?_ ?_); first | with_reducible rfl | with_reducible assumption | rfl | ((with_reducible apply SqL.of); assumption) | ((with_reducible apply SqT.of); assumption) | ((with_reducible apply OwnC.cl); assumption) | (with_reducible exact isI_int _) | exact within_args | (with_reducible exact upd_same) | ((with_reducible apply Mid.o); assumption) | ((with_reducible apply Mid.t); assumption) | exact .inl ⟨rfl, _, SqL.of (by assumption)⟩ | (with_reducible exact ⟨_, SqT.of (by assumption)⟩) | (with_reducible exact ⟨_, SqL.of (by assumption)⟩) | omega | exact Nat.le_of_ble_eq_true rfl | exact nat9 (by omega) | exact ⟨_, rfl⟩ | (show _ ≤ sizeLine; decide) | exact ⟨by decide, by decide, by decide⟩ | exact .inl ⟨by decide, by decide⟩ | exact .inl ⟨by omega, by omega⟩ | exact .inr ⟨by omega, by omega⟩ | assumption | fail) | ((with_reducible refine iteF' ?_ ?_); first | rfl | exact decide_eq_false (by omega) | exact in_no (by omega) (by omega) | exact in_no (by omega) (by assumption) | (simp <;> fail) | fail) | ((with_reducible refine iteT' ?_ ?_); first | rfl | exact decide_eq_true (by omega) | (simp <;> fail) | fail))
          intro qa h_qa; generalize hE : upd _ qa _ = H16; obtain ⟨S_qa, g_qa⟩ := new_facts h_qa hE; clear hE; replace g_t1 := S_qa _ _ g_t1; replace g_t2 := S_qa _ _ g_t2; replace g_h := S_qa _ _ g_h; replace g_q1 := S_qa _ _ g_q1; replace g_q2 := S_qa _ _ g_q2
          refine ⟨.list [.tuple [.str "text", .int 0, .int 0], .tuple [.str "store", .str "store"]], .list [.tuple [.str "text", .int 0, .int 0], .tuple [.str "store", .str "store"]],
            Dp.lst (SqL.of g_h) (.cons (Dp.tup (SqT.of g_t1) (.cons (.str _) (.cons (.int _) (.cons (.int _) .nil)))) (.cons (Dp.tup (SqT.of g_t2) (.cons (.str _) (.cons (.str _) .nil))) .nil)), Dp.lst (SqL.of g_qa) (.cons (Dp.tup (SqT.of g_q1) (.cons (.str _) (.cons (.int _) (.cons (.int _) .nil)))) (.cons (Dp.tup (SqT.of g_q2) (.cons (.str _) (.cons (.str _) .nil))) .nil)), by decide +kernel, by decide +kernel, ?_⟩
          rw [SeqAt.eqv_refl _ (by decide +kernel)]
          exact k _
        · repeat (first | (with_reducible refine st_tC ?_) | (with_reducible refine st_tOp ?_) | ((with_reducible apply st_n); rfl; rfl; (first | trivial | (show _ ≤ _; omega) | (show _ < _; omega) | (show _ ∨ _; omega) | assumption | exact ⟨by assumption, by omega⟩ | exact ⟨W30.one, by omega⟩ | fail); rfl) | (with_reducible refine st_i0 rfl rfl rfl ?_) | ((with_reducible refine st_i rfl rfl ?_ rfl ?_); first | omega | exact ⟨by decide, by decide, by decide⟩ | exact .inl ⟨by decide, by decide⟩ | exact .inl ⟨by omega, by omega⟩ | exact .inr ⟨by omega, by omega⟩ | fail) | ((fail_if_success refine Exists.intro (α := Nat → Nat → L2.St → Hp → Prop) ?_ ?_); (fail_if_success refine Exists.intro (α := L2.St → Hp → Prop) ?_ ?_); (fail_if_success refine Exists.intro (α := Nat → L2.St → Hp → Prop) ?_ ?_); apply Exists.intro) | ((refine And.intro ?_ ?_); first | with_reducible rfl | with_reducible assumption | rfl | ((with_reducible apply SqL.of); assumption) | ((with_reducible apply SqT.of); assumption) | ((with_reducible apply OwnC.cl); assumption) | (with_reducible exact isI_int _) | exact within_args | (with_reducible exact upd_same) | ((with_reducible apply Mid.o); assumption) | ((with_reducible apply Mid.t); assumption) | exact .inl ⟨rfl, _, SqL.of (by assumption)⟩ | (with_reducible exact ⟨_, SqT.of (by assumption)⟩) | (with_reducible exact ⟨_, SqL.of (by assumption)⟩) | omega | exact Nat.le_of_ble_eq_true rfl | exact nat9 (by omega) | exact ⟨_, rfl⟩ | (show _ ≤ sizeLine; decide) | exact ⟨by decide, by decide, by decide⟩ | exact .inl ⟨by decide, by decide⟩ | exact .inl ⟨by omega, by omega⟩ | exact .inr ⟨by omega, by omega⟩ | assumption | fail) | ((with_reducible refine iteF' ?_ ?_); first | rfl | exact decide_eq_false (by omega) | exact in_no (by omega) (by omega) | exact in_no (by omega) (by assumption) | (simp <;> fail) | fail) | ((with_reducible refine iteT' ?_ ?_); first | rfl | exact decide_eq_true (by omega) | (simp <;> fail) | fail))
          refine ⟨.ty _, .base (.str _), kit_ty (by decide +kernel), true, rfl, ?_⟩
          refine iteF ?_
          repeat (first | (with_reducible refine st_tC ?_) | (with_reducible refine st_tOp ?_) | ((with_reducible apply st_n); rfl; rfl; (first | trivial | (show _ ≤ _; omega) | (show _ < _; omega) | (show _ ∨ _; omega) | assumption | exact ⟨by assumption, by omega⟩ | exact ⟨W30.one, by omega⟩ | fail); rfl) | (with_reducible refine st_i0 rfl rfl rfl ?_) | ((with_reducible refine st_i rfl rfl ?_ rfl ?_); first | omega | exact ⟨by decide, by decide, by decide⟩ | exact .inl ⟨by decide, by decide⟩ | exact .inl ⟨by omega, by omega⟩ | exact .inr ⟨by omega, by omega⟩ | fail) | ((fail_if_success refine Exists.intro (α := Nat → Nat → L2.St → Hp → Prop) ?_ ?_); (fail_if_success refine Exists.intro (α := L2.St → Hp → Prop) ?_ ?_); (fail_if_success refine Exists.intro (α := Nat → L2.St → Hp → Prop) ?_ ?_); apply Exists.intro) | ((refine And.intro ?_ ?_); first | with_reducible rfl | with_reducible assumption | rfl | ((with_reducible apply SqL.of); assumption) | ((with_reducible apply SqT.of); assumption) | ((with_reducible apply OwnC.cl); assumption) | (with_reducible exact isI_int _) | exact within_args | (with_reducible exact upd_same) | ((with_reducible apply Mid.o); assumption) | ((with_reducible apply Mid.t); assumption) | exact .inl ⟨rfl, _, SqL.of (by assumption)⟩ | (with_reducible exact ⟨_, SqT.of (by assumption)⟩) | (with_reducible exact ⟨_, SqL.of (by assumption)⟩) | omega | exact Nat.le_of_ble_eq_true rfl | exact nat9 (by omega) | exact ⟨_, rfl⟩ | (show _ ≤ sizeLine; decide) | exact ⟨by decide, by decide, by decide⟩ | exact .inl ⟨by decide, by decide⟩ | exact .inl ⟨by omega, by omega⟩ | exact .inr ⟨by omega, by omega⟩ | assumption | fail) | ((with_reducible refine iteF' ?_ ?_); first | rfl | exact decide_eq_false (by omega) | exact in_no (by omega) (by omega) | exact in_no (by omega) (by assumption) | (simp <;> fail) | fail) | ((with_reducible refine iteT' ?_ ?_); first | rfl | exact decide_eq_true (by omega) | (simp <;> fail) | fail))
          refine .inl ⟨⟨_, .base .non, kit_ty (by decide +kernel)⟩, fun dd hdd => ⟨dd, rfl, .inr ⟨rfl, 0, 0, upd_same, fun t1 Hb Sb g_t1 => ?_⟩⟩⟩
          have Sd := (same_new (o := .xd [(("item" : Str), .int 0), (("line" : Str), .int 0)]) hdd).trans Sb
          replace M := M.same Sd; replace kp := kp.same Sd
          clear Sd Sb hdd ea Ta
          repeat (first | (with_reducible refine st_tC ?_) | (with_reducible refine st_tOp ?_) | ((with_reducible apply st_n); rfl; rfl; (first | trivial | (show _ ≤ _; omega) | (show _ < _; omega) | (show _ ∨ _; omega) | assumption | exact ⟨by assumption, by omega⟩ | exact ⟨W30.one, by omega⟩ | fail); rfl) | (with_reducible refine st_i0 rfl rfl rfl ?_) | ((with_reducible refine st_i rfl rfl ?_ rfl ?_); first | omega | exact ⟨by decide, by decide, by decide⟩ | exact .inl ⟨by decide, by decide⟩ | exact .inl ⟨by omega, by omega⟩ | exact .inr ⟨by omega, by omega⟩ | fail) | ((fail_if_success refine Exists.intro (α := Nat → Nat → L2.St → Hp → Prop) ?_ ?_); (fail_if_success refine Exists.intro (α := L2.St → Hp → Prop) ?_ ?_); (fail_if_success refine Exists.intro (α := Nat → L2.St → Hp → Prop) ?_ ?_); apply Exists.intro) | ((refine And.intro ?_ ?_); first | with_reducible rfl | with_reducible assumption | rfl | ((with_reducible apply SqL.of); assumption) | ((with_reducible apply SqT.of); assumption) | ((with_reducible apply OwnC.cl); assumption) | (with_reducible exact isI_int _) | exact within_args | (with_reducible exact upd_same) | ((with_reducible apply Mid.o); assumption) | ((with_reducible apply Mid.t); assumption) | exact .inl ⟨rfl, _, SqL.of (by assumption)⟩ | (with_reducible exact ⟨_, SqT.of (by assumption)⟩) | (with_reducible exact ⟨_, SqL.of (by assumption)⟩) | omega | exact Nat.le_of_ble_eq_true rfl | exact nat9 (by omega) | exact ⟨_, rfl⟩ | (show _ ≤ sizeLine; decide) | exact ⟨by decide, by decide, by decide⟩ | exact .inl ⟨by decide, by decide⟩ | exact .inl ⟨by omega, by omega⟩ | exact .inr ⟨by omega, by omega⟩ | assumption | fail) | ((with_reducible refine iteF' ?_ ?_); first | rfl | exact decide_eq_false (by omega) | exact in_no (by omega) (by omega) | exact in_no (by omega) (by assumption) | (simp <;> fail) | fail) | ((with_reducible refine iteT' ?_ ?_); first | rfl | exact decide_eq_true (by omega) | (simp <;> fail) | fail))
          intro h h_h; have np_h := M.pD h_h; have nb_h := M.bD h_h; generalize hE : upd _ h _ = H12; obtain ⟨S_h, g_h⟩ := new_facts h_h hE; clear hE; replace M := M.same S_h; replace kp := kp.same S_h; replace g_t1 := S_h _ _ g_t1
          repeat (first | (refine ⟨.inl ⟨rfl, _, SqL.of (by assumption)⟩, ?_⟩) | (with_reducible refine st_tC ?_) | (with_reducible refine st_tOp ?_) | ((with_reducible apply st_n); rfl; rfl; (first | trivial | (show _ ≤ _; omega) | (show _ < _; omega) | (show _ ∨ _; omega) | assumption | exact ⟨by assumption, by omega⟩ | exact ⟨W30.one, by omega⟩ | fail); rfl) | (with_reducible refine st_i0 rfl rfl rfl ?_) | ((with_reducible refine st_i rfl rfl ?_ rfl ?_); first | omega | exact ⟨by decide, by decide, by decide⟩ | exact .inl ⟨by decide, by decide⟩ | exact .inl ⟨by omega, by omega⟩ | exact .inr ⟨by omega, by omega⟩ | fail) | ((fail_if_success refine Exists.intro (α := Nat → Nat → L2.St → Hp → Prop) ?_ ?_); (fail_if_success refine Exists.intro (α := L2.St → Hp → Prop) ?_ ?_); (fail_if_success refine Exists.intro (α := Nat → L2.St → Hp → Prop) ?_ ?_); apply Exists.intro) | ((refine And.intro ?_ ?_); first | with_reducible rfl | with_reducible assumption | rfl | ((with_reducible apply SqL.of); assumption) | ((with_reducible apply SqT.of); assumption) | ((with_reducible apply OwnC.cl); assumption) | (with_reducible exact isI_int _) | exact within_args | (with_reducible exact upd_same) | ((with_reducible apply Mid.o); assumption) | ((with_reducible apply Mid.t); assumption) | exact .inl ⟨rfl, _, SqL.of (by assumption)⟩ | (with_reducible exact ⟨_, SqT.of (by assumption)⟩) | (with_reducible exact ⟨_, SqL.of (by assumption)⟩) | omega | exact Nat.le_of_ble_eq_true rfl | exact nat9 (by omega) | exact ⟨_, rfl⟩ | (show _ ≤ sizeLine; decide) | exact ⟨by decide, by decide, by decide⟩ | exact .inl ⟨by decide, by decide⟩ | exact .inl ⟨by omega, by omega⟩ | exact .inr ⟨by omega, by omega⟩ | assumption | fail) | ((with_reducible refine iteF' ?_ ?_); first | rfl | exact decide_eq_false (by omega) | exact in_no (by omega) (by omega) | exact in_no (by omega) (by assumption) | (simp <;> fail) | fail) | ((with_reducible refine iteT' ?_ ?_); first | rfl | exact decide_eq_true (by omega) | (simp <;> fail) | fail))
          intro Hc ea Ta
          replace M := M.ext ea Ta
          replace kp := kp.ext ea
          replace g_h := ea _ _ g_h (fun _ z => nomatch z)
          replace g_t1 := ea _ _ g_t1 (fun _ z => nomatch z)
          have nO := badO _ kp
          repeat (first | (with_reducible refine st_tC ?_) | (with_reducible refine st_tOp ?_) | ((with_reducible apply st_n); rfl; rfl; (first | trivial | (show _ ≤ _; omega) | (show _ < _; omega) | (show _ ∨ _; omega) | assumption | exact ⟨by assumption, by omega⟩ | exact ⟨W30.one, by omega⟩ | fail); rfl) | (with_reducible refine st_i0 rfl rfl rfl ?_) | ((with_reducible refine st_i rfl rfl ?_ rfl ?_); first | omega | exact ⟨by decide, by decide, by decide⟩ | exact .inl ⟨by decide, by decide⟩ | exact .inl ⟨by omega, by omega⟩ | exact .inr ⟨by omega, by omega⟩ | fail) | ((fail_if_success refine Exists.intro (α := Nat → Nat → L2.St → Hp → Prop) ?_ ?_); (fail_if_success refine Exists.intro (α := L2.St → Hp → Prop) ?_ ?_); (fail_if_success refine Exists.intro (α := Nat → L2.St → Hp → Prop) ?_ ?_); apply Exists.intro) | ((refine And.intro ?_ ?_); first | with_reducible rfl | with_reducible assumption | rfl | ((with_reducible apply SqL.of); assumption) | ((with_reducible apply SqT.of); assumption) | ((with_reducible apply OwnC.cl); assumption) | (with_reducible exact isI_int _) | exact within_args | (with_reducible exact upd_same) | ((with_reducible apply Mid.o); assumption) | ((with_reducible apply Mid.t); assumption) | exact .inl ⟨rfl, _, SqL.of (by assumption)⟩ | (with_reducible exact ⟨_, SqT.of (by assumption)⟩) | (with_reducible exact ⟨_, SqL.of (by assumption)⟩) | omega | exact Nat.le_of_ble_eq_true rfl | exact nat9 (by omega) | exact ⟨_, rfl⟩ | (show _ ≤ sizeLine; decide) | exact ⟨by decide, by decide, by decide⟩ | exact .inl ⟨by decide, by decide⟩ | exact .inl ⟨by omega, by omega⟩ | exact .inr ⟨by omega, by omega⟩ | assumption | fail) | ((with_reducible refine iteF' ?_ ?_); first | rfl | exact decide_eq_false (by omega) | exact in_no (by omega) (by omega) | exact in_no (by omega) (by assumption) | (simp <;> fail) | fail) | ((with_reducible refine iteT' ?_ ?_); first | rfl | exact decide_eq_true (by omega) | (simp <;> fail) | fail))
          intro dd hdd
          refine ⟨dd, rfl, .inl ⟨rfl, _, upd_same, fun t2 Hd Sd g_t2 => ?_⟩⟩
          have Se := (same_new (o := .xd [(("part" : Str), .str "store")]) hdd).trans Sd
          replace g_h := Se _ _ g_h
          replace g_t1 := Se _ _ g_t1
          clear Se Sd hdd ea Ta nO kp M
          repeat (first | (with_reducible refine st_tC ?_) | (with_reducible refine st_tOp ?_) | ((with_reducible apply st_n); rfl; rfl; (first | trivial | (show _ ≤ _; omega) | (show _ < _; omega) | (show _ ∨ _; omega) | assumption | exact ⟨by assumption, by omega⟩ | exact ⟨W30.one, by omega⟩ | fail); rfl) | (with_reducible refine st_i0 rfl rfl rfl ?_) | ((with_reducible refine st_i rfl rfl ?_ rfl ?_); first | omega | exact ⟨by decide, by decide, by decide⟩ | exact .inl ⟨by decide, by decide⟩ | exact .inl ⟨by omega, by omega⟩ | exact .inr ⟨by omega, by omega⟩ | fail) | ((fail_if_success refine Exists.intro (α := Nat → Nat → L2.St → Hp → Prop) ?_ ?_); (fail_if_success refine Exists.intro (α := L2.St → Hp → Prop) ?_ ?_); (fail_if_success refine Exists.intro (α := Nat → L2.St → Hp → Prop) ?_ ?_); apply Exists.intro) | ((refine And.intro ?_ ?_); first | with_reducible rfl | with_reducible assumption | rfl | ((with_reducible apply SqL.of); assumption) | ((with_reducible apply SqT.of); assumption) | ((with_reducible apply OwnC.cl); assumption) | (with_reducible exact isI_int _) | exact within_args | (with_reducible exact upd_same) | ((with_reducible apply Mid.o); assumption) | ((with_reducible apply Mid.t); assumption) | exact .inl ⟨rfl, _, SqL.of (by assumption)⟩ | (with_reducible exact ⟨_, SqT.of (by assumption)⟩) | (with_reducible exact ⟨_, SqL.of (by assumption)⟩) | omega | exact Nat.le_of_ble_eq_true rfl | exact nat9 (by omega) | exact ⟨_, rfl⟩ | (show _ ≤ sizeLine; decide) | exact ⟨by decide, by decide, by decide⟩ | exact .inl ⟨by decide, by decide⟩ | exact .inl ⟨by omega, by omega⟩ | exact .inr ⟨by omega, by omega⟩ | assumption | fail) | ((with_reducible refine iteF' ?_ ?_); first | rfl | exact decide_eq_false (by omega) | exact in_no (by omega) (by omega) | exact in_no (by omega) (by assumption) | (simp <;> fail) | fail) | ((with_reducible refine iteT' ?_ ?_); first | rfl | exact decide_eq_true (by omega) | (simp <;> fail) | fail))
          have ut : ∀ {q : Addr} {xs ys : List V}, Hd q = some (.tup xs) → (upd Hd h (.lst ys)) q = some (.tup xs) := fun {q xs ys} e => by rw [upd_ne (fun z => by rw [z, g_h] at e; cases e)]; exact e
          replace g_t1 := ut (ys := [V.ref t1] ++ [V.ref t2]) g_t1
          replace g_t2 := ut (ys := [V.ref t1] ++ [V.ref t2]) g_t2
          replace g_h : upd Hd h (.lst ([V.ref t1] ++ [V.ref t2])) h = some (.lst ([V.ref t1, V.ref t2])) := upd_same
          clear ut
          generalize upd Hd h _ = H13 at *
          intro q1 h_q1; generalize hE : upd _ q1 _ = H14; obtain ⟨S_q1, g_q1⟩ := new_facts h_q1 hE; clear hE; replace g_t1 := S_q1 _ _ g_t1; replace g_t2 := S_q1 _ _ g_t2; replace g_h := S_q1 _ _ g_h
          repeat (first | (with_reducible refine st_tC ?_) | (with_reducible refine st_tOp ?_) | ((with_reducible apply st_n); rfl; rfl; (first | trivial | (show _ ≤ _; omega) | (show _ < _; omega) | (show _ ∨ _; omega) | assumption | exact ⟨by assumption, by omega⟩ | exact ⟨W30.one, by omega⟩ | fail); rfl) | (with_reducible refine st_i0 rfl rfl rfl ?_) | ((with_reducible refine st_i rfl rfl ?_ rfl ?_); first | omega | exact ⟨by decide, by decide, by decide⟩ | exact .inl ⟨by decide, by decide⟩ | exact .inl ⟨by omega, by omega⟩ | exact .inr ⟨by omega, by omega⟩ | fail) | ((fail_if_success refine Exists.intro (α := Nat → Nat → L2.St → Hp → Prop) ?_ ?_); (fail_if_success refine Exists.intro (α := L2.St → Hp → Prop) ?_ ?_); (fail_if_success refine Exists.intro (α := Nat → L2.St → Hp → Prop) ?_ ?_); apply Exists.intro) | ((refine And.intro ?_ ?_); first | with_reducible rfl | with_reducible assumption | rfl | ((with_reducible apply SqL.of); assumption) | ((with_reducible apply SqT.of); assumption) | ((with_reducible apply OwnC.cl); assumption) | (with_reducible exact isI_int _) | exact within_args | (with_reducible exact upd_same) | ((with_reducible apply Mid.o); assumption) | ((with_reducible apply Mid.t); assumption) | exact .inl ⟨rfl, _, SqL.of (by assumption)⟩ | (with_reducible exact ⟨_, SqT.of (by assumption)⟩) | (with_reducible exact ⟨_, SqL.of (by assumption)⟩) | omega | exact Nat.le_of_ble_eq_true rfl | exact nat9 (by omega) | exact ⟨_, rfl⟩ | (show _ ≤ sizeLine; decide) | exact ⟨by decide, by decide, by decide⟩ | exact .inl ⟨by decide, by decide⟩ | exact .inl ⟨by omega, by omega⟩ | exact .inr ⟨by omega, by omega⟩ | assumption | fail) | ((with_reducible refine iteF' ?_ ?_); first | rfl | exact decide_eq_false (by omega) | exact in_no (by omega) (by omega) | exact in_no (by omega) (by assumption) | (simp <;> fail) | fail) | ((with_reducible refine iteT' ?_ ?_); first | rfl | exact decide_eq_true (by omega) | (simp <;> fail) | fail))
          intro q2 h_q2; generalize hE : upd _ q2 _ = H15; obtain ⟨S_q2, g_q2⟩ := new_facts h_q2 hE; clear hE; replace g_t1 := S_q2 _ _ g_t1; replace g_t2 := S_q2 _ _ g_t2; replace g_h := S_q2 _ _ g_h; replace g_q1 := S_q2 _ _ g_q1
          repeat (first | (with_reducible refine st_tC ?_) | (with_reducible refine st_tOp ?_) | ((with_reducible apply st_n); rfl; rfl; (first | trivial | (show _ ≤ _; omega) | (show _ < _; omega) | (show _ ∨ _; omega) | assumption | exact ⟨by assumption, by omega⟩ | exact ⟨W30.one, by omega⟩ | fail); rfl) | (with_reducible refine st_i0 rfl rfl rfl ?_) | ((with_reducible refine st_i rfl rfl ?_ rfl ?_); first | omega | exact ⟨by decide, by decide, by decide⟩ | exact .inl ⟨by decide, by decide⟩ | exact .inl ⟨by omega, by omega⟩ | exact .inr ⟨by omega, by omega⟩ | fail) | ((fail_if_success refine Exists.intro (α := Nat → Nat → L2.St → Hp → Prop) ?_ ?_); (fail_if_success refine Exists.intro (α := L2.St → Hp → Prop) ?_ ?_); (fail_if_success refine Exists.intro (α := Nat → L2.St → Hp → Prop) ?_ ?_); apply Exists.intro) | ((refine And.intro ?_ ?_); first | with_reducible rfl | with_reducible assumption | rfl | ((with_reducible apply SqL.of); assumption) | ((with_reducible apply SqT.of); assumption) | ((with_reducible apply OwnC.cl); assumption) | (with_reducible exact isI_int _) | exact within_args | (with_reducible exact upd_same) | ((with_reducible apply Mid.o); assumption) | ((with_reducible apply Mid.t); assumption) | exact .inl ⟨rfl, _, SqL.of (by assumption)⟩ | (with_reducible exact ⟨_, SqT.of (by assumption)⟩) | (with_reducible exact ⟨_, SqL.of (by assumption)⟩) | omega | exact Nat.le_of_ble_eq_true rfl | exact nat9 (by omega) | exact ⟨_, rfl⟩ | (show _ ≤ sizeLine; decide) | exact ⟨by decide, by decide, by decide⟩ | exact .inl ⟨by decide, by decide⟩ | exact .inl ⟨by omega, by omega⟩ | exact .inr ⟨by omega, by omega⟩ | assumption | fail) | ((with_reducible refine iteF' ?_ ?_); first | rfl | exact decide_eq_false (by omega) | exact in_no (by omega) (by omega) | exact in_no (by omega) (by assumption) | (simp <;> fail) | fail) | ((with_reducible refine iteT' ?_ ?_); first | rfl | exact decide_eq_true (by omega) | (simp <;> fail) | fail))
          intro qa h_qa; generalize hE : upd _ qa _ = H16; obtain ⟨S_qa, g_qa⟩ := new_facts h_qa hE; clear hE; replace g_t1 := S_qa _ _ g_t1; replace g_t2 := S_qa _ _ g_t2; replace g_h := S_qa _ _ g_h; replace g_q1 := S_qa _ _ g_q1; replace g_q2 := S_qa _ _ g_q2
          refine ⟨.list [.tuple [.str "text", .int 0, .int 0], .tuple [.str "store", .str "store"]], .list [.tuple [.str "text", .int 0, .int 0], .tuple [.str "store", .str "store"]],
            Dp.lst (SqL.of g_h) (.cons (Dp.tup (SqT.of g_t1) (.cons (.str _) (.cons (.int _) (.cons (.int _) .nil)))) (.cons (Dp.tup (SqT.of g_t2) (.cons (.str _) (.cons (.str _) .nil))) .nil)), Dp.lst (SqL.of g_qa) (.cons (Dp.tup (SqT.of g_q1) (.cons (.str _) (.cons (.int _) (.cons (.int _) .nil)))) (.cons (Dp.tup (SqT.of g_q2) (.cons (.str _) (.cons (.str _) .nil))) .nil)), by decide +kernel, by decide +kernel, ?_⟩
          rw [SeqAt.eqv_refl _ (by decide +kernel)]
          exact k _
    obtain ⟨t, h1, h2⟩ := t0
    exact ⟨t, h1.nox, h2⟩
end
end K53
namespace K53
open PySem PySem.Spec PyProof.Rows L2 OB SkE LamX ClX
theorem all_mk {l : PySem.W.OpenLaw} {w : World} {K : PySem.W.Frag} {h : Heap} {mg : Str → Option Value} {fa f_is_integer f_is_within f_is_list f_are_unlike f_is_lot f_lot_of f_need_word f_need_lot f_items_of f_integer_of f_item_at f_integer_at f_need_end f_flipped f_flipped_often f_differing f__bits_of f_most_rows f_need_store f_need_word_in f_need_values f_need_deed f_values_in f_is_open f_rows_in f_word_for f_mend_plan f_deed_plan f_done_in f_open_bit f__is_value f__is_gift f__has_open f__numbers_in f__rows_of f__word_of_cells f__word_of_rows f__mended f_counting_in f_is_plain f_shows_whole f__is_phase f__open_places f__counts f__is_steering f__counting_of f__is_plain f__law_shed f__law_hang f__law_pick f__law_heard f__law_is_in f__law_made_right f__law_number f__law_due f__law_bent f_law CF C_BadWord fi_BadWord N_BadWord C_BadBits fi_BadBits N_BadBits C_BadStore fi_BadStore N_BadStore C_BadDeed fi_BadDeed N_BadDeed C_BadText fi_BadText N_BadText C_Store f_Store_init f_Store_eq f_Store_str f_Store_read p_Store_read c1 Pt1 c2 Pt2 : Addr} {cd_is_integer oc_is_integer kV_is_integer dc_is_integer pm_is_integer ct_is_integer cd_is_within oc_is_within kV_is_within dc_is_within pm_is_within ct_is_within cd_is_list oc_is_list kV_is_list dc_is_list pm_is_list ct_is_list cd_are_unlike oc_are_unlike kV_are_unlike dc_are_unlike pm_are_unlike ct_are_unlike cd_is_lot oc_is_lot kV_is_lot dc_is_lot pm_is_lot ct_is_lot cd_lot_of oc_lot_of kV_lot_of dc_lot_of pm_lot_of ct_lot_of cd_need_word oc_need_word kV_need_word dc_need_word pm_need_word ct_need_word cd_need_lot oc_need_lot kV_need_lot dc_need_lot pm_need_lot ct_need_lot cd_items_of oc_items_of kV_items_of dc_items_of pm_items_of ct_items_of cd_integer_of oc_integer_of kV_integer_of dc_integer_of pm_integer_of ct_integer_of cd_item_at oc_item_at kV_item_at dc_item_at pm_item_at ct_item_at cd_integer_at oc_integer_at kV_integer_at dc_integer_at pm_integer_at ct_integer_at cd_need_end oc_need_end kV_need_end dc_need_end pm_need_end ct_need_end cd_flipped oc_flipped kV_flipped dc_flipped pm_flipped ct_flipped cd_flipped_often oc_flipped_often kV_flipped_often dc_flipped_often pm_flipped_often ct_flipped_often cd_differing oc_differing kV_differing dc_differing pm_differing ct_differing cd__bits_of oc__bits_of kV__bits_of dc__bits_of pm__bits_of ct__bits_of cd_most_rows oc_most_rows kV_most_rows dc_most_rows pm_most_rows ct_most_rows cd_need_store oc_need_store kV_need_store dc_need_store pm_need_store ct_need_store cd_need_word_in oc_need_word_in kV_need_word_in dc_need_word_in pm_need_word_in ct_need_word_in cd_need_values oc_need_values kV_need_values dc_need_values pm_need_values ct_need_values cd_need_deed oc_need_deed kV_need_deed dc_need_deed pm_need_deed ct_need_deed cd_values_in oc_values_in kV_values_in dc_values_in pm_values_in ct_values_in cd_is_open oc_is_open kV_is_open dc_is_open pm_is_open ct_is_open cd_rows_in oc_rows_in kV_rows_in dc_rows_in pm_rows_in ct_rows_in cd_word_for oc_word_for kV_word_for dc_word_for pm_word_for ct_word_for cd_mend_plan oc_mend_plan kV_mend_plan dc_mend_plan pm_mend_plan ct_mend_plan cd_deed_plan oc_deed_plan kV_deed_plan dc_deed_plan pm_deed_plan ct_deed_plan cd_done_in oc_done_in kV_done_in dc_done_in pm_done_in ct_done_in cd_open_bit oc_open_bit kV_open_bit dc_open_bit pm_open_bit ct_open_bit cd__is_value oc__is_value kV__is_value dc__is_value pm__is_value ct__is_value cd__is_gift oc__is_gift kV__is_gift dc__is_gift pm__is_gift ct__is_gift cd__has_open oc__has_open kV__has_open dc__has_open pm__has_open ct__has_open cd__numbers_in oc__numbers_in kV__numbers_in dc__numbers_in pm__numbers_in ct__numbers_in cd__rows_of oc__rows_of kV__rows_of dc__rows_of pm__rows_of ct__rows_of cd__word_of_cells oc__word_of_cells kV__word_of_cells dc__word_of_cells pm__word_of_cells ct__word_of_cells cd__word_of_rows oc__word_of_rows kV__word_of_rows dc__word_of_rows pm__word_of_rows ct__word_of_rows cd__mended oc__mended kV__mended dc__mended pm__mended ct__mended cd_counting_in oc_counting_in kV_counting_in dc_counting_in pm_counting_in ct_counting_in cd_is_plain oc_is_plain kV_is_plain dc_is_plain pm_is_plain ct_is_plain cd_shows_whole oc_shows_whole kV_shows_whole dc_shows_whole pm_shows_whole ct_shows_whole cd__is_phase oc__is_phase kV__is_phase dc__is_phase pm__is_phase ct__is_phase cd__open_places oc__open_places kV__open_places dc__open_places pm__open_places ct__open_places cd__counts oc__counts kV__counts dc__counts pm__counts ct__counts cd__is_steering oc__is_steering kV__is_steering dc__is_steering pm__is_steering ct__is_steering cd__counting_of oc__counting_of kV__counting_of dc__counting_of pm__counting_of ct__counting_of cd__is_plain oc__is_plain kV__is_plain dc__is_plain pm__is_plain ct__is_plain cd__law_shed oc__law_shed kV__law_shed dc__law_shed pm__law_shed ct__law_shed cd__law_hang oc__law_hang kV__law_hang dc__law_hang pm__law_hang ct__law_hang cd__law_pick oc__law_pick kV__law_pick dc__law_pick pm__law_pick ct__law_pick cd__law_heard oc__law_heard kV__law_heard dc__law_heard pm__law_heard ct__law_heard cd__law_is_in oc__law_is_in kV__law_is_in dc__law_is_in pm__law_is_in ct__law_is_in oc__law_made_right kV__law_made_right dc__law_made_right pm__law_made_right ct__law_made_right cd__law_number oc__law_number kV__law_number dc__law_number pm__law_number ct__law_number cd__law_due oc__law_due kV__law_due dc__law_due pm__law_due ct__law_due cd__law_bent oc__law_bent kV__law_bent dc__law_bent pm__law_bent ct__law_bent oc_law kV_law dc_law pm_law ct_law oi_BadWord kVi_BadWord dci_BadWord pmi_BadWord cti_BadWord cdi_BadWord oi_BadBits kVi_BadBits dci_BadBits pmi_BadBits cti_BadBits cdi_BadBits oi_BadStore kVi_BadStore dci_BadStore pmi_BadStore cti_BadStore cdi_BadStore oi_BadDeed kVi_BadDeed dci_BadDeed pmi_BadDeed cti_BadDeed cdi_BadDeed oi_BadText kVi_BadText dci_BadText pmi_BadText cti_BadText cdi_BadText oc_Store_init kV_Store_init dc_Store_init pm_Store_init cd_Store_init ct_Store_init oc_Store_eq kV_Store_eq dc_Store_eq pm_Store_eq cd_Store_eq ct_Store_eq oc_Store_str kV_Store_str dc_Store_str pm_Store_str cd_Store_str ct_Store_str oc_Store_read kV_Store_read dc_Store_read pm_Store_read cd_Store_read ct_Store_read : Value} {od_is_integer an_is_integer od_is_within an_is_within od_is_list an_is_list od_are_unlike an_are_unlike od_is_lot an_is_lot od_lot_of an_lot_of od_need_word an_need_word od_need_lot an_need_lot od_items_of an_items_of od_integer_of an_integer_of od_item_at an_item_at od_integer_at an_integer_at od_need_end an_need_end od_flipped an_flipped od_flipped_often an_flipped_often od_differing an_differing od__bits_of an__bits_of od_most_rows an_most_rows od_need_store an_need_store od_need_word_in an_need_word_in od_need_values an_need_values od_need_deed an_need_deed od_values_in an_values_in od_is_open an_is_open od_rows_in an_rows_in od_word_for an_word_for od_mend_plan an_mend_plan od_deed_plan an_deed_plan od_done_in an_done_in od_open_bit an_open_bit od__is_value an__is_value od__is_gift an__is_gift od__has_open an__has_open od__numbers_in an__numbers_in od__rows_of an__rows_of od__word_of_cells an__word_of_cells od__word_of_rows an__word_of_rows od__mended an__mended od_counting_in an_counting_in od_is_plain an_is_plain od_shows_whole an_shows_whole od__is_phase an__is_phase od__open_places an__open_places od__counts an__counts od__is_steering an__is_steering od__counting_of an__counting_of od__is_plain an__is_plain od__law_shed an__law_shed od__law_hang an__law_hang od__law_pick an__law_pick od__law_heard an__law_heard od__law_is_in an__law_is_in od__law_made_right an__law_made_right od__law_number an__law_number od__law_due an__law_due od__law_bent an__law_bent od_law an_law odi_BadWord ani_BadWord dd_BadWord odi_BadBits ani_BadBits dd_BadBits odi_BadStore ani_BadStore dd_BadStore odi_BadDeed ani_BadDeed dd_BadDeed odi_BadText ani_BadText dd_BadText od_Store_init an_Store_init od_Store_eq an_Store_eq od_Store_str an_Store_str od_Store_read an_Store_read odC1 odC2 : Option Addr} {sl_is_integer sl_is_within sl_is_list sl_are_unlike sl_is_lot sl_lot_of sl_need_word sl_need_lot sl_items_of sl_integer_of sl_item_at sl_integer_at sl_need_end sl_flipped sl_flipped_often sl_differing sl__bits_of sl_most_rows sl_need_store sl_need_word_in sl_need_values sl_need_deed sl_values_in sl_is_open sl_rows_in sl_word_for sl_mend_plan sl_deed_plan sl_done_in sl_open_bit sl__is_value sl__is_gift sl__has_open sl__numbers_in sl__rows_of sl__word_of_cells sl__word_of_rows sl__mended sl_counting_in sl_is_plain sl_shows_whole sl__is_phase sl__open_places sl__counts sl__is_steering sl__counting_of sl__is_plain sl__law_shed sl__law_hang sl__law_pick sl__law_heard sl__law_is_in sl__law_made_right sl__law_number sl__law_due sl__law_bent sl_law sli_BadWord sli_BadBits sli_BadStore sli_BadDeed sli_BadText sl_Store_init sl_Store_eq sl_Store_str sl_Store_read slC1 slC2 : Array (Option Value)} {vsC1 vsC2 : Array Value} {t_MOST_BIT t_MOST_DIGITS t_MOST_CELLS t_MOST_SIZE t_MOST_ROWS : Tok}{rs_Store_read : List Value} {nm_BadWord q_BadWord : Str} {bs_BadWord sub_BadWord : List Value} {sn_BadWord : List Str} {ab_BadWord : Bool} {col_BadWord : Option Bool} {m0_BadWord m1_BadWord m2_BadWord m3_BadWord m5_BadWord : Option Value} {nm_BadBits q_BadBits : Str} {bs_BadBits sub_BadBits : List Value} {sn_BadBits : List Str} {ab_BadBits : Bool} {col_BadBits : Option Bool} {m0_BadBits m1_BadBits m2_BadBits m3_BadBits m5_BadBits : Option Value} {nm_BadStore q_BadStore : Str} {bs_BadStore sub_BadStore : List Value} {sn_BadStore : List Str} {ab_BadStore : Bool} {col_BadStore : Option Bool} {m0_BadStore m1_BadStore m2_BadStore m3_BadStore m5_BadStore : Option Value} {nm_BadDeed q_BadDeed : Str} {bs_BadDeed sub_BadDeed : List Value} {sn_BadDeed : List Str} {ab_BadDeed : Bool} {col_BadDeed : Option Bool} {m0_BadDeed m1_BadDeed m2_BadDeed m3_BadDeed m5_BadDeed : Option Value} {nm_BadText q_BadText : Str} {bs_BadText sub_BadText : List Value} {sn_BadText : List Str} {ab_BadText : Bool} {col_BadText : Option Bool} {m0_BadText m1_BadText m2_BadText m3_BadText m5_BadText : Option Value}
    (X : K.In h) (G : h.Ns mainGlobals mg) (hfa : mg "law" = some (.ref fa))
    (a_is_integer : PySem.W.nsIn K mainGlobals "is_integer" = some (some (.ref f_is_integer)))
    (l_is_integer : K.lookup f_is_integer = some ⟨oc_is_integer, od_is_integer, .func (PySem.W.fnOf "is_integer" "is_integer" (defArgs s_is_integer) (defBody s_is_integer) (defScope s_is_integer) .none kV_is_integer dc_is_integer pm_is_integer an_is_integer cd_is_integer ct_is_integer), sl_is_integer⟩)
    (c_is_integer : PySem.W.codeIn K cd_is_integer "is_integer" = true)
    (k_is_integer : PySem.W.keepIn K (.ref f_is_integer) = true)
    (a_is_within : PySem.W.nsIn K mainGlobals "is_within" = some (some (.ref f_is_within)))
    (l_is_within : K.lookup f_is_within = some ⟨oc_is_within, od_is_within, .func (PySem.W.fnOf "is_within" "is_within" (defArgs s_is_within) (defBody s_is_within) (defScope s_is_within) .none kV_is_within dc_is_within pm_is_within an_is_within cd_is_within ct_is_within), sl_is_within⟩)
    (c_is_within : PySem.W.codeIn K cd_is_within "is_within" = true)
    (k_is_within : PySem.W.keepIn K (.ref f_is_within) = true)
    (a_is_list : PySem.W.nsIn K mainGlobals "is_list" = some (some (.ref f_is_list)))
    (l_is_list : K.lookup f_is_list = some ⟨oc_is_list, od_is_list, .func (PySem.W.fnOf "is_list" "is_list" (defArgs s_is_list) (defBody s_is_list) (defScope s_is_list) .none kV_is_list dc_is_list pm_is_list an_is_list cd_is_list ct_is_list), sl_is_list⟩)
    (c_is_list : PySem.W.codeIn K cd_is_list "is_list" = true)
    (k_is_list : PySem.W.keepIn K (.ref f_is_list) = true)
    (a_are_unlike : PySem.W.nsIn K mainGlobals "are_unlike" = some (some (.ref f_are_unlike)))
    (l_are_unlike : K.lookup f_are_unlike = some ⟨oc_are_unlike, od_are_unlike, .func (PySem.W.fnOf "are_unlike" "are_unlike" (defArgs s_are_unlike) (defBody s_are_unlike) (defScope s_are_unlike) .none kV_are_unlike dc_are_unlike pm_are_unlike an_are_unlike cd_are_unlike ct_are_unlike), sl_are_unlike⟩)
    (c_are_unlike : PySem.W.codeIn K cd_are_unlike "are_unlike" = true)
    (k_are_unlike : PySem.W.keepIn K (.ref f_are_unlike) = true)
    (a_is_lot : PySem.W.nsIn K mainGlobals "is_lot" = some (some (.ref f_is_lot)))
    (l_is_lot : K.lookup f_is_lot = some ⟨oc_is_lot, od_is_lot, .func (PySem.W.fnOf "is_lot" "is_lot" (defArgs s_is_lot) (defBody s_is_lot) (defScope s_is_lot) .none kV_is_lot dc_is_lot pm_is_lot an_is_lot cd_is_lot ct_is_lot), sl_is_lot⟩)
    (c_is_lot : PySem.W.codeIn K cd_is_lot "is_lot" = true)
    (k_is_lot : PySem.W.keepIn K (.ref f_is_lot) = true)
    (a_lot_of : PySem.W.nsIn K mainGlobals "lot_of" = some (some (.ref f_lot_of)))
    (l_lot_of : K.lookup f_lot_of = some ⟨oc_lot_of, od_lot_of, .func (PySem.W.fnOf "lot_of" "lot_of" (defArgs s_lot_of) (defBody s_lot_of) (defScope s_lot_of) .none kV_lot_of dc_lot_of pm_lot_of an_lot_of cd_lot_of ct_lot_of), sl_lot_of⟩)
    (c_lot_of : PySem.W.codeIn K cd_lot_of "lot_of" = true)
    (k_lot_of : PySem.W.keepIn K (.ref f_lot_of) = true)
    (a_need_word : PySem.W.nsIn K mainGlobals "need_word" = some (some (.ref f_need_word)))
    (l_need_word : K.lookup f_need_word = some ⟨oc_need_word, od_need_word, .func (PySem.W.fnOf "need_word" "need_word" (defArgs s_need_word) (defBody s_need_word) (defScope s_need_word) .none kV_need_word dc_need_word pm_need_word an_need_word cd_need_word ct_need_word), sl_need_word⟩)
    (c_need_word : PySem.W.codeIn K cd_need_word "need_word" = true)
    (k_need_word : PySem.W.keepIn K (.ref f_need_word) = true)
    (a_need_lot : PySem.W.nsIn K mainGlobals "need_lot" = some (some (.ref f_need_lot)))
    (l_need_lot : K.lookup f_need_lot = some ⟨oc_need_lot, od_need_lot, .func (PySem.W.fnOf "need_lot" "need_lot" (defArgs s_need_lot) (defBody s_need_lot) (defScope s_need_lot) .none kV_need_lot dc_need_lot pm_need_lot an_need_lot cd_need_lot ct_need_lot), sl_need_lot⟩)
    (c_need_lot : PySem.W.codeIn K cd_need_lot "need_lot" = true)
    (k_need_lot : PySem.W.keepIn K (.ref f_need_lot) = true)
    (a_items_of : PySem.W.nsIn K mainGlobals "items_of" = some (some (.ref f_items_of)))
    (l_items_of : K.lookup f_items_of = some ⟨oc_items_of, od_items_of, .func (PySem.W.fnOf "items_of" "items_of" (defArgs s_items_of) (defBody s_items_of) (defScope s_items_of) .none kV_items_of dc_items_of pm_items_of an_items_of cd_items_of ct_items_of), sl_items_of⟩)
    (c_items_of : PySem.W.codeIn K cd_items_of "items_of" = true)
    (k_items_of : PySem.W.keepIn K (.ref f_items_of) = true)
    (a_integer_of : PySem.W.nsIn K mainGlobals "integer_of" = some (some (.ref f_integer_of)))
    (l_integer_of : K.lookup f_integer_of = some ⟨oc_integer_of, od_integer_of, .func (PySem.W.fnOf "integer_of" "integer_of" (defArgs s_integer_of) (defBody s_integer_of) (defScope s_integer_of) .none kV_integer_of dc_integer_of pm_integer_of an_integer_of cd_integer_of ct_integer_of), sl_integer_of⟩)
    (c_integer_of : PySem.W.codeIn K cd_integer_of "integer_of" = true)
    (k_integer_of : PySem.W.keepIn K (.ref f_integer_of) = true)
    (a_item_at : PySem.W.nsIn K mainGlobals "item_at" = some (some (.ref f_item_at)))
    (l_item_at : K.lookup f_item_at = some ⟨oc_item_at, od_item_at, .func (PySem.W.fnOf "item_at" "item_at" (defArgs s_item_at) (defBody s_item_at) (defScope s_item_at) .none kV_item_at dc_item_at pm_item_at an_item_at cd_item_at ct_item_at), sl_item_at⟩)
    (c_item_at : PySem.W.codeIn K cd_item_at "item_at" = true)
    (k_item_at : PySem.W.keepIn K (.ref f_item_at) = true)
    (a_integer_at : PySem.W.nsIn K mainGlobals "integer_at" = some (some (.ref f_integer_at)))
    (l_integer_at : K.lookup f_integer_at = some ⟨oc_integer_at, od_integer_at, .func (PySem.W.fnOf "integer_at" "integer_at" (defArgs s_integer_at) (defBody s_integer_at) (defScope s_integer_at) .none kV_integer_at dc_integer_at pm_integer_at an_integer_at cd_integer_at ct_integer_at), sl_integer_at⟩)
    (c_integer_at : PySem.W.codeIn K cd_integer_at "integer_at" = true)
    (k_integer_at : PySem.W.keepIn K (.ref f_integer_at) = true)
    (a_need_end : PySem.W.nsIn K mainGlobals "need_end" = some (some (.ref f_need_end)))
    (l_need_end : K.lookup f_need_end = some ⟨oc_need_end, od_need_end, .func (PySem.W.fnOf "need_end" "need_end" (defArgs s_need_end) (defBody s_need_end) (defScope s_need_end) .none kV_need_end dc_need_end pm_need_end an_need_end cd_need_end ct_need_end), sl_need_end⟩)
    (c_need_end : PySem.W.codeIn K cd_need_end "need_end" = true)
    (k_need_end : PySem.W.keepIn K (.ref f_need_end) = true)
    (a_flipped : PySem.W.nsIn K mainGlobals "flipped" = some (some (.ref f_flipped)))
    (l_flipped : K.lookup f_flipped = some ⟨oc_flipped, od_flipped, .func (PySem.W.fnOf "flipped" "flipped" (defArgs s_flipped) (defBody s_flipped) (defScope s_flipped) .none kV_flipped dc_flipped pm_flipped an_flipped cd_flipped ct_flipped), sl_flipped⟩)
    (c_flipped : PySem.W.codeIn K cd_flipped "flipped" = true)
    (k_flipped : PySem.W.keepIn K (.ref f_flipped) = true)
    (a_flipped_often : PySem.W.nsIn K mainGlobals "flipped_often" = some (some (.ref f_flipped_often)))
    (l_flipped_often : K.lookup f_flipped_often = some ⟨oc_flipped_often, od_flipped_often, .func (PySem.W.fnOf "flipped_often" "flipped_often" (defArgs s_flipped_often) (defBody s_flipped_often) (defScope s_flipped_often) .none kV_flipped_often dc_flipped_often pm_flipped_often an_flipped_often cd_flipped_often ct_flipped_often), sl_flipped_often⟩)
    (c_flipped_often : PySem.W.codeIn K cd_flipped_often "flipped_often" = true)
    (k_flipped_often : PySem.W.keepIn K (.ref f_flipped_often) = true)
    (a_differing : PySem.W.nsIn K mainGlobals "differing" = some (some (.ref f_differing)))
    (l_differing : K.lookup f_differing = some ⟨oc_differing, od_differing, .func (PySem.W.fnOf "differing" "differing" (defArgs s_differing) (defBody s_differing) (defScope s_differing) .none kV_differing dc_differing pm_differing an_differing cd_differing ct_differing), sl_differing⟩)
    (c_differing : PySem.W.codeIn K cd_differing "differing" = true)
    (k_differing : PySem.W.keepIn K (.ref f_differing) = true)
    (a__bits_of : PySem.W.nsIn K mainGlobals "_bits_of" = some (some (.ref f__bits_of)))
    (l__bits_of : K.lookup f__bits_of = some ⟨oc__bits_of, od__bits_of, .func (PySem.W.fnOf "_bits_of" "_bits_of" (defArgs s__bits_of) (defBody s__bits_of) (defScope s__bits_of) .none kV__bits_of dc__bits_of pm__bits_of an__bits_of cd__bits_of ct__bits_of), sl__bits_of⟩)
    (c__bits_of : PySem.W.codeIn K cd__bits_of "_bits_of" = true)
    (k__bits_of : PySem.W.keepIn K (.ref f__bits_of) = true)
    (a_most_rows : PySem.W.nsIn K mainGlobals "most_rows" = some (some (.ref f_most_rows)))
    (l_most_rows : K.lookup f_most_rows = some ⟨oc_most_rows, od_most_rows, .func (PySem.W.fnOf "most_rows" "most_rows" (defArgs s_most_rows) (defBody s_most_rows) (defScope s_most_rows) .none kV_most_rows dc_most_rows pm_most_rows an_most_rows cd_most_rows ct_most_rows), sl_most_rows⟩)
    (c_most_rows : PySem.W.codeIn K cd_most_rows "most_rows" = true)
    (k_most_rows : PySem.W.keepIn K (.ref f_most_rows) = true)
    (a_need_store : PySem.W.nsIn K mainGlobals "need_store" = some (some (.ref f_need_store)))
    (l_need_store : K.lookup f_need_store = some ⟨oc_need_store, od_need_store, .func (PySem.W.fnOf "need_store" "need_store" (defArgs s_need_store) (defBody s_need_store) (defScope s_need_store) .none kV_need_store dc_need_store pm_need_store an_need_store cd_need_store ct_need_store), sl_need_store⟩)
    (c_need_store : PySem.W.codeIn K cd_need_store "need_store" = true)
    (k_need_store : PySem.W.keepIn K (.ref f_need_store) = true)
    (a_need_word_in : PySem.W.nsIn K mainGlobals "need_word_in" = some (some (.ref f_need_word_in)))
    (l_need_word_in : K.lookup f_need_word_in = some ⟨oc_need_word_in, od_need_word_in, .func (PySem.W.fnOf "need_word_in" "need_word_in" (defArgs s_need_word_in) (defBody s_need_word_in) (defScope s_need_word_in) .none kV_need_word_in dc_need_word_in pm_need_word_in an_need_word_in cd_need_word_in ct_need_word_in), sl_need_word_in⟩)
    (c_need_word_in : PySem.W.codeIn K cd_need_word_in "need_word_in" = true)
    (k_need_word_in : PySem.W.keepIn K (.ref f_need_word_in) = true)
    (a_need_values : PySem.W.nsIn K mainGlobals "need_values" = some (some (.ref f_need_values)))
    (l_need_values : K.lookup f_need_values = some ⟨oc_need_values, od_need_values, .func (PySem.W.fnOf "need_values" "need_values" (defArgs s_need_values) (defBody s_need_values) (defScope s_need_values) .none kV_need_values dc_need_values pm_need_values an_need_values cd_need_values ct_need_values), sl_need_values⟩)
    (c_need_values : PySem.W.codeIn K cd_need_values "need_values" = true)
    (k_need_values : PySem.W.keepIn K (.ref f_need_values) = true)
    (a_need_deed : PySem.W.nsIn K mainGlobals "need_deed" = some (some (.ref f_need_deed)))
    (l_need_deed : K.lookup f_need_deed = some ⟨oc_need_deed, od_need_deed, .func (PySem.W.fnOf "need_deed" "need_deed" (defArgs s_need_deed) (defBody s_need_deed) (defScope s_need_deed) .none kV_need_deed dc_need_deed pm_need_deed an_need_deed cd_need_deed ct_need_deed), sl_need_deed⟩)
    (c_need_deed : PySem.W.codeIn K cd_need_deed "need_deed" = true)
    (k_need_deed : PySem.W.keepIn K (.ref f_need_deed) = true)
    (a_values_in : PySem.W.nsIn K mainGlobals "values_in" = some (some (.ref f_values_in)))
    (l_values_in : K.lookup f_values_in = some ⟨oc_values_in, od_values_in, .func (PySem.W.fnOf "values_in" "values_in" (defArgs s_values_in) (defBody s_values_in) (defScope s_values_in) .none kV_values_in dc_values_in pm_values_in an_values_in cd_values_in ct_values_in), sl_values_in⟩)
    (c_values_in : PySem.W.codeIn K cd_values_in "values_in" = true)
    (k_values_in : PySem.W.keepIn K (.ref f_values_in) = true)
    (a_is_open : PySem.W.nsIn K mainGlobals "is_open" = some (some (.ref f_is_open)))
    (l_is_open : K.lookup f_is_open = some ⟨oc_is_open, od_is_open, .func (PySem.W.fnOf "is_open" "is_open" (defArgs s_is_open) (defBody s_is_open) (defScope s_is_open) .none kV_is_open dc_is_open pm_is_open an_is_open cd_is_open ct_is_open), sl_is_open⟩)
    (c_is_open : PySem.W.codeIn K cd_is_open "is_open" = true)
    (k_is_open : PySem.W.keepIn K (.ref f_is_open) = true)
    (a_rows_in : PySem.W.nsIn K mainGlobals "rows_in" = some (some (.ref f_rows_in)))
    (l_rows_in : K.lookup f_rows_in = some ⟨oc_rows_in, od_rows_in, .func (PySem.W.fnOf "rows_in" "rows_in" (defArgs s_rows_in) (defBody s_rows_in) (defScope s_rows_in) .none kV_rows_in dc_rows_in pm_rows_in an_rows_in cd_rows_in ct_rows_in), sl_rows_in⟩)
    (c_rows_in : PySem.W.codeIn K cd_rows_in "rows_in" = true)
    (k_rows_in : PySem.W.keepIn K (.ref f_rows_in) = true)
    (a_word_for : PySem.W.nsIn K mainGlobals "word_for" = some (some (.ref f_word_for)))
    (l_word_for : K.lookup f_word_for = some ⟨oc_word_for, od_word_for, .func (PySem.W.fnOf "word_for" "word_for" (defArgs s_word_for) (defBody s_word_for) (defScope s_word_for) .none kV_word_for dc_word_for pm_word_for an_word_for cd_word_for ct_word_for), sl_word_for⟩)
    (c_word_for : PySem.W.codeIn K cd_word_for "word_for" = true)
    (k_word_for : PySem.W.keepIn K (.ref f_word_for) = true)
    (a_mend_plan : PySem.W.nsIn K mainGlobals "mend_plan" = some (some (.ref f_mend_plan)))
    (l_mend_plan : K.lookup f_mend_plan = some ⟨oc_mend_plan, od_mend_plan, .func (PySem.W.fnOf "mend_plan" "mend_plan" (defArgs s_mend_plan) (defBody s_mend_plan) (defScope s_mend_plan) .none kV_mend_plan dc_mend_plan pm_mend_plan an_mend_plan cd_mend_plan ct_mend_plan), sl_mend_plan⟩)
    (c_mend_plan : PySem.W.codeIn K cd_mend_plan "mend_plan" = true)
    (k_mend_plan : PySem.W.keepIn K (.ref f_mend_plan) = true)
    (a_deed_plan : PySem.W.nsIn K mainGlobals "deed_plan" = some (some (.ref f_deed_plan)))
    (l_deed_plan : K.lookup f_deed_plan = some ⟨oc_deed_plan, od_deed_plan, .func (PySem.W.fnOf "deed_plan" "deed_plan" (defArgs s_deed_plan) (defBody s_deed_plan) (defScope s_deed_plan) .none kV_deed_plan dc_deed_plan pm_deed_plan an_deed_plan cd_deed_plan ct_deed_plan), sl_deed_plan⟩)
    (c_deed_plan : PySem.W.codeIn K cd_deed_plan "deed_plan" = true)
    (k_deed_plan : PySem.W.keepIn K (.ref f_deed_plan) = true)
    (a_done_in : PySem.W.nsIn K mainGlobals "done_in" = some (some (.ref f_done_in)))
    (l_done_in : K.lookup f_done_in = some ⟨oc_done_in, od_done_in, .func (PySem.W.fnOf "done_in" "done_in" (defArgs s_done_in) (defBody s_done_in) (defScope s_done_in) .none kV_done_in dc_done_in pm_done_in an_done_in cd_done_in ct_done_in), sl_done_in⟩)
    (c_done_in : PySem.W.codeIn K cd_done_in "done_in" = true)
    (k_done_in : PySem.W.keepIn K (.ref f_done_in) = true)
    (a_open_bit : PySem.W.nsIn K mainGlobals "open_bit" = some (some (.ref f_open_bit)))
    (l_open_bit : K.lookup f_open_bit = some ⟨oc_open_bit, od_open_bit, .func (PySem.W.fnOf "open_bit" "open_bit" (defArgs s_open_bit) (defBody s_open_bit) (defScope s_open_bit) .none kV_open_bit dc_open_bit pm_open_bit an_open_bit cd_open_bit ct_open_bit), sl_open_bit⟩)
    (c_open_bit : PySem.W.codeIn K cd_open_bit "open_bit" = true)
    (k_open_bit : PySem.W.keepIn K (.ref f_open_bit) = true)
    (a__is_value : PySem.W.nsIn K mainGlobals "_is_value" = some (some (.ref f__is_value)))
    (l__is_value : K.lookup f__is_value = some ⟨oc__is_value, od__is_value, .func (PySem.W.fnOf "_is_value" "_is_value" (defArgs s__is_value) (defBody s__is_value) (defScope s__is_value) .none kV__is_value dc__is_value pm__is_value an__is_value cd__is_value ct__is_value), sl__is_value⟩)
    (c__is_value : PySem.W.codeIn K cd__is_value "_is_value" = true)
    (k__is_value : PySem.W.keepIn K (.ref f__is_value) = true)
    (a__is_gift : PySem.W.nsIn K mainGlobals "_is_gift" = some (some (.ref f__is_gift)))
    (l__is_gift : K.lookup f__is_gift = some ⟨oc__is_gift, od__is_gift, .func (PySem.W.fnOf "_is_gift" "_is_gift" (defArgs s__is_gift) (defBody s__is_gift) (defScope s__is_gift) .none kV__is_gift dc__is_gift pm__is_gift an__is_gift cd__is_gift ct__is_gift), sl__is_gift⟩)
    (c__is_gift : PySem.W.codeIn K cd__is_gift "_is_gift" = true)
    (k__is_gift : PySem.W.keepIn K (.ref f__is_gift) = true)
    (a__has_open : PySem.W.nsIn K mainGlobals "_has_open" = some (some (.ref f__has_open)))
    (l__has_open : K.lookup f__has_open = some ⟨oc__has_open, od__has_open, .func (PySem.W.fnOf "_has_open" "_has_open" (defArgs s__has_open) (defBody s__has_open) (defScope s__has_open) .none kV__has_open dc__has_open pm__has_open an__has_open cd__has_open ct__has_open), sl__has_open⟩)
    (c__has_open : PySem.W.codeIn K cd__has_open "_has_open" = true)
    (k__has_open : PySem.W.keepIn K (.ref f__has_open) = true)
    (a__numbers_in : PySem.W.nsIn K mainGlobals "_numbers_in" = some (some (.ref f__numbers_in)))
    (l__numbers_in : K.lookup f__numbers_in = some ⟨oc__numbers_in, od__numbers_in, .func (PySem.W.fnOf "_numbers_in" "_numbers_in" (defArgs s__numbers_in) (defBody s__numbers_in) (defScope s__numbers_in) .none kV__numbers_in dc__numbers_in pm__numbers_in an__numbers_in cd__numbers_in ct__numbers_in), sl__numbers_in⟩)
    (c__numbers_in : PySem.W.codeIn K cd__numbers_in "_numbers_in" = true)
    (k__numbers_in : PySem.W.keepIn K (.ref f__numbers_in) = true)
    (a__rows_of : PySem.W.nsIn K mainGlobals "_rows_of" = some (some (.ref f__rows_of)))
    (l__rows_of : K.lookup f__rows_of = some ⟨oc__rows_of, od__rows_of, .func (PySem.W.fnOf "_rows_of" "_rows_of" (defArgs s__rows_of) (defBody s__rows_of) (defScope s__rows_of) .none kV__rows_of dc__rows_of pm__rows_of an__rows_of cd__rows_of ct__rows_of), sl__rows_of⟩)
    (c__rows_of : PySem.W.codeIn K cd__rows_of "_rows_of" = true)
    (k__rows_of : PySem.W.keepIn K (.ref f__rows_of) = true)
    (a__word_of_cells : PySem.W.nsIn K mainGlobals "_word_of_cells" = some (some (.ref f__word_of_cells)))
    (l__word_of_cells : K.lookup f__word_of_cells = some ⟨oc__word_of_cells, od__word_of_cells, .func (PySem.W.fnOf "_word_of_cells" "_word_of_cells" (defArgs s__word_of_cells) (defBody s__word_of_cells) (defScope s__word_of_cells) .none kV__word_of_cells dc__word_of_cells pm__word_of_cells an__word_of_cells cd__word_of_cells ct__word_of_cells), sl__word_of_cells⟩)
    (c__word_of_cells : PySem.W.codeIn K cd__word_of_cells "_word_of_cells" = true)
    (k__word_of_cells : PySem.W.keepIn K (.ref f__word_of_cells) = true)
    (a__word_of_rows : PySem.W.nsIn K mainGlobals "_word_of_rows" = some (some (.ref f__word_of_rows)))
    (l__word_of_rows : K.lookup f__word_of_rows = some ⟨oc__word_of_rows, od__word_of_rows, .func (PySem.W.fnOf "_word_of_rows" "_word_of_rows" (defArgs s__word_of_rows) (defBody s__word_of_rows) (defScope s__word_of_rows) .none kV__word_of_rows dc__word_of_rows pm__word_of_rows an__word_of_rows cd__word_of_rows ct__word_of_rows), sl__word_of_rows⟩)
    (c__word_of_rows : PySem.W.codeIn K cd__word_of_rows "_word_of_rows" = true)
    (k__word_of_rows : PySem.W.keepIn K (.ref f__word_of_rows) = true)
    (a__mended : PySem.W.nsIn K mainGlobals "_mended" = some (some (.ref f__mended)))
    (l__mended : K.lookup f__mended = some ⟨oc__mended, od__mended, .func (PySem.W.fnOf "_mended" "_mended" (defArgs s__mended) (defBody s__mended) (defScope s__mended) .none kV__mended dc__mended pm__mended an__mended cd__mended ct__mended), sl__mended⟩)
    (c__mended : PySem.W.codeIn K cd__mended "_mended" = true)
    (k__mended : PySem.W.keepIn K (.ref f__mended) = true)
    (a_counting_in : PySem.W.nsIn K mainGlobals "counting_in" = some (some (.ref f_counting_in)))
    (l_counting_in : K.lookup f_counting_in = some ⟨oc_counting_in, od_counting_in, .func (PySem.W.fnOf "counting_in" "counting_in" (defArgs s_counting_in) (defBody s_counting_in) (defScope s_counting_in) .none kV_counting_in dc_counting_in pm_counting_in an_counting_in cd_counting_in ct_counting_in), sl_counting_in⟩)
    (c_counting_in : PySem.W.codeIn K cd_counting_in "counting_in" = true)
    (k_counting_in : PySem.W.keepIn K (.ref f_counting_in) = true)
    (a_is_plain : PySem.W.nsIn K mainGlobals "is_plain" = some (some (.ref f_is_plain)))
    (l_is_plain : K.lookup f_is_plain = some ⟨oc_is_plain, od_is_plain, .func (PySem.W.fnOf "is_plain" "is_plain" (defArgs s_is_plain) (defBody s_is_plain) (defScope s_is_plain) .none kV_is_plain dc_is_plain pm_is_plain an_is_plain cd_is_plain ct_is_plain), sl_is_plain⟩)
    (c_is_plain : PySem.W.codeIn K cd_is_plain "is_plain" = true)
    (k_is_plain : PySem.W.keepIn K (.ref f_is_plain) = true)
    (a_shows_whole : PySem.W.nsIn K mainGlobals "shows_whole" = some (some (.ref f_shows_whole)))
    (l_shows_whole : K.lookup f_shows_whole = some ⟨oc_shows_whole, od_shows_whole, .func (PySem.W.fnOf "shows_whole" "shows_whole" (defArgs s_shows_whole) (defBody s_shows_whole) (defScope s_shows_whole) .none kV_shows_whole dc_shows_whole pm_shows_whole an_shows_whole cd_shows_whole ct_shows_whole), sl_shows_whole⟩)
    (c_shows_whole : PySem.W.codeIn K cd_shows_whole "shows_whole" = true)
    (k_shows_whole : PySem.W.keepIn K (.ref f_shows_whole) = true)
    (a__is_phase : PySem.W.nsIn K mainGlobals "_is_phase" = some (some (.ref f__is_phase)))
    (l__is_phase : K.lookup f__is_phase = some ⟨oc__is_phase, od__is_phase, .func (PySem.W.fnOf "_is_phase" "_is_phase" (defArgs s__is_phase) (defBody s__is_phase) (defScope s__is_phase) .none kV__is_phase dc__is_phase pm__is_phase an__is_phase cd__is_phase ct__is_phase), sl__is_phase⟩)
    (c__is_phase : PySem.W.codeIn K cd__is_phase "_is_phase" = true)
    (k__is_phase : PySem.W.keepIn K (.ref f__is_phase) = true)
    (a__open_places : PySem.W.nsIn K mainGlobals "_open_places" = some (some (.ref f__open_places)))
    (l__open_places : K.lookup f__open_places = some ⟨oc__open_places, od__open_places, .func (PySem.W.fnOf "_open_places" "_open_places" (defArgs s__open_places) (defBody s__open_places) (defScope s__open_places) .none kV__open_places dc__open_places pm__open_places an__open_places cd__open_places ct__open_places), sl__open_places⟩)
    (c__open_places : PySem.W.codeIn K cd__open_places "_open_places" = true)
    (k__open_places : PySem.W.keepIn K (.ref f__open_places) = true)
    (a__counts : PySem.W.nsIn K mainGlobals "_counts" = some (some (.ref f__counts)))
    (l__counts : K.lookup f__counts = some ⟨oc__counts, od__counts, .func (PySem.W.fnOf "_counts" "_counts" (defArgs s__counts) (defBody s__counts) (defScope s__counts) .none kV__counts dc__counts pm__counts an__counts cd__counts ct__counts), sl__counts⟩)
    (c__counts : PySem.W.codeIn K cd__counts "_counts" = true)
    (k__counts : PySem.W.keepIn K (.ref f__counts) = true)
    (a__is_steering : PySem.W.nsIn K mainGlobals "_is_steering" = some (some (.ref f__is_steering)))
    (l__is_steering : K.lookup f__is_steering = some ⟨oc__is_steering, od__is_steering, .func (PySem.W.fnOf "_is_steering" "_is_steering" (defArgs s__is_steering) (defBody s__is_steering) (defScope s__is_steering) .none kV__is_steering dc__is_steering pm__is_steering an__is_steering cd__is_steering ct__is_steering), sl__is_steering⟩)
    (c__is_steering : PySem.W.codeIn K cd__is_steering "_is_steering" = true)
    (k__is_steering : PySem.W.keepIn K (.ref f__is_steering) = true)
    (a__counting_of : PySem.W.nsIn K mainGlobals "_counting_of" = some (some (.ref f__counting_of)))
    (l__counting_of : K.lookup f__counting_of = some ⟨oc__counting_of, od__counting_of, .func (PySem.W.fnOf "_counting_of" "_counting_of" (defArgs s__counting_of) (defBody s__counting_of) (defScope s__counting_of) .none kV__counting_of dc__counting_of pm__counting_of an__counting_of cd__counting_of ct__counting_of), sl__counting_of⟩)
    (c__counting_of : PySem.W.codeIn K cd__counting_of "_counting_of" = true)
    (k__counting_of : PySem.W.keepIn K (.ref f__counting_of) = true)
    (a__is_plain : PySem.W.nsIn K mainGlobals "_is_plain" = some (some (.ref f__is_plain)))
    (l__is_plain : K.lookup f__is_plain = some ⟨oc__is_plain, od__is_plain, .func (PySem.W.fnOf "_is_plain" "_is_plain" (defArgs s__is_plain) (defBody s__is_plain) (defScope s__is_plain) .none kV__is_plain dc__is_plain pm__is_plain an__is_plain cd__is_plain ct__is_plain), sl__is_plain⟩)
    (c__is_plain : PySem.W.codeIn K cd__is_plain "_is_plain" = true)
    (k__is_plain : PySem.W.keepIn K (.ref f__is_plain) = true)
    (a__law_shed : PySem.W.nsIn K mainGlobals "_law_shed" = some (some (.ref f__law_shed)))
    (l__law_shed : K.lookup f__law_shed = some ⟨oc__law_shed, od__law_shed, .func (PySem.W.fnOf "_law_shed" "_law_shed" (defArgs s__law_shed) (defBody s__law_shed) (defScope s__law_shed) .none kV__law_shed dc__law_shed pm__law_shed an__law_shed cd__law_shed ct__law_shed), sl__law_shed⟩)
    (c__law_shed : PySem.W.codeIn K cd__law_shed "_law_shed" = true)
    (k__law_shed : PySem.W.keepIn K (.ref f__law_shed) = true)
    (a__law_hang : PySem.W.nsIn K mainGlobals "_law_hang" = some (some (.ref f__law_hang)))
    (l__law_hang : K.lookup f__law_hang = some ⟨oc__law_hang, od__law_hang, .func (PySem.W.fnOf "_law_hang" "_law_hang" (defArgs s__law_hang) (defBody s__law_hang) (defScope s__law_hang) .none kV__law_hang dc__law_hang pm__law_hang an__law_hang cd__law_hang ct__law_hang), sl__law_hang⟩)
    (c__law_hang : PySem.W.codeIn K cd__law_hang "_law_hang" = true)
    (k__law_hang : PySem.W.keepIn K (.ref f__law_hang) = true)
    (a__law_pick : PySem.W.nsIn K mainGlobals "_law_pick" = some (some (.ref f__law_pick)))
    (l__law_pick : K.lookup f__law_pick = some ⟨oc__law_pick, od__law_pick, .func (PySem.W.fnOf "_law_pick" "_law_pick" (defArgs s__law_pick) (defBody s__law_pick) (defScope s__law_pick) .none kV__law_pick dc__law_pick pm__law_pick an__law_pick cd__law_pick ct__law_pick), sl__law_pick⟩)
    (c__law_pick : PySem.W.codeIn K cd__law_pick "_law_pick" = true)
    (k__law_pick : PySem.W.keepIn K (.ref f__law_pick) = true)
    (a__law_heard : PySem.W.nsIn K mainGlobals "_law_heard" = some (some (.ref f__law_heard)))
    (l__law_heard : K.lookup f__law_heard = some ⟨oc__law_heard, od__law_heard, .func (PySem.W.fnOf "_law_heard" "_law_heard" (defArgs s__law_heard) (defBody s__law_heard) (defScope s__law_heard) .none kV__law_heard dc__law_heard pm__law_heard an__law_heard cd__law_heard ct__law_heard), sl__law_heard⟩)
    (c__law_heard : PySem.W.codeIn K cd__law_heard "_law_heard" = true)
    (k__law_heard : PySem.W.keepIn K (.ref f__law_heard) = true)
    (a__law_is_in : PySem.W.nsIn K mainGlobals "_law_is_in" = some (some (.ref f__law_is_in)))
    (l__law_is_in : K.lookup f__law_is_in = some ⟨oc__law_is_in, od__law_is_in, .func (PySem.W.fnOf "_law_is_in" "_law_is_in" (defArgs s__law_is_in) (defBody s__law_is_in) (defScope s__law_is_in) .none kV__law_is_in dc__law_is_in pm__law_is_in an__law_is_in cd__law_is_in ct__law_is_in), sl__law_is_in⟩)
    (c__law_is_in : PySem.W.codeIn K cd__law_is_in "_law_is_in" = true)
    (k__law_is_in : PySem.W.keepIn K (.ref f__law_is_in) = true)
    (a__law_made_right : PySem.W.nsIn K mainGlobals "_law_made_right" = some (some (.ref f__law_made_right)))
    (l__law_made_right : K.lookup f__law_made_right = some ⟨oc__law_made_right, od__law_made_right, .func (PySem.W.fnOf "_law_made_right" "_law_made_right" (defArgs s__law_made_right) (defBody s__law_made_right) (defScope s__law_made_right) .none kV__law_made_right dc__law_made_right pm__law_made_right an__law_made_right (.ref c1) ct__law_made_right), sl__law_made_right⟩)
    (c__law_made_right : PySem.W.codeIn K (.ref c1) "_law_made_right" = true)
    (k__law_made_right : PySem.W.keepIn K (.ref f__law_made_right) = true)
    (a__law_number : PySem.W.nsIn K mainGlobals "_law_number" = some (some (.ref f__law_number)))
    (l__law_number : K.lookup f__law_number = some ⟨oc__law_number, od__law_number, .func (PySem.W.fnOf "_law_number" "_law_number" (defArgs s__law_number) (defBody s__law_number) (defScope s__law_number) .none kV__law_number dc__law_number pm__law_number an__law_number cd__law_number ct__law_number), sl__law_number⟩)
    (c__law_number : PySem.W.codeIn K cd__law_number "_law_number" = true)
    (k__law_number : PySem.W.keepIn K (.ref f__law_number) = true)
    (a__law_due : PySem.W.nsIn K mainGlobals "_law_due" = some (some (.ref f__law_due)))
    (l__law_due : K.lookup f__law_due = some ⟨oc__law_due, od__law_due, .func (PySem.W.fnOf "_law_due" "_law_due" (defArgs s__law_due) (defBody s__law_due) (defScope s__law_due) .none kV__law_due dc__law_due pm__law_due an__law_due cd__law_due ct__law_due), sl__law_due⟩)
    (c__law_due : PySem.W.codeIn K cd__law_due "_law_due" = true)
    (k__law_due : PySem.W.keepIn K (.ref f__law_due) = true)
    (a__law_bent : PySem.W.nsIn K mainGlobals "_law_bent" = some (some (.ref f__law_bent)))
    (l__law_bent : K.lookup f__law_bent = some ⟨oc__law_bent, od__law_bent, .func (PySem.W.fnOf "_law_bent" "_law_bent" (defArgs s__law_bent) (defBody s__law_bent) (defScope s__law_bent) .none kV__law_bent dc__law_bent pm__law_bent an__law_bent cd__law_bent ct__law_bent), sl__law_bent⟩)
    (c__law_bent : PySem.W.codeIn K cd__law_bent "_law_bent" = true)
    (k__law_bent : PySem.W.keepIn K (.ref f__law_bent) = true)
    (a_law : PySem.W.nsIn K mainGlobals "law" = some (some (.ref f_law)))
    (l_law : K.lookup f_law = some ⟨oc_law, od_law, .func (PySem.W.fnOf "law" "law" (defArgs s_law) (defBody s_law) (defScope s_law) .none kV_law dc_law pm_law an_law (.ref c2) ct_law), sl_law⟩)
    (c_law : PySem.W.codeIn K (.ref c2) "law" = true)
    (k_law : PySem.W.keepIn K (.ref f_law) = true)
    (aF : PySem.W.nsIn K mainGlobals "FlipError" = some (some (.ref CF)))
    (eF : PySem.W.subIn K (.ref CF) (.type "BaseException") = some true)
    (dF : PySem.W.hasDictIn K CF = true)
    (tF : PySem.W.typeIn K (.ref CF) = some (.type "type"))
    (a_BadWord : PySem.W.nsIn K mainGlobals "BadWord" = some (some (.ref C_BadWord)))
    (x_BadWord : K.lookup C_BadWord = some (excClassObj nm_BadWord q_BadWord C_BadWord N_BadWord bs_BadWord [.ref CF, .type "ValueError", .type "Exception", .type "BaseException", .type "object"] true sn_BadWord sub_BadWord ab_BadWord col_BadWord dd_BadWord m0_BadWord m1_BadWord m2_BadWord m3_BadWord m5_BadWord "ValueError.__new__"))
    (sa_BadWord : PySem.W.findIn K (.ref C_BadWord) "__setattr__" = some (some (.builtin "object.__setattr__")))
    (e_BadWord : PySem.W.subIn K (.ref C_BadWord) (.type "BaseException") = some true)
    (t_BadWord : PySem.W.typeIn K (.ref C_BadWord) = some (.type "type"))
    (k_BadWord : PySem.W.keepIn K (.ref C_BadWord) = true)
    (i_BadWord : PySem.W.findIn K (.ref C_BadWord) "__init__" = some (some (.ref fi_BadWord)))
    (ti_BadWord : PySem.W.typeIn K (.ref fi_BadWord) = some (.type "function"))
    (li_BadWord : K.lookup fi_BadWord = some ⟨oi_BadWord, odi_BadWord, .func (PySem.W.fnOf "__init__" "BadWord.__init__" (defArgs s_init_BadWord) (defBody s_init_BadWord) (defScope s_init_BadWord) .none kVi_BadWord dci_BadWord pmi_BadWord ani_BadWord cdi_BadWord cti_BadWord), sli_BadWord⟩)
    (ci_BadWord : PySem.W.codeIn K cdi_BadWord "BadWord.__init__" = true)
    (ki_BadWord : PySem.W.keepIn K (.ref fi_BadWord) = true)
    (no_BadWord_part : PySem.W.findIn K (.ref C_BadWord) "part" = some none)
    (ga_BadWord : PySem.W.findIn K (.ref C_BadWord) "__getattribute__" = some (some (.builtin "BaseException.__getattribute__")))
    (gg_BadWord : PySem.W.findIn K (.ref C_BadWord) "__getattr__" = some none)
    (hd_BadWord : PySem.W.hasDictIn K C_BadWord = true)
    (ha_BadWord : PySem.W.findIn K (.ref C_BadWord) "__class__" = some (some (.builtin "object.__class__")))
    (hm_BadWord : PySem.W.mroIn K C_BadWord (.type "object") = some true)
    (sf_BadWord : PySem.W.subIn K (.ref C_BadWord) (.ref CF) = some true)
    (is_BadWord : PySem.W.isClsIn K C_BadWord = true)
    (z_BadWord : PySem.W.subIn K (.type "NoneType") (.ref C_BadWord) = some false)
    (a_BadBits : PySem.W.nsIn K mainGlobals "BadBits" = some (some (.ref C_BadBits)))
    (x_BadBits : K.lookup C_BadBits = some (excClassObj nm_BadBits q_BadBits C_BadBits N_BadBits bs_BadBits [.ref CF, .type "ValueError", .type "Exception", .type "BaseException", .type "object"] true sn_BadBits sub_BadBits ab_BadBits col_BadBits dd_BadBits m0_BadBits m1_BadBits m2_BadBits m3_BadBits m5_BadBits "ValueError.__new__"))
    (sa_BadBits : PySem.W.findIn K (.ref C_BadBits) "__setattr__" = some (some (.builtin "object.__setattr__")))
    (e_BadBits : PySem.W.subIn K (.ref C_BadBits) (.type "BaseException") = some true)
    (t_BadBits : PySem.W.typeIn K (.ref C_BadBits) = some (.type "type"))
    (k_BadBits : PySem.W.keepIn K (.ref C_BadBits) = true)
    (i_BadBits : PySem.W.findIn K (.ref C_BadBits) "__init__" = some (some (.ref fi_BadBits)))
    (ti_BadBits : PySem.W.typeIn K (.ref fi_BadBits) = some (.type "function"))
    (li_BadBits : K.lookup fi_BadBits = some ⟨oi_BadBits, odi_BadBits, .func (PySem.W.fnOf "__init__" "BadBits.__init__" (defArgs s_init_BadBits) (defBody s_init_BadBits) (defScope s_init_BadBits) .none kVi_BadBits dci_BadBits pmi_BadBits ani_BadBits cdi_BadBits cti_BadBits), sli_BadBits⟩)
    (ci_BadBits : PySem.W.codeIn K cdi_BadBits "BadBits.__init__" = true)
    (ki_BadBits : PySem.W.keepIn K (.ref fi_BadBits) = true)
    (no_BadBits_part : PySem.W.findIn K (.ref C_BadBits) "part" = some none)
    (ga_BadBits : PySem.W.findIn K (.ref C_BadBits) "__getattribute__" = some (some (.builtin "BaseException.__getattribute__")))
    (gg_BadBits : PySem.W.findIn K (.ref C_BadBits) "__getattr__" = some none)
    (hd_BadBits : PySem.W.hasDictIn K C_BadBits = true)
    (ha_BadBits : PySem.W.findIn K (.ref C_BadBits) "__class__" = some (some (.builtin "object.__class__")))
    (hm_BadBits : PySem.W.mroIn K C_BadBits (.type "object") = some true)
    (sf_BadBits : PySem.W.subIn K (.ref C_BadBits) (.ref CF) = some true)
    (is_BadBits : PySem.W.isClsIn K C_BadBits = true)
    (z_BadBits : PySem.W.subIn K (.type "NoneType") (.ref C_BadBits) = some false)
    (a_BadStore : PySem.W.nsIn K mainGlobals "BadStore" = some (some (.ref C_BadStore)))
    (x_BadStore : K.lookup C_BadStore = some (excClassObj nm_BadStore q_BadStore C_BadStore N_BadStore bs_BadStore [.ref CF, .type "ValueError", .type "Exception", .type "BaseException", .type "object"] true sn_BadStore sub_BadStore ab_BadStore col_BadStore dd_BadStore m0_BadStore m1_BadStore m2_BadStore m3_BadStore m5_BadStore "ValueError.__new__"))
    (sa_BadStore : PySem.W.findIn K (.ref C_BadStore) "__setattr__" = some (some (.builtin "object.__setattr__")))
    (e_BadStore : PySem.W.subIn K (.ref C_BadStore) (.type "BaseException") = some true)
    (t_BadStore : PySem.W.typeIn K (.ref C_BadStore) = some (.type "type"))
    (k_BadStore : PySem.W.keepIn K (.ref C_BadStore) = true)
    (i_BadStore : PySem.W.findIn K (.ref C_BadStore) "__init__" = some (some (.ref fi_BadStore)))
    (ti_BadStore : PySem.W.typeIn K (.ref fi_BadStore) = some (.type "function"))
    (li_BadStore : K.lookup fi_BadStore = some ⟨oi_BadStore, odi_BadStore, .func (PySem.W.fnOf "__init__" "BadStore.__init__" (defArgs s_init_BadStore) (defBody s_init_BadStore) (defScope s_init_BadStore) .none kVi_BadStore dci_BadStore pmi_BadStore ani_BadStore cdi_BadStore cti_BadStore), sli_BadStore⟩)
    (ci_BadStore : PySem.W.codeIn K cdi_BadStore "BadStore.__init__" = true)
    (ki_BadStore : PySem.W.keepIn K (.ref fi_BadStore) = true)
    (no_BadStore_part : PySem.W.findIn K (.ref C_BadStore) "part" = some none)
    (ga_BadStore : PySem.W.findIn K (.ref C_BadStore) "__getattribute__" = some (some (.builtin "BaseException.__getattribute__")))
    (gg_BadStore : PySem.W.findIn K (.ref C_BadStore) "__getattr__" = some none)
    (hd_BadStore : PySem.W.hasDictIn K C_BadStore = true)
    (ha_BadStore : PySem.W.findIn K (.ref C_BadStore) "__class__" = some (some (.builtin "object.__class__")))
    (hm_BadStore : PySem.W.mroIn K C_BadStore (.type "object") = some true)
    (sf_BadStore : PySem.W.subIn K (.ref C_BadStore) (.ref CF) = some true)
    (is_BadStore : PySem.W.isClsIn K C_BadStore = true)
    (z_BadStore : PySem.W.subIn K (.type "NoneType") (.ref C_BadStore) = some false)
    (a_BadDeed : PySem.W.nsIn K mainGlobals "BadDeed" = some (some (.ref C_BadDeed)))
    (x_BadDeed : K.lookup C_BadDeed = some (excClassObj nm_BadDeed q_BadDeed C_BadDeed N_BadDeed bs_BadDeed [.ref CF, .type "ValueError", .type "Exception", .type "BaseException", .type "object"] true sn_BadDeed sub_BadDeed ab_BadDeed col_BadDeed dd_BadDeed m0_BadDeed m1_BadDeed m2_BadDeed m3_BadDeed m5_BadDeed "ValueError.__new__"))
    (sa_BadDeed : PySem.W.findIn K (.ref C_BadDeed) "__setattr__" = some (some (.builtin "object.__setattr__")))
    (e_BadDeed : PySem.W.subIn K (.ref C_BadDeed) (.type "BaseException") = some true)
    (t_BadDeed : PySem.W.typeIn K (.ref C_BadDeed) = some (.type "type"))
    (k_BadDeed : PySem.W.keepIn K (.ref C_BadDeed) = true)
    (i_BadDeed : PySem.W.findIn K (.ref C_BadDeed) "__init__" = some (some (.ref fi_BadDeed)))
    (ti_BadDeed : PySem.W.typeIn K (.ref fi_BadDeed) = some (.type "function"))
    (li_BadDeed : K.lookup fi_BadDeed = some ⟨oi_BadDeed, odi_BadDeed, .func (PySem.W.fnOf "__init__" "BadDeed.__init__" (defArgs s_init_BadDeed) (defBody s_init_BadDeed) (defScope s_init_BadDeed) .none kVi_BadDeed dci_BadDeed pmi_BadDeed ani_BadDeed cdi_BadDeed cti_BadDeed), sli_BadDeed⟩)
    (ci_BadDeed : PySem.W.codeIn K cdi_BadDeed "BadDeed.__init__" = true)
    (ki_BadDeed : PySem.W.keepIn K (.ref fi_BadDeed) = true)
    (no_BadDeed_part : PySem.W.findIn K (.ref C_BadDeed) "part" = some none)
    (ga_BadDeed : PySem.W.findIn K (.ref C_BadDeed) "__getattribute__" = some (some (.builtin "BaseException.__getattribute__")))
    (gg_BadDeed : PySem.W.findIn K (.ref C_BadDeed) "__getattr__" = some none)
    (hd_BadDeed : PySem.W.hasDictIn K C_BadDeed = true)
    (ha_BadDeed : PySem.W.findIn K (.ref C_BadDeed) "__class__" = some (some (.builtin "object.__class__")))
    (hm_BadDeed : PySem.W.mroIn K C_BadDeed (.type "object") = some true)
    (sf_BadDeed : PySem.W.subIn K (.ref C_BadDeed) (.ref CF) = some true)
    (is_BadDeed : PySem.W.isClsIn K C_BadDeed = true)
    (z_BadDeed : PySem.W.subIn K (.type "NoneType") (.ref C_BadDeed) = some false)
    (a_BadText : PySem.W.nsIn K mainGlobals "BadText" = some (some (.ref C_BadText)))
    (x_BadText : K.lookup C_BadText = some (excClassObj nm_BadText q_BadText C_BadText N_BadText bs_BadText [.ref CF, .type "ValueError", .type "Exception", .type "BaseException", .type "object"] true sn_BadText sub_BadText ab_BadText col_BadText dd_BadText m0_BadText m1_BadText m2_BadText m3_BadText m5_BadText "ValueError.__new__"))
    (sa_BadText : PySem.W.findIn K (.ref C_BadText) "__setattr__" = some (some (.builtin "object.__setattr__")))
    (e_BadText : PySem.W.subIn K (.ref C_BadText) (.type "BaseException") = some true)
    (t_BadText : PySem.W.typeIn K (.ref C_BadText) = some (.type "type"))
    (k_BadText : PySem.W.keepIn K (.ref C_BadText) = true)
    (i_BadText : PySem.W.findIn K (.ref C_BadText) "__init__" = some (some (.ref fi_BadText)))
    (ti_BadText : PySem.W.typeIn K (.ref fi_BadText) = some (.type "function"))
    (li_BadText : K.lookup fi_BadText = some ⟨oi_BadText, odi_BadText, .func (PySem.W.fnOf "__init__" "BadText.__init__" (defArgs s_init_BadText) (defBody s_init_BadText) (defScope s_init_BadText) .none kVi_BadText dci_BadText pmi_BadText ani_BadText cdi_BadText cti_BadText), sli_BadText⟩)
    (ci_BadText : PySem.W.codeIn K cdi_BadText "BadText.__init__" = true)
    (ki_BadText : PySem.W.keepIn K (.ref fi_BadText) = true)
    (no_BadText_line : PySem.W.findIn K (.ref C_BadText) "line" = some none)
    (no_BadText_item : PySem.W.findIn K (.ref C_BadText) "item" = some none)
    (ga_BadText : PySem.W.findIn K (.ref C_BadText) "__getattribute__" = some (some (.builtin "BaseException.__getattribute__")))
    (gg_BadText : PySem.W.findIn K (.ref C_BadText) "__getattr__" = some none)
    (hd_BadText : PySem.W.hasDictIn K C_BadText = true)
    (ha_BadText : PySem.W.findIn K (.ref C_BadText) "__class__" = some (some (.builtin "object.__class__")))
    (hm_BadText : PySem.W.mroIn K C_BadText (.type "object") = some true)
    (sf_BadText : PySem.W.subIn K (.ref C_BadText) (.ref CF) = some true)
    (is_BadText : PySem.W.isClsIn K C_BadText = true)
    (z_BadText : PySem.W.subIn K (.type "NoneType") (.ref C_BadText) = some false)
    (sub_BadWord_BadWord : PySem.W.subIn K (.ref C_BadWord) (.ref C_BadWord) = some true)
    (sub_BadWord_BadBits : PySem.W.subIn K (.ref C_BadWord) (.ref C_BadBits) = some false)
    (sub_BadWord_BadStore : PySem.W.subIn K (.ref C_BadWord) (.ref C_BadStore) = some false)
    (sub_BadWord_BadDeed : PySem.W.subIn K (.ref C_BadWord) (.ref C_BadDeed) = some false)
    (sub_BadWord_BadText : PySem.W.subIn K (.ref C_BadWord) (.ref C_BadText) = some false)
    (sub_BadBits_BadWord : PySem.W.subIn K (.ref C_BadBits) (.ref C_BadWord) = some false)
    (sub_BadBits_BadBits : PySem.W.subIn K (.ref C_BadBits) (.ref C_BadBits) = some true)
    (sub_BadBits_BadStore : PySem.W.subIn K (.ref C_BadBits) (.ref C_BadStore) = some false)
    (sub_BadBits_BadDeed : PySem.W.subIn K (.ref C_BadBits) (.ref C_BadDeed) = some false)
    (sub_BadBits_BadText : PySem.W.subIn K (.ref C_BadBits) (.ref C_BadText) = some false)
    (sub_BadStore_BadWord : PySem.W.subIn K (.ref C_BadStore) (.ref C_BadWord) = some false)
    (sub_BadStore_BadBits : PySem.W.subIn K (.ref C_BadStore) (.ref C_BadBits) = some false)
    (sub_BadStore_BadStore : PySem.W.subIn K (.ref C_BadStore) (.ref C_BadStore) = some true)
    (sub_BadStore_BadDeed : PySem.W.subIn K (.ref C_BadStore) (.ref C_BadDeed) = some false)
    (sub_BadStore_BadText : PySem.W.subIn K (.ref C_BadStore) (.ref C_BadText) = some false)
    (sub_BadDeed_BadWord : PySem.W.subIn K (.ref C_BadDeed) (.ref C_BadWord) = some false)
    (sub_BadDeed_BadBits : PySem.W.subIn K (.ref C_BadDeed) (.ref C_BadBits) = some false)
    (sub_BadDeed_BadStore : PySem.W.subIn K (.ref C_BadDeed) (.ref C_BadStore) = some false)
    (sub_BadDeed_BadDeed : PySem.W.subIn K (.ref C_BadDeed) (.ref C_BadDeed) = some true)
    (sub_BadDeed_BadText : PySem.W.subIn K (.ref C_BadDeed) (.ref C_BadText) = some false)
    (sub_BadText_BadWord : PySem.W.subIn K (.ref C_BadText) (.ref C_BadWord) = some false)
    (sub_BadText_BadBits : PySem.W.subIn K (.ref C_BadText) (.ref C_BadBits) = some false)
    (sub_BadText_BadStore : PySem.W.subIn K (.ref C_BadText) (.ref C_BadStore) = some false)
    (sub_BadText_BadDeed : PySem.W.subIn K (.ref C_BadText) (.ref C_BadDeed) = some false)
    (sub_BadText_BadText : PySem.W.subIn K (.ref C_BadText) (.ref C_BadText) = some true)
    (spn : PySem.W.specialIn K (.builtin "object.__class__") "__get__" = some (some (.builtin "getset_descriptor.__get__")))
    (tkn : PySem.W.takesIn K (.builtin "object.__class__") = some true)
    (a_MOST_BIT : PySem.W.nsIn K mainGlobals "MOST_BIT" = some (some (.int 20000 t_MOST_BIT)))
    (a_MOST_DIGITS : PySem.W.nsIn K mainGlobals "MOST_DIGITS" = some (some (.int 140 t_MOST_DIGITS)))
    (a_MOST_CELLS : PySem.W.nsIn K mainGlobals "MOST_CELLS" = some (some (.int 256 t_MOST_CELLS)))
    (a_MOST_SIZE : PySem.W.nsIn K mainGlobals "MOST_SIZE" = some (some (.int 48 t_MOST_SIZE)))
    (a_MOST_ROWS : PySem.W.nsIn K mainGlobals "MOST_ROWS" = some (some (.int 8 t_MOST_ROWS)))
    (n_abs : PySem.W.nsIn K mainGlobals "abs" = some none)
    (n_all : PySem.W.nsIn K mainGlobals "all" = some none)
    (n_bool : PySem.W.nsIn K mainGlobals "bool" = some none)
    (n_enumerate : PySem.W.nsIn K mainGlobals "enumerate" = some none)
    (n_int : PySem.W.nsIn K mainGlobals "int" = some none)
    (n_isinstance : PySem.W.nsIn K mainGlobals "isinstance" = some none)
    (n_len : PySem.W.nsIn K mainGlobals "len" = some none)
    (n_list : PySem.W.nsIn K mainGlobals "list" = some none)
    (n_min : PySem.W.nsIn K mainGlobals "min" = some none)
    (n_range : PySem.W.nsIn K mainGlobals "range" = some none)
    (n_repr : PySem.W.nsIn K mainGlobals "repr" = some none)
    (n_set : PySem.W.nsIn K mainGlobals "set" = some none)
    (n_sorted : PySem.W.nsIn K mainGlobals "sorted" = some none)
    (n_str : PySem.W.nsIn K mainGlobals "str" = some none)
    (n_sum : PySem.W.nsIn K mainGlobals "sum" = some none)
    (n_tuple : PySem.W.nsIn K mainGlobals "tuple" = some none)
    (aC_Store : PySem.W.nsIn K mainGlobals "Store" = some (some (.ref C_Store)))
    (pg_Store : PySem.W.plainGet K C_Store Str.empty = true)
    (hdC_Store : PySem.W.hasDictIn K C_Store = true)
    (po_Store : PySem.W.plainOver K C_Store = true)
    (saC_Store : PySem.W.findIn K (.ref C_Store) "__setattr__" = some (some (.builtin "object.__setattr__")))
    (mkC_Store : PySem.W.makesIn K C_Store = true)
    (kcC_Store : PySem.W.keepIn K (.ref C_Store) = true)
    (haC_Store : PySem.W.findIn K (.ref C_Store) "__class__" = some (some (.builtin "object.__class__")))
    (hmC_Store : PySem.W.mroIn K C_Store (.type "object") = some true)
    (isC_Store : PySem.W.isClsIn K C_Store = true)
    (tyC_Store : PySem.W.typeIn K (.ref C_Store) = some (.type "type"))
    (sfC_Store : PySem.W.subIn K (.ref C_Store) (.ref C_Store) = some true)
    (suNoneType_Store : PySem.W.subIn K (.type "NoneType") (.ref C_Store) = some false)
    (suint_Store : PySem.W.subIn K (.type "int") (.ref C_Store) = some false)
    (subool_Store : PySem.W.subIn K (.type "bool") (.ref C_Store) = some false)
    (sustr_Store : PySem.W.subIn K (.type "str") (.ref C_Store) = some false)
    (sulist_Store : PySem.W.subIn K (.type "list") (.ref C_Store) = some false)
    (sutuple_Store : PySem.W.subIn K (.type "tuple") (.ref C_Store) = some false)
    (sudict_Store : PySem.W.subIn K (.type "dict") (.ref C_Store) = some false)
    (nC_Store_cells : PySem.W.findIn K (.ref C_Store) "cells" = some none)
    (nC_Store_size : PySem.W.findIn K (.ref C_Store) "size" = some none)
    (nC_Store_most : PySem.W.findIn K (.ref C_Store) "most" = some none)
    (nC_Store_place_bits : PySem.W.findIn K (.ref C_Store) "place_bits" = some none)
    (nC_Store_bits : PySem.W.findIn K (.ref C_Store) "bits" = some none)
    (fi_Store_init : PySem.W.findIn K (.ref C_Store) "__init__" = some (some (.ref f_Store_init)))
    (if_Store_init : PySem.W.isFn K (.ref f_Store_init) = true)
    (l_Store_init : K.lookup f_Store_init = some ⟨oc_Store_init, od_Store_init, .func (PySem.W.fnOf "__init__" "Store.__init__" (defArgs s_Store_init) (defBody s_Store_init) (defScope s_Store_init) .none kV_Store_init dc_Store_init pm_Store_init an_Store_init cd_Store_init ct_Store_init), sl_Store_init⟩)
    (c_Store_init : PySem.W.codeIn K cd_Store_init "Store.__init__" = true)
    (k_Store_init : PySem.W.keepIn K (.ref f_Store_init) = true)
    (fi_Store_eq : PySem.W.findIn K (.ref C_Store) "__eq__" = some (some (.ref f_Store_eq)))
    (if_Store_eq : PySem.W.isFn K (.ref f_Store_eq) = true)
    (l_Store_eq : K.lookup f_Store_eq = some ⟨oc_Store_eq, od_Store_eq, .func (PySem.W.fnOf "__eq__" "Store.__eq__" (defArgs s_Store_eq) (defBody s_Store_eq) (defScope s_Store_eq) .none kV_Store_eq dc_Store_eq pm_Store_eq an_Store_eq cd_Store_eq ct_Store_eq), sl_Store_eq⟩)
    (c_Store_eq : PySem.W.codeIn K cd_Store_eq "Store.__eq__" = true)
    (k_Store_eq : PySem.W.keepIn K (.ref f_Store_eq) = true)
    (ne_Store : PySem.W.findIn K (.ref C_Store) "__ne__" = some (some (.builtin "object.__ne__")))
    (fi_Store_str : PySem.W.findIn K (.ref C_Store) "__str__" = some (some (.ref f_Store_str)))
    (if_Store_str : PySem.W.isFn K (.ref f_Store_str) = true)
    (l_Store_str : K.lookup f_Store_str = some ⟨oc_Store_str, od_Store_str, .func (PySem.W.fnOf "__str__" "Store.__str__" (defArgs s_Store_str) (defBody s_Store_str) (defScope s_Store_str) .none kV_Store_str dc_Store_str pm_Store_str an_Store_str cd_Store_str ct_Store_str), sl_Store_str⟩)
    (c_Store_str : PySem.W.codeIn K cd_Store_str "Store.__str__" = true)
    (k_Store_str : PySem.W.keepIn K (.ref f_Store_str) = true)
    (sm_Store_read : PySem.W.findCls K (.ref C_Store) (.type "type") "read" = some (.get (.builtin "staticmethod.__get__") (.ref p_Store_read) .none (.ref C_Store)))
    (rc_Store_read : PySem.W.recIn K p_Store_read "staticmethod" = some (.ref f_Store_read :: rs_Store_read))
    (l_Store_read : K.lookup f_Store_read = some ⟨oc_Store_read, od_Store_read, .func (PySem.W.fnOf "read" "Store.read" (defArgs s_Store_read) (defBody s_Store_read) (defScope s_Store_read) .none kV_Store_read dc_Store_read pm_Store_read an_Store_read cd_Store_read ct_Store_read), sl_Store_read⟩)
    (c_Store_read : PySem.W.codeIn K cd_Store_read "Store.read" = true)
    (k_Store_read : PySem.W.keepIn K (.ref f_Store_read) = true)
    (rdC_Store : PySem.W.readsIn K C_Store (.type "type") = true)
    (gaC_Store : PySem.W.specialIn K (.ref C_Store) "__getattribute__" = some (some (.builtin "type.__getattribute__")))
    (l_code1 : K.lookup c1 = some ⟨.type "code", odC1, .fields vsC1, slC1⟩)
    (v111 : vsC1[11]? = some (.ref Pt1))
    (hdc1 : PySem.W.codeHdIn K c1 Pt1 = true)
    (kPt1 : K.lookup Pt1 = none)
    (hPt1 : h.get? Pt1 = some { cls := .none, data := .fields #[] })
    (l_code2 : K.lookup c2 = some ⟨.type "code", odC2, .fields vsC2, slC2⟩)
    (v112 : vsC2[11]? = some (.ref Pt2))
    (hdc2 : PySem.W.codeHdIn K c2 Pt2 = true)
    (kPt2 : K.lookup Pt2 = none)
    (hPt2 : h.get? Pt2 = some { cls := .none, data := .fields #[] })
    (nPt : Pt1 ≠ Pt2) :
    OB.LawG l w K CX0 16 63 "script" mg fa h := by
  have efa := hfa.symm.trans (PySem.W.mg_of X G a_law)
  cases efa
  have D_is_integer : Df K mg "is_integer" s_is_integer ["value"] f_is_integer _ := ⟨fun_mk (st := s_is_integer) l_is_integer c_is_integer k_is_integer, PySem.W.mg_of X G a_is_integer, (fun_mk (st := s_is_integer) l_is_integer c_is_integer k_is_integer).binds (ps := ["value"]) fun _ _ _ _ _ _ us hl => match us, hl with | [_], _ => rfl⟩
  have D_is_within : Df K mg "is_within" s_is_within ["value", "least", "most"] f_is_within _ := ⟨fun_mk (st := s_is_within) l_is_within c_is_within k_is_within, PySem.W.mg_of X G a_is_within, (fun_mk (st := s_is_within) l_is_within c_is_within k_is_within).binds (ps := ["value", "least", "most"]) fun _ _ _ _ _ _ us hl => match us, hl with | [_, _, _], _ => rfl⟩
  have D_is_list : Df K mg "is_list" s_is_list ["value"] f_is_list _ := ⟨fun_mk (st := s_is_list) l_is_list c_is_list k_is_list, PySem.W.mg_of X G a_is_list, (fun_mk (st := s_is_list) l_is_list c_is_list k_is_list).binds (ps := ["value"]) fun _ _ _ _ _ _ us hl => match us, hl with | [_], _ => rfl⟩
  have D_are_unlike : Df K mg "are_unlike" s_are_unlike ["value", "least", "most"] f_are_unlike _ := ⟨fun_mk (st := s_are_unlike) l_are_unlike c_are_unlike k_are_unlike, PySem.W.mg_of X G a_are_unlike, (fun_mk (st := s_are_unlike) l_are_unlike c_are_unlike k_are_unlike).binds (ps := ["value", "least", "most"]) fun _ _ _ _ _ _ us hl => match us, hl with | [_, _, _], _ => rfl⟩
  have D_is_lot : Df K mg "is_lot" s_is_lot ["value"] f_is_lot _ := ⟨fun_mk (st := s_is_lot) l_is_lot c_is_lot k_is_lot, PySem.W.mg_of X G a_is_lot, (fun_mk (st := s_is_lot) l_is_lot c_is_lot k_is_lot).binds (ps := ["value"]) fun _ _ _ _ _ _ us hl => match us, hl with | [_], _ => rfl⟩
  have D_lot_of : Df K mg "lot_of" s_lot_of ["bits"] f_lot_of _ := ⟨fun_mk (st := s_lot_of) l_lot_of c_lot_of k_lot_of, PySem.W.mg_of X G a_lot_of, (fun_mk (st := s_lot_of) l_lot_of c_lot_of k_lot_of).binds (ps := ["bits"]) fun _ _ _ _ _ _ us hl => match us, hl with | [_], _ => rfl⟩
  have D_need_word : Df K mg "need_word" s_need_word ["value", "part"] f_need_word _ := ⟨fun_mk (st := s_need_word) l_need_word c_need_word k_need_word, PySem.W.mg_of X G a_need_word, (fun_mk (st := s_need_word) l_need_word c_need_word k_need_word).binds (ps := ["value", "part"]) fun _ _ _ _ _ _ us hl => match us, hl with | [_, _], _ => rfl⟩
  have D_need_lot : Df K mg "need_lot" s_need_lot ["value", "part"] f_need_lot _ := ⟨fun_mk (st := s_need_lot) l_need_lot c_need_lot k_need_lot, PySem.W.mg_of X G a_need_lot, (fun_mk (st := s_need_lot) l_need_lot c_need_lot k_need_lot).binds (ps := ["value", "part"]) fun _ _ _ _ _ _ us hl => match us, hl with | [_, _], _ => rfl⟩
  have D_items_of : Df K mg "items_of" s_items_of ["text"] f_items_of _ := ⟨fun_mk (st := s_items_of) l_items_of c_items_of k_items_of, PySem.W.mg_of X G a_items_of, (fun_mk (st := s_items_of) l_items_of c_items_of k_items_of).binds (ps := ["text"]) fun _ _ _ _ _ _ us hl => match us, hl with | [_], _ => rfl⟩
  have D_integer_of : Df K mg "integer_of" s_integer_of ["item"] f_integer_of _ := ⟨fun_mk (st := s_integer_of) l_integer_of c_integer_of k_integer_of, PySem.W.mg_of X G a_integer_of, (fun_mk (st := s_integer_of) l_integer_of c_integer_of k_integer_of).binds (ps := ["item"]) fun _ _ _ _ _ _ us hl => match us, hl with | [_], _ => rfl⟩
  have D_item_at : Df K mg "item_at" s_item_at ["items", "at"] f_item_at _ := ⟨fun_mk (st := s_item_at) l_item_at c_item_at k_item_at, PySem.W.mg_of X G a_item_at, (fun_mk (st := s_item_at) l_item_at c_item_at k_item_at).binds (ps := ["items", "at"]) fun _ _ _ _ _ _ us hl => match us, hl with | [_, _], _ => rfl⟩
  have D_integer_at : Df K mg "integer_at" s_integer_at ["items", "at", "least", "most"] f_integer_at _ := ⟨fun_mk (st := s_integer_at) l_integer_at c_integer_at k_integer_at, PySem.W.mg_of X G a_integer_at, (fun_mk (st := s_integer_at) l_integer_at c_integer_at k_integer_at).binds (ps := ["items", "at", "least", "most"]) fun _ _ _ _ _ _ us hl => match us, hl with | [_, _, _, _], _ => rfl⟩
  have D_need_end : Df K mg "need_end" s_need_end ["items", "at"] f_need_end _ := ⟨fun_mk (st := s_need_end) l_need_end c_need_end k_need_end, PySem.W.mg_of X G a_need_end, (fun_mk (st := s_need_end) l_need_end c_need_end k_need_end).binds (ps := ["items", "at"]) fun _ _ _ _ _ _ us hl => match us, hl with | [_, _], _ => rfl⟩
  have D_flipped : Df K mg "flipped" s_flipped ["word", "bits"] f_flipped _ := ⟨fun_mk (st := s_flipped) l_flipped c_flipped k_flipped, PySem.W.mg_of X G a_flipped, (fun_mk (st := s_flipped) l_flipped c_flipped k_flipped).binds (ps := ["word", "bits"]) fun _ _ _ _ _ _ us hl => match us, hl with | [_, _], _ => rfl⟩
  have D_flipped_often : Df K mg "flipped_often" s_flipped_often ["word", "bits"] f_flipped_often _ := ⟨fun_mk (st := s_flipped_often) l_flipped_often c_flipped_often k_flipped_often, PySem.W.mg_of X G a_flipped_often, (fun_mk (st := s_flipped_often) l_flipped_often c_flipped_often k_flipped_often).binds (ps := ["word", "bits"]) fun _ _ _ _ _ _ us hl => match us, hl with | [_, _], _ => rfl⟩
  have D_differing : Df K mg "differing" s_differing ["one", "other"] f_differing _ := ⟨fun_mk (st := s_differing) l_differing c_differing k_differing, PySem.W.mg_of X G a_differing, (fun_mk (st := s_differing) l_differing c_differing k_differing).binds (ps := ["one", "other"]) fun _ _ _ _ _ _ us hl => match us, hl with | [_, _], _ => rfl⟩
  have D__bits_of : Df K mg "_bits_of" s__bits_of ["word"] f__bits_of _ := ⟨fun_mk (st := s__bits_of) l__bits_of c__bits_of k__bits_of, PySem.W.mg_of X G a__bits_of, (fun_mk (st := s__bits_of) l__bits_of c__bits_of k__bits_of).binds (ps := ["word"]) fun _ _ _ _ _ _ us hl => match us, hl with | [_], _ => rfl⟩
  have D_most_rows : Df K mg "most_rows" s_most_rows ["cells"] f_most_rows _ := ⟨fun_mk (st := s_most_rows) l_most_rows c_most_rows k_most_rows, PySem.W.mg_of X G a_most_rows, (fun_mk (st := s_most_rows) l_most_rows c_most_rows k_most_rows).binds (ps := ["cells"]) fun _ _ _ _ _ _ us hl => match us, hl with | [_], _ => rfl⟩
  have D_need_store : Df K mg "need_store" s_need_store ["value"] f_need_store _ := ⟨fun_mk (st := s_need_store) l_need_store c_need_store k_need_store, PySem.W.mg_of X G a_need_store, (fun_mk (st := s_need_store) l_need_store c_need_store k_need_store).binds (ps := ["value"]) fun _ _ _ _ _ _ us hl => match us, hl with | [_], _ => rfl⟩
  have D_need_word_in : Df K mg "need_word_in" s_need_word_in ["store", "word"] f_need_word_in _ := ⟨fun_mk (st := s_need_word_in) l_need_word_in c_need_word_in k_need_word_in, PySem.W.mg_of X G a_need_word_in, (fun_mk (st := s_need_word_in) l_need_word_in c_need_word_in k_need_word_in).binds (ps := ["store", "word"]) fun _ _ _ _ _ _ us hl => match us, hl with | [_, _], _ => rfl⟩
  have D_need_values : Df K mg "need_values" s_need_values ["store", "values"] f_need_values _ := ⟨fun_mk (st := s_need_values) l_need_values c_need_values k_need_values, PySem.W.mg_of X G a_need_values, (fun_mk (st := s_need_values) l_need_values c_need_values k_need_values).binds (ps := ["store", "values"]) fun _ _ _ _ _ _ us hl => match us, hl with | [_, _], _ => rfl⟩
  have D_need_deed : Df K mg "need_deed" s_need_deed ["store", "deed"] f_need_deed _ := ⟨fun_mk (st := s_need_deed) l_need_deed c_need_deed k_need_deed, PySem.W.mg_of X G a_need_deed, (fun_mk (st := s_need_deed) l_need_deed c_need_deed k_need_deed).binds (ps := ["store", "deed"]) fun _ _ _ _ _ _ us hl => match us, hl with | [_, _], _ => rfl⟩
  have D_values_in : Df K mg "values_in" s_values_in ["store", "word"] f_values_in _ := ⟨fun_mk (st := s_values_in) l_values_in c_values_in k_values_in, PySem.W.mg_of X G a_values_in, (fun_mk (st := s_values_in) l_values_in c_values_in k_values_in).binds (ps := ["store", "word"]) fun _ _ _ _ _ _ us hl => match us, hl with | [_, _], _ => rfl⟩
  have D_is_open : Df K mg "is_open" s_is_open ["store", "word"] f_is_open _ := ⟨fun_mk (st := s_is_open) l_is_open c_is_open k_is_open, PySem.W.mg_of X G a_is_open, (fun_mk (st := s_is_open) l_is_open c_is_open k_is_open).binds (ps := ["store", "word"]) fun _ _ _ _ _ _ us hl => match us, hl with | [_, _], _ => rfl⟩
  have D_rows_in : Df K mg "rows_in" s_rows_in ["store", "word"] f_rows_in _ := ⟨fun_mk (st := s_rows_in) l_rows_in c_rows_in k_rows_in, PySem.W.mg_of X G a_rows_in, (fun_mk (st := s_rows_in) l_rows_in c_rows_in k_rows_in).binds (ps := ["store", "word"]) fun _ _ _ _ _ _ us hl => match us, hl with | [_, _], _ => rfl⟩
  have D_word_for : Df K mg "word_for" s_word_for ["store", "values"] f_word_for _ := ⟨fun_mk (st := s_word_for) l_word_for c_word_for k_word_for, PySem.W.mg_of X G a_word_for, (fun_mk (st := s_word_for) l_word_for c_word_for k_word_for).binds (ps := ["store", "values"]) fun _ _ _ _ _ _ us hl => match us, hl with | [_, _], _ => rfl⟩
  have D_mend_plan : Df K mg "mend_plan" s_mend_plan ["store", "word"] f_mend_plan _ := ⟨fun_mk (st := s_mend_plan) l_mend_plan c_mend_plan k_mend_plan, PySem.W.mg_of X G a_mend_plan, (fun_mk (st := s_mend_plan) l_mend_plan c_mend_plan k_mend_plan).binds (ps := ["store", "word"]) fun _ _ _ _ _ _ us hl => match us, hl with | [_, _], _ => rfl⟩
  have D_deed_plan : Df K mg "deed_plan" s_deed_plan ["store", "word", "deed"] f_deed_plan _ := ⟨fun_mk (st := s_deed_plan) l_deed_plan c_deed_plan k_deed_plan, PySem.W.mg_of X G a_deed_plan, (fun_mk (st := s_deed_plan) l_deed_plan c_deed_plan k_deed_plan).binds (ps := ["store", "word", "deed"]) fun _ _ _ _ _ _ us hl => match us, hl with | [_, _, _], _ => rfl⟩
  have D_done_in : Df K mg "done_in" s_done_in ["store", "word", "deed"] f_done_in _ := ⟨fun_mk (st := s_done_in) l_done_in c_done_in k_done_in, PySem.W.mg_of X G a_done_in, (fun_mk (st := s_done_in) l_done_in c_done_in k_done_in).binds (ps := ["store", "word", "deed"]) fun _ _ _ _ _ _ us hl => match us, hl with | [_, _, _], _ => rfl⟩
  have D_open_bit : Df K mg "open_bit" s_open_bit ["store"] f_open_bit _ := ⟨fun_mk (st := s_open_bit) l_open_bit c_open_bit k_open_bit, PySem.W.mg_of X G a_open_bit, (fun_mk (st := s_open_bit) l_open_bit c_open_bit k_open_bit).binds (ps := ["store"]) fun _ _ _ _ _ _ us hl => match us, hl with | [_], _ => rfl⟩
  have D__is_value : Df K mg "_is_value" s__is_value ["store", "value"] f__is_value _ := ⟨fun_mk (st := s__is_value) l__is_value c__is_value k__is_value, PySem.W.mg_of X G a__is_value, (fun_mk (st := s__is_value) l__is_value c__is_value k__is_value).binds (ps := ["store", "value"]) fun _ _ _ _ _ _ us hl => match us, hl with | [_, _], _ => rfl⟩
  have D__is_gift : Df K mg "_is_gift" s__is_gift ["store", "value"] f__is_gift _ := ⟨fun_mk (st := s__is_gift) l__is_gift c__is_gift k__is_gift, PySem.W.mg_of X G a__is_gift, (fun_mk (st := s__is_gift) l__is_gift c__is_gift k__is_gift).binds (ps := ["store", "value"]) fun _ _ _ _ _ _ us hl => match us, hl with | [_, _], _ => rfl⟩
  have D__has_open : Df K mg "_has_open" s__has_open ["store", "word"] f__has_open _ := ⟨fun_mk (st := s__has_open) l__has_open c__has_open k__has_open, PySem.W.mg_of X G a__has_open, (fun_mk (st := s__has_open) l__has_open c__has_open k__has_open).binds (ps := ["store", "word"]) fun _ _ _ _ _ _ us hl => match us, hl with | [_, _], _ => rfl⟩
  have D__numbers_in : Df K mg "_numbers_in" s__numbers_in ["word", "many", "size"] f__numbers_in _ := ⟨fun_mk (st := s__numbers_in) l__numbers_in c__numbers_in k__numbers_in, PySem.W.mg_of X G a__numbers_in, (fun_mk (st := s__numbers_in) l__numbers_in c__numbers_in k__numbers_in).binds (ps := ["word", "many", "size"]) fun _ _ _ _ _ _ us hl => match us, hl with | [_, _, _], _ => rfl⟩
  have D__rows_of : Df K mg "_rows_of" s__rows_of ["store", "word"] f__rows_of _ := ⟨fun_mk (st := s__rows_of) l__rows_of c__rows_of k__rows_of, PySem.W.mg_of X G a__rows_of, (fun_mk (st := s__rows_of) l__rows_of c__rows_of k__rows_of).binds (ps := ["store", "word"]) fun _ _ _ _ _ _ us hl => match us, hl with | [_, _], _ => rfl⟩
  have D__word_of_cells : Df K mg "_word_of_cells" s__word_of_cells ["store", "values"] f__word_of_cells _ := ⟨fun_mk (st := s__word_of_cells) l__word_of_cells c__word_of_cells k__word_of_cells, PySem.W.mg_of X G a__word_of_cells, (fun_mk (st := s__word_of_cells) l__word_of_cells c__word_of_cells k__word_of_cells).binds (ps := ["store", "values"]) fun _ _ _ _ _ _ us hl => match us, hl with | [_, _], _ => rfl⟩
  have D__word_of_rows : Df K mg "_word_of_rows" s__word_of_rows ["store", "deed"] f__word_of_rows _ := ⟨fun_mk (st := s__word_of_rows) l__word_of_rows c__word_of_rows k__word_of_rows, PySem.W.mg_of X G a__word_of_rows, (fun_mk (st := s__word_of_rows) l__word_of_rows c__word_of_rows k__word_of_rows).binds (ps := ["store", "deed"]) fun _ _ _ _ _ _ us hl => match us, hl with | [_, _], _ => rfl⟩
  have D__mended : Df K mg "_mended" s__mended ["store", "word"] f__mended _ := ⟨fun_mk (st := s__mended) l__mended c__mended k__mended, PySem.W.mg_of X G a__mended, (fun_mk (st := s__mended) l__mended c__mended k__mended).binds (ps := ["store", "word"]) fun _ _ _ _ _ _ us hl => match us, hl with | [_, _], _ => rfl⟩
  have D_counting_in : Df K mg "counting_in" s_counting_in ["store", "word"] f_counting_in _ := ⟨fun_mk (st := s_counting_in) l_counting_in c_counting_in k_counting_in, PySem.W.mg_of X G a_counting_in, (fun_mk (st := s_counting_in) l_counting_in c_counting_in k_counting_in).binds (ps := ["store", "word"]) fun _ _ _ _ _ _ us hl => match us, hl with | [_, _], _ => rfl⟩
  have D_is_plain : Df K mg "is_plain" s_is_plain ["store", "word", "phase"] f_is_plain _ := ⟨fun_mk (st := s_is_plain) l_is_plain c_is_plain k_is_plain, PySem.W.mg_of X G a_is_plain, (fun_mk (st := s_is_plain) l_is_plain c_is_plain k_is_plain).binds (ps := ["store", "word", "phase"]) fun _ _ _ _ _ _ us hl => match us, hl with | [_, _, _], _ => rfl⟩
  have D_shows_whole : Df K mg "shows_whole" s_shows_whole ["store", "word", "deed", "value"] f_shows_whole _ := ⟨fun_mk (st := s_shows_whole) l_shows_whole c_shows_whole k_shows_whole, PySem.W.mg_of X G a_shows_whole, (fun_mk (st := s_shows_whole) l_shows_whole c_shows_whole k_shows_whole).binds (ps := ["store", "word", "deed", "value"]) fun _ _ _ _ _ _ us hl => match us, hl with | [_, _, _, _], _ => rfl⟩
  have D__is_phase : Df K mg "_is_phase" s__is_phase ["store", "value"] f__is_phase _ := ⟨fun_mk (st := s__is_phase) l__is_phase c__is_phase k__is_phase, PySem.W.mg_of X G a__is_phase, (fun_mk (st := s__is_phase) l__is_phase c__is_phase k__is_phase).binds (ps := ["store", "value"]) fun _ _ _ _ _ _ us hl => match us, hl with | [_, _], _ => rfl⟩
  have D__open_places : Df K mg "_open_places" s__open_places ["store", "word"] f__open_places _ := ⟨fun_mk (st := s__open_places) l__open_places c__open_places k__open_places, PySem.W.mg_of X G a__open_places, (fun_mk (st := s__open_places) l__open_places c__open_places k__open_places).binds (ps := ["store", "word"]) fun _ _ _ _ _ _ us hl => match us, hl with | [_, _], _ => rfl⟩
  have D__counts : Df K mg "_counts" s__counts ["store", "places", "bit"] f__counts _ := ⟨fun_mk (st := s__counts) l__counts c__counts k__counts, PySem.W.mg_of X G a__counts, (fun_mk (st := s__counts) l__counts c__counts k__counts).binds (ps := ["store", "places", "bit"]) fun _ _ _ _ _ _ us hl => match us, hl with | [_, _, _], _ => rfl⟩
  have D__is_steering : Df K mg "_is_steering" s__is_steering ["store", "bit"] f__is_steering _ := ⟨fun_mk (st := s__is_steering) l__is_steering c__is_steering k__is_steering, PySem.W.mg_of X G a__is_steering, (fun_mk (st := s__is_steering) l__is_steering c__is_steering k__is_steering).binds (ps := ["store", "bit"]) fun _ _ _ _ _ _ us hl => match us, hl with | [_, _], _ => rfl⟩
  have D__counting_of : Df K mg "_counting_of" s__counting_of ["store", "word", "phase"] f__counting_of _ := ⟨fun_mk (st := s__counting_of) l__counting_of c__counting_of k__counting_of, PySem.W.mg_of X G a__counting_of, (fun_mk (st := s__counting_of) l__counting_of c__counting_of k__counting_of).binds (ps := ["store", "word", "phase"]) fun _ _ _ _ _ _ us hl => match us, hl with | [_, _, _], _ => rfl⟩
  have D__is_plain : Df K mg "_is_plain" s__is_plain ["store", "phase", "counting"] f__is_plain _ := ⟨fun_mk (st := s__is_plain) l__is_plain c__is_plain k__is_plain, PySem.W.mg_of X G a__is_plain, (fun_mk (st := s__is_plain) l__is_plain c__is_plain k__is_plain).binds (ps := ["store", "phase", "counting"]) fun _ _ _ _ _ _ us hl => match us, hl with | [_, _, _], _ => rfl⟩
  have D__law_shed : Df K mg "_law_shed" s__law_shed ["script"] f__law_shed _ := ⟨fun_mk (st := s__law_shed) l__law_shed c__law_shed k__law_shed, PySem.W.mg_of X G a__law_shed, (fun_mk (st := s__law_shed) l__law_shed c__law_shed k__law_shed).binds (ps := ["script"]) fun _ _ _ _ _ _ us hl => match us, hl with | [_], _ => rfl⟩
  have D__law_hang : Df K mg "_law_hang" s__law_hang ["shed", "many"] f__law_hang _ := ⟨fun_mk (st := s__law_hang) l__law_hang c__law_hang k__law_hang, PySem.W.mg_of X G a__law_hang, (fun_mk (st := s__law_hang) l__law_hang c__law_hang k__law_hang).binds (ps := ["shed", "many"]) fun _ _ _ _ _ _ us hl => match us, hl with | [_, _], _ => rfl⟩
  have D__law_pick : Df K mg "_law_pick" s__law_pick ["shed", "some"] f__law_pick _ := ⟨fun_mk (st := s__law_pick) l__law_pick c__law_pick k__law_pick, PySem.W.mg_of X G a__law_pick, (fun_mk (st := s__law_pick) l__law_pick c__law_pick k__law_pick).binds (ps := ["shed", "some"]) fun _ _ _ _ _ _ us hl => match us, hl with | [_, _], _ => rfl⟩
  have D__law_heard : Df K mg "_law_heard" s__law_heard ["ask"] f__law_heard _ := ⟨fun_mk (st := s__law_heard) l__law_heard c__law_heard k__law_heard, PySem.W.mg_of X G a__law_heard, (fun_mk (st := s__law_heard) l__law_heard c__law_heard k__law_heard).binds (ps := ["ask"]) fun _ _ _ _ _ _ us hl => match us, hl with | [_], _ => rfl⟩
  have D__law_is_in : Df K mg "_law_is_in" s__law_is_in ["value", "least", "most"] f__law_is_in _ := ⟨fun_mk (st := s__law_is_in) l__law_is_in c__law_is_in k__law_is_in, PySem.W.mg_of X G a__law_is_in, (fun_mk (st := s__law_is_in) l__law_is_in c__law_is_in k__law_is_in).binds (ps := ["value", "least", "most"]) fun _ _ _ _ _ _ us hl => match us, hl with | [_, _, _], _ => rfl⟩
  have D__law_made_right : Df K mg "_law_made_right" s__law_made_right ["shed"] f__law_made_right _ := ⟨fun_mk (st := s__law_made_right) l__law_made_right c__law_made_right k__law_made_right, PySem.W.mg_of X G a__law_made_right, (fun_mk (st := s__law_made_right) l__law_made_right c__law_made_right k__law_made_right).binds (ps := ["shed"]) fun _ _ _ _ _ _ us hl => match us, hl with | [_], _ => rfl⟩
  have D__law_number : Df K mg "_law_number" s__law_number ["item", "least", "most"] f__law_number _ := ⟨fun_mk (st := s__law_number) l__law_number c__law_number k__law_number, PySem.W.mg_of X G a__law_number, (fun_mk (st := s__law_number) l__law_number c__law_number k__law_number).binds (ps := ["item", "least", "most"]) fun _ _ _ _ _ _ us hl => match us, hl with | [_, _, _], _ => rfl⟩
  have D__law_due : Df K mg "_law_due" s__law_due ["items"] f__law_due _ := ⟨fun_mk (st := s__law_due) l__law_due c__law_due k__law_due, PySem.W.mg_of X G a__law_due, (fun_mk (st := s__law_due) l__law_due c__law_due k__law_due).binds (ps := ["items"]) fun _ _ _ _ _ _ us hl => match us, hl with | [_], _ => rfl⟩
  have D__law_bent : Df K mg "_law_bent" s__law_bent ["shed"] f__law_bent _ := ⟨fun_mk (st := s__law_bent) l__law_bent c__law_bent k__law_bent, PySem.W.mg_of X G a__law_bent, (fun_mk (st := s__law_bent) l__law_bent c__law_bent k__law_bent).binds (ps := ["shed"]) fun _ _ _ _ _ _ us hl => match us, hl with | [_], _ => rfl⟩
  have FI_BadWord := fun_mk (st := s_init_BadWord) li_BadWord ci_BadWord ki_BadWord
  have BI_BadWord := FI_BadWord.binds (ps := ["self", "part"]) fun _ _ _ _ _ _ us hl => match us, hl with | [_, _], _ => rfl
  have O_BadWord : OexC K C_BadWord := ⟨⟨_, _, _, _, _, _, _, _, _, _, _, _, _, _, _, x_BadWord, by rfl⟩, sa_BadWord, e_BadWord, t_BadWord, k_BadWord⟩
  have XF_BadWord : XfC K C_BadWord := ⟨ga_BadWord, gg_BadWord, e_BadWord, hd_BadWord⟩
  have EC_BadWord : ExcC K C_BadWord := ⟨ga_BadWord, gg_BadWord, e_BadWord, hd_BadWord, ha_BadWord, spn, tkn, hm_BadWord⟩
  have EX_BadWord : PySem.W.exmOne K (.ref C_BadWord) (.ref CF) = some true := PySem.W.exm_ref eF dF tF sf_BadWord
  have kit_BadWord_BadWord : PySem.W.kitOne K (.ref C_BadWord) (.ref C_BadWord) = some true := kit_sub is_BadWord t_BadWord sub_BadWord_BadWord sub_BadWord_BadWord
  have kit_BadBits_BadWord : PySem.W.kitOne K (.ref C_BadBits) (.ref C_BadWord) = some false := kit_sub is_BadWord t_BadWord sub_BadWord_BadWord sub_BadBits_BadWord
  have kit_BadStore_BadWord : PySem.W.kitOne K (.ref C_BadStore) (.ref C_BadWord) = some false := kit_sub is_BadWord t_BadWord sub_BadWord_BadWord sub_BadStore_BadWord
  have kit_BadDeed_BadWord : PySem.W.kitOne K (.ref C_BadDeed) (.ref C_BadWord) = some false := kit_sub is_BadWord t_BadWord sub_BadWord_BadWord sub_BadDeed_BadWord
  have kit_BadText_BadWord : PySem.W.kitOne K (.ref C_BadText) (.ref C_BadWord) = some false := kit_sub is_BadWord t_BadWord sub_BadWord_BadWord sub_BadText_BadWord
  have kz_BadWord : PySem.W.kitOne K (.type "NoneType") (.ref C_BadWord) = some false := kit_sub is_BadWord t_BadWord sub_BadWord_BadWord z_BadWord
  have g_BadWord : mg "BadWord" = some (.ref C_BadWord) := PySem.W.mg_of X G a_BadWord
  have FI_BadBits := fun_mk (st := s_init_BadBits) li_BadBits ci_BadBits ki_BadBits
  have BI_BadBits := FI_BadBits.binds (ps := ["self", "part"]) fun _ _ _ _ _ _ us hl => match us, hl with | [_, _], _ => rfl
  have O_BadBits : OexC K C_BadBits := ⟨⟨_, _, _, _, _, _, _, _, _, _, _, _, _, _, _, x_BadBits, by rfl⟩, sa_BadBits, e_BadBits, t_BadBits, k_BadBits⟩
  have XF_BadBits : XfC K C_BadBits := ⟨ga_BadBits, gg_BadBits, e_BadBits, hd_BadBits⟩
  have EC_BadBits : ExcC K C_BadBits := ⟨ga_BadBits, gg_BadBits, e_BadBits, hd_BadBits, ha_BadBits, spn, tkn, hm_BadBits⟩
  have EX_BadBits : PySem.W.exmOne K (.ref C_BadBits) (.ref CF) = some true := PySem.W.exm_ref eF dF tF sf_BadBits
  have kit_BadWord_BadBits : PySem.W.kitOne K (.ref C_BadWord) (.ref C_BadBits) = some false := kit_sub is_BadBits t_BadBits sub_BadBits_BadBits sub_BadWord_BadBits
  have kit_BadBits_BadBits : PySem.W.kitOne K (.ref C_BadBits) (.ref C_BadBits) = some true := kit_sub is_BadBits t_BadBits sub_BadBits_BadBits sub_BadBits_BadBits
  have kit_BadStore_BadBits : PySem.W.kitOne K (.ref C_BadStore) (.ref C_BadBits) = some false := kit_sub is_BadBits t_BadBits sub_BadBits_BadBits sub_BadStore_BadBits
  have kit_BadDeed_BadBits : PySem.W.kitOne K (.ref C_BadDeed) (.ref C_BadBits) = some false := kit_sub is_BadBits t_BadBits sub_BadBits_BadBits sub_BadDeed_BadBits
  have kit_BadText_BadBits : PySem.W.kitOne K (.ref C_BadText) (.ref C_BadBits) = some false := kit_sub is_BadBits t_BadBits sub_BadBits_BadBits sub_BadText_BadBits
  have kz_BadBits : PySem.W.kitOne K (.type "NoneType") (.ref C_BadBits) = some false := kit_sub is_BadBits t_BadBits sub_BadBits_BadBits z_BadBits
  have g_BadBits : mg "BadBits" = some (.ref C_BadBits) := PySem.W.mg_of X G a_BadBits
  have FI_BadStore := fun_mk (st := s_init_BadStore) li_BadStore ci_BadStore ki_BadStore
  have BI_BadStore := FI_BadStore.binds (ps := ["self", "part"]) fun _ _ _ _ _ _ us hl => match us, hl with | [_, _], _ => rfl
  have O_BadStore : OexC K C_BadStore := ⟨⟨_, _, _, _, _, _, _, _, _, _, _, _, _, _, _, x_BadStore, by rfl⟩, sa_BadStore, e_BadStore, t_BadStore, k_BadStore⟩
  have XF_BadStore : XfC K C_BadStore := ⟨ga_BadStore, gg_BadStore, e_BadStore, hd_BadStore⟩
  have EC_BadStore : ExcC K C_BadStore := ⟨ga_BadStore, gg_BadStore, e_BadStore, hd_BadStore, ha_BadStore, spn, tkn, hm_BadStore⟩
  have EX_BadStore : PySem.W.exmOne K (.ref C_BadStore) (.ref CF) = some true := PySem.W.exm_ref eF dF tF sf_BadStore
  have kit_BadWord_BadStore : PySem.W.kitOne K (.ref C_BadWord) (.ref C_BadStore) = some false := kit_sub is_BadStore t_BadStore sub_BadStore_BadStore sub_BadWord_BadStore
  have kit_BadBits_BadStore : PySem.W.kitOne K (.ref C_BadBits) (.ref C_BadStore) = some false := kit_sub is_BadStore t_BadStore sub_BadStore_BadStore sub_BadBits_BadStore
  have kit_BadStore_BadStore : PySem.W.kitOne K (.ref C_BadStore) (.ref C_BadStore) = some true := kit_sub is_BadStore t_BadStore sub_BadStore_BadStore sub_BadStore_BadStore
  have kit_BadDeed_BadStore : PySem.W.kitOne K (.ref C_BadDeed) (.ref C_BadStore) = some false := kit_sub is_BadStore t_BadStore sub_BadStore_BadStore sub_BadDeed_BadStore
  have kit_BadText_BadStore : PySem.W.kitOne K (.ref C_BadText) (.ref C_BadStore) = some false := kit_sub is_BadStore t_BadStore sub_BadStore_BadStore sub_BadText_BadStore
  have kz_BadStore : PySem.W.kitOne K (.type "NoneType") (.ref C_BadStore) = some false := kit_sub is_BadStore t_BadStore sub_BadStore_BadStore z_BadStore
  have g_BadStore : mg "BadStore" = some (.ref C_BadStore) := PySem.W.mg_of X G a_BadStore
  have FI_BadDeed := fun_mk (st := s_init_BadDeed) li_BadDeed ci_BadDeed ki_BadDeed
  have BI_BadDeed := FI_BadDeed.binds (ps := ["self", "part"]) fun _ _ _ _ _ _ us hl => match us, hl with | [_, _], _ => rfl
  have O_BadDeed : OexC K C_BadDeed := ⟨⟨_, _, _, _, _, _, _, _, _, _, _, _, _, _, _, x_BadDeed, by rfl⟩, sa_BadDeed, e_BadDeed, t_BadDeed, k_BadDeed⟩
  have XF_BadDeed : XfC K C_BadDeed := ⟨ga_BadDeed, gg_BadDeed, e_BadDeed, hd_BadDeed⟩
  have EC_BadDeed : ExcC K C_BadDeed := ⟨ga_BadDeed, gg_BadDeed, e_BadDeed, hd_BadDeed, ha_BadDeed, spn, tkn, hm_BadDeed⟩
  have EX_BadDeed : PySem.W.exmOne K (.ref C_BadDeed) (.ref CF) = some true := PySem.W.exm_ref eF dF tF sf_BadDeed
  have kit_BadWord_BadDeed : PySem.W.kitOne K (.ref C_BadWord) (.ref C_BadDeed) = some false := kit_sub is_BadDeed t_BadDeed sub_BadDeed_BadDeed sub_BadWord_BadDeed
  have kit_BadBits_BadDeed : PySem.W.kitOne K (.ref C_BadBits) (.ref C_BadDeed) = some false := kit_sub is_BadDeed t_BadDeed sub_BadDeed_BadDeed sub_BadBits_BadDeed
  have kit_BadStore_BadDeed : PySem.W.kitOne K (.ref C_BadStore) (.ref C_BadDeed) = some false := kit_sub is_BadDeed t_BadDeed sub_BadDeed_BadDeed sub_BadStore_BadDeed
  have kit_BadDeed_BadDeed : PySem.W.kitOne K (.ref C_BadDeed) (.ref C_BadDeed) = some true := kit_sub is_BadDeed t_BadDeed sub_BadDeed_BadDeed sub_BadDeed_BadDeed
  have kit_BadText_BadDeed : PySem.W.kitOne K (.ref C_BadText) (.ref C_BadDeed) = some false := kit_sub is_BadDeed t_BadDeed sub_BadDeed_BadDeed sub_BadText_BadDeed
  have kz_BadDeed : PySem.W.kitOne K (.type "NoneType") (.ref C_BadDeed) = some false := kit_sub is_BadDeed t_BadDeed sub_BadDeed_BadDeed z_BadDeed
  have g_BadDeed : mg "BadDeed" = some (.ref C_BadDeed) := PySem.W.mg_of X G a_BadDeed
  have FI_BadText := fun_mk (st := s_init_BadText) li_BadText ci_BadText ki_BadText
  have BI_BadText := FI_BadText.binds (ps := ["self", "line", "item"]) fun _ _ _ _ _ _ us hl => match us, hl with | [_, _, _], _ => rfl
  have O_BadText : OexC K C_BadText := ⟨⟨_, _, _, _, _, _, _, _, _, _, _, _, _, _, _, x_BadText, by rfl⟩, sa_BadText, e_BadText, t_BadText, k_BadText⟩
  have XF_BadText : XfC K C_BadText := ⟨ga_BadText, gg_BadText, e_BadText, hd_BadText⟩
  have EC_BadText : ExcC K C_BadText := ⟨ga_BadText, gg_BadText, e_BadText, hd_BadText, ha_BadText, spn, tkn, hm_BadText⟩
  have EX_BadText : PySem.W.exmOne K (.ref C_BadText) (.ref CF) = some true := PySem.W.exm_ref eF dF tF sf_BadText
  have kit_BadWord_BadText : PySem.W.kitOne K (.ref C_BadWord) (.ref C_BadText) = some false := kit_sub is_BadText t_BadText sub_BadText_BadText sub_BadWord_BadText
  have kit_BadBits_BadText : PySem.W.kitOne K (.ref C_BadBits) (.ref C_BadText) = some false := kit_sub is_BadText t_BadText sub_BadText_BadText sub_BadBits_BadText
  have kit_BadStore_BadText : PySem.W.kitOne K (.ref C_BadStore) (.ref C_BadText) = some false := kit_sub is_BadText t_BadText sub_BadText_BadText sub_BadStore_BadText
  have kit_BadDeed_BadText : PySem.W.kitOne K (.ref C_BadDeed) (.ref C_BadText) = some false := kit_sub is_BadText t_BadText sub_BadText_BadText sub_BadDeed_BadText
  have kit_BadText_BadText : PySem.W.kitOne K (.ref C_BadText) (.ref C_BadText) = some true := kit_sub is_BadText t_BadText sub_BadText_BadText sub_BadText_BadText
  have kz_BadText : PySem.W.kitOne K (.type "NoneType") (.ref C_BadText) = some false := kit_sub is_BadText t_BadText sub_BadText_BadText z_BadText
  have g_BadText : mg "BadText" = some (.ref C_BadText) := PySem.W.mg_of X G a_BadText
  have F_Store_init := fun_mk (st := s_Store_init) l_Store_init c_Store_init k_Store_init
  have b_Store_init := F_Store_init.binds (ps := ["self", "cells", "size", "most"]) fun _ _ _ _ _ _ us hl => match us, hl with | [_, _, _, _], _ => rfl
  have F_Store_eq := fun_mk (st := s_Store_eq) l_Store_eq c_Store_eq k_Store_eq
  have b_Store_eq := F_Store_eq.binds (ps := ["self", "other"]) fun _ _ _ _ _ _ us hl => match us, hl with | [_, _], _ => rfl
  have EQ_Store : OwnEqC K C_Store f_Store_eq := ⟨fi_Store_eq, if_Store_eq, ne_Store, hmC_Store⟩
  have F_Store_str := fun_mk (st := s_Store_str) l_Store_str c_Store_str k_Store_str
  have b_Store_str := F_Store_str.binds (ps := ["self"]) fun _ _ _ _ _ _ us hl => match us, hl with | [_], _ => rfl
  have ST_Store : OwnStrC K C_Store f_Store_str := ⟨fi_Store_str, if_Store_str⟩
  have F_Store_read := fun_mk (st := s_Store_read) l_Store_read c_Store_read k_Store_read
  have b_Store_read := F_Store_read.binds (ps := ["text"]) fun _ _ _ _ _ _ us hl => match us, hl with | [_], _ => rfl
  have SM_Store_read : CStat K C_Store (.type "type") "read" p_Store_read f_Store_read := ⟨sm_Store_read, ⟨_, rc_Store_read⟩, k_Store_read⟩
  have RD_Store : CRead K C_Store (.type "type") := ⟨rdC_Store, gaC_Store⟩
  have O_Store : OwnC K mg "Store" C_Store f_Store_init := ⟨⟨pg_Store, hdC_Store, po_Store, saC_Store⟩, PySem.W.mg_of X G aC_Store, ⟨mkC_Store, fi_Store_init, if_Store_init, kcC_Store⟩, haC_Store, spn, tkn, hmC_Store, kit_sub isC_Store tyC_Store sfC_Store sfC_Store, fun n hn => by
    simp only [List.mem_cons, List.not_mem_nil, or_false] at hn
    rcases hn with rfl | rfl | rfl | rfl | rfl | rfl | rfl
    · exact kit_sub isC_Store tyC_Store sfC_Store suNoneType_Store
    · exact kit_sub isC_Store tyC_Store sfC_Store suint_Store
    · exact kit_sub isC_Store tyC_Store sfC_Store subool_Store
    · exact kit_sub isC_Store tyC_Store sfC_Store sustr_Store
    · exact kit_sub isC_Store tyC_Store sfC_Store sulist_Store
    · exact kit_sub isC_Store tyC_Store sfC_Store sutuple_Store
    · exact kit_sub isC_Store tyC_Store sfC_Store sudict_Store
    , sutuple_Store⟩
  have T : Blt mg := ⟨⟨_, PySem.W.mg_of X G a_MOST_BIT⟩, ⟨_, PySem.W.mg_of X G a_MOST_DIGITS⟩, ⟨_, PySem.W.mg_of X G a_MOST_CELLS⟩, ⟨_, PySem.W.mg_of X G a_MOST_SIZE⟩, ⟨_, PySem.W.mg_of X G a_MOST_ROWS⟩, PySem.W.mg_none_of X G n_abs, PySem.W.mg_none_of X G n_all, PySem.W.mg_none_of X G n_bool, PySem.W.mg_none_of X G n_enumerate, PySem.W.mg_none_of X G n_int, PySem.W.mg_none_of X G n_isinstance, PySem.W.mg_none_of X G n_len, PySem.W.mg_none_of X G n_list, PySem.W.mg_none_of X G n_min, PySem.W.mg_none_of X G n_range, PySem.W.mg_none_of X G n_repr, PySem.W.mg_none_of X G n_set, PySem.W.mg_none_of X G n_sorted, PySem.W.mg_none_of X G n_str, PySem.W.mg_none_of X G n_sum, PySem.W.mg_none_of X G n_tuple⟩
  refine ⟨PySem.W.fnOf "law" "law" (defArgs s_law) (defBody s_law) (defScope s_law) .none kV_law dc_law pm_law an_law (.ref c2) ct_law, [(c1, Pt1), (c2, Pt2)], spLaw K Pt1 Pt2, ⟨fun p hp => ?_, fun p hp => ?_, fun p hp => ?_⟩, fun s u => .of_eq rfl, fun H a ns hl _ hP hS => ⟨a, ns, rfl, hS, hl, ⟨hP _ List.mem_cons_self, hP _ (List.mem_cons_of_mem _ List.mem_cons_self)⟩, fun _ => rfl⟩, fun base hK hG hTB => ?_⟩
  · rcases List.mem_cons.mp hp with rfl | hp
    · exact hPt1
    rw [List.mem_singleton.mp hp]
    exact hPt2
  · rcases List.mem_cons.mp hp with rfl | hp
    · exact kPt1
    rw [List.mem_singleton.mp hp]
    exact kPt2
  · rcases List.mem_cons.mp hp with rfl | hp
    · exact PySem.W.codeHd_of_K X hdc1
    rw [List.mem_singleton.mp hp]
    exact PySem.W.codeHd_of_K X hdc2
  · skip
    have R_BadWord : Err l.prog w K mg base "BadWord" "part" C_BadWord fi_BadWord _ := ⟨O_BadWord, i_BadWord, ti_BadWord, ok_init1 FI_BadWord sc_init_BadWord rfl (.inl rfl) (.inl rfl), BI_BadWord, g_BadWord, no_BadWord_part⟩
    have R_BadBits : Err l.prog w K mg base "BadBits" "part" C_BadBits fi_BadBits _ := ⟨O_BadBits, i_BadBits, ti_BadBits, ok_init1 FI_BadBits sc_init_BadBits rfl (.inl rfl) (.inl rfl), BI_BadBits, g_BadBits, no_BadBits_part⟩
    have R_BadStore : Err l.prog w K mg base "BadStore" "part" C_BadStore fi_BadStore _ := ⟨O_BadStore, i_BadStore, ti_BadStore, ok_init1 FI_BadStore sc_init_BadStore rfl (.inl rfl) (.inl rfl), BI_BadStore, g_BadStore, no_BadStore_part⟩
    have R_BadDeed : Err l.prog w K mg base "BadDeed" "part" C_BadDeed fi_BadDeed _ := ⟨O_BadDeed, i_BadDeed, ti_BadDeed, ok_init1 FI_BadDeed sc_init_BadDeed rfl (.inl rfl) (.inl rfl), BI_BadDeed, g_BadDeed, no_BadDeed_part⟩
    have R_BadText : Err2 l.prog w K mg base "BadText" "line" "item" C_BadText fi_BadText _ := ⟨O_BadText, i_BadText, ti_BadText, ok_init2 FI_BadText sc_init_BadText (by decide +kernel) rfl (.inl rfl) (.inl rfl) (.inl rfl), BI_BadText, g_BadText, no_BadText_line, no_BadText_item⟩
    have Z : Kinds K mg CF C_BadStore C_BadText := ⟨PySem.W.mg_of X G aF, g_BadStore, g_BadText, ⟨XF_BadStore, EC_BadStore, EX_BadStore⟩, ⟨XF_BadText, EC_BadText, EX_BadText⟩, no_BadStore_part, no_BadText_line, no_BadText_item, kit_BadStore_BadStore, kit_BadText_BadStore, kit_BadText_BadText⟩
    have G_is_integer := ok_is_integer (P := l.prog) (w := w) (base := base) D_is_integer.F T
    have G_is_within := ok_is_within (P := l.prog) (w := w) (base := base) D_is_within.F D_is_integer T
    have G__law_shed := ok__law_shed (P := l.prog) (w := w) (base := base) D__law_shed.F T
    have G__law_hang := ok__law_hang (P := l.prog) (w := w) (base := base) D__law_hang.F T
    have G__law_pick := ok__law_pick (P := l.prog) (w := w) (base := base) D__law_pick.F T D__law_hang
    have G_items_of := ok_items_of (P := l.prog) (w := w) (base := base) D_items_of.F T R_BadText
    have G_integer_of := ok_integer_of (P := l.prog) (w := w) (base := base) D_integer_of.F T
    have G_item_at := ok_item_at (P := l.prog) (w := w) (base := base) D_item_at.F T R_BadText
    have G_integer_at := ok_integer_at (P := l.prog) (w := w) (base := base) D_integer_at.F T D_integer_of D_item_at D_is_within D_is_integer R_BadText
    have G_need_end := ok_need_end (P := l.prog) (w := w) (base := base) D_need_end.F T R_BadText
    have G_most_rows := ok_most_rows (P := l.prog) (w := w) (base := base) D_most_rows.F T
    have G_Store_init := ok_Store_init (P := l.prog) (w := w) (base := base) F_Store_init T O_Store nC_Store_cells nC_Store_size nC_Store_most nC_Store_place_bits nC_Store_bits D_is_within D_is_integer D_most_rows R_BadStore
    have G_Store_eq := ok_Store_eq (P := l.prog) (w := w) (base := base) F_Store_eq T O_Store nC_Store_cells nC_Store_size nC_Store_most
    have G_Store_str := ok_Store_str (P := l.prog) (w := w) (base := base) F_Store_str T O_Store nC_Store_cells nC_Store_size nC_Store_most
    have G_Store_read := ok_Store_read (P := l.prog) (w := w) (base := base) F_Store_read T O_Store b_Store_init (plain_init G_Store_init) D_items_of G_items_of D_integer_at G_integer_at D_need_end G_need_end D_most_rows
    have G_need_store := ok_need_store (P := l.prog) (w := w) (base := base) D_need_store.F T O_Store R_BadStore
    have G_values_in := ok_values_in (P := l.prog) (w := w) (base := base) D_values_in.F T D_need_store G_need_store
    have G_is_open := ok_is_open (P := l.prog) (w := w) (base := base) D_is_open.F T D_need_store G_need_store
    have G_rows_in := ok_rows_in (P := l.prog) (w := w) (base := base) D_rows_in.F T D_need_store G_need_store
    have G_word_for := ok_word_for (P := l.prog) (w := w) (base := base) D_word_for.F T D_need_store G_need_store
    have G_mend_plan := ok_mend_plan (P := l.prog) (w := w) (base := base) D_mend_plan.F T D_need_store G_need_store
    have G_done_in := ok_done_in (P := l.prog) (w := w) (base := base) D_done_in.F T D_need_store G_need_store
    have G_is_plain := ok_is_plain (P := l.prog) (w := w) (base := base) D_is_plain.F T D_need_store G_need_store
    have G_deed_plan := ok_deed_plan (P := l.prog) (w := w) (base := base) D_deed_plan.F T D_done_in G_done_in
    have G__open_places := ok__open_places (P := l.prog) (w := w) (base := base) D__open_places.F T D_is_open G_is_open
    have G_counting_in := ok_counting_in (P := l.prog) (w := w) (base := base) D_counting_in.F T D__open_places G__open_places
    have G_shows_whole := ok_shows_whole (P := l.prog) (w := w) (base := base) D_shows_whole.F T D_done_in G_done_in
    have G__law_number := ok__law_number (P := l.prog) (w := w) (base := base) D__law_number.F T
    have G__law_due := ok__law_due (P := l.prog) (w := w) (base := base) D__law_due.F T D__law_number
    have G__law_bent := ok__law_bent (P := l.prog) (w := w) (base := base) D__law_bent.F T D__law_hang D__law_pick
    have G__law_is_in := ok__law_is_in (P := l.prog) (w := w) (base := base) D__law_is_in.F T
    have G__law_made_right := ok__law_made_right (P := l.prog) (w := w) (base := base) T l__law_made_right c__law_made_right (hTB _ List.mem_cons_self) (hu_1 nPt) Z O_Store nC_Store_cells nC_Store_size nC_Store_most nC_Store_place_bits nC_Store_bits sustr_Store D__law_heard D__law_hang D__law_pick D__law_is_in F_Store_init b_Store_init G_Store_init EQ_Store b_Store_eq G_Store_eq RD_Store SM_Store_read F_Store_read b_Store_read G_Store_read ST_Store b_Store_str G_Store_str
    exact ok_law T l_law c_law (hTB _ (List.mem_cons_of_mem _ List.mem_cons_self)) (hu_2 nPt) Z O_Store D__law_shed G__law_shed D__law_made_right G__law_made_right D__law_bent G__law_bent D__law_due G__law_due D__law_heard D__law_hang D__law_pick D_values_in G_values_in D_is_open G_is_open D_rows_in G_rows_in D_mend_plan G_mend_plan D_word_for G_word_for D_counting_in G_counting_in D_deed_plan G_deed_plan D_done_in G_done_in D_is_plain G_is_plain D_shows_whole G_shows_whole RD_Store SM_Store_read b_Store_read G_Store_read ST_Store b_Store_str G_Store_str
end K53
open PySem PySem.W PyProof.Rows
set_option maxRecDepth 100000 in
set_option maxHeartbeats 0 in
theorem PySem.Challenge.cw_oneflip_k53_stores_made_and_texts_bent_holds : PySem.Challenge.rw_oneflip_k53_stores_made_and_texts_bent.Holds := by
  w_on; o_law; k_head; (case hw => w_witness2)
  k_fill
  refine OB.walk_G (l := PySem.Challenge.rw_oneflip_k53_stores_made_and_texts_bent) (n := 63) (k := 16) (x := "script") (CX := fun _ => L2.CX0) rfl (by decide) rfl ⟨rfl, by decide, by decide⟩ (fun w h Y => PySem.W.km_in_of Y) ?F (fun _ _ _ _ _ z => z)
  case F =>
    intro w mg fa h Y KX G hmg
    refine' K53.all_mk KX G hmg ?a_is_integer ?l_is_integer ?c_is_integer ?k_is_integer ?a_is_within ?l_is_within ?c_is_within ?k_is_within ?a_is_list ?l_is_list ?c_is_list ?k_is_list ?a_are_unlike ?l_are_unlike ?c_are_unlike ?k_are_unlike ?a_is_lot ?l_is_lot ?c_is_lot ?k_is_lot ?a_lot_of ?l_lot_of ?c_lot_of ?k_lot_of ?a_need_word ?l_need_word ?c_need_word ?k_need_word ?a_need_lot ?l_need_lot ?c_need_lot ?k_need_lot ?a_items_of ?l_items_of ?c_items_of ?k_items_of ?a_integer_of ?l_integer_of ?c_integer_of ?k_integer_of ?a_item_at ?l_item_at ?c_item_at ?k_item_at ?a_integer_at ?l_integer_at ?c_integer_at ?k_integer_at ?a_need_end ?l_need_end ?c_need_end ?k_need_end ?a_flipped ?l_flipped ?c_flipped ?k_flipped ?a_flipped_often ?l_flipped_often ?c_flipped_often ?k_flipped_often ?a_differing ?l_differing ?c_differing ?k_differing ?a__bits_of ?l__bits_of ?c__bits_of ?k__bits_of ?a_most_rows ?l_most_rows ?c_most_rows ?k_most_rows ?a_need_store ?l_need_store ?c_need_store ?k_need_store ?a_need_word_in ?l_need_word_in ?c_need_word_in ?k_need_word_in ?a_need_values ?l_need_values ?c_need_values ?k_need_values ?a_need_deed ?l_need_deed ?c_need_deed ?k_need_deed ?a_values_in ?l_values_in ?c_values_in ?k_values_in ?a_is_open ?l_is_open ?c_is_open ?k_is_open ?a_rows_in ?l_rows_in ?c_rows_in ?k_rows_in ?a_word_for ?l_word_for ?c_word_for ?k_word_for ?a_mend_plan ?l_mend_plan ?c_mend_plan ?k_mend_plan ?a_deed_plan ?l_deed_plan ?c_deed_plan ?k_deed_plan ?a_done_in ?l_done_in ?c_done_in ?k_done_in ?a_open_bit ?l_open_bit ?c_open_bit ?k_open_bit ?a__is_value ?l__is_value ?c__is_value ?k__is_value ?a__is_gift ?l__is_gift ?c__is_gift ?k__is_gift ?a__has_open ?l__has_open ?c__has_open ?k__has_open ?a__numbers_in ?l__numbers_in ?c__numbers_in ?k__numbers_in ?a__rows_of ?l__rows_of ?c__rows_of ?k__rows_of ?a__word_of_cells ?l__word_of_cells ?c__word_of_cells ?k__word_of_cells ?a__word_of_rows ?l__word_of_rows ?c__word_of_rows ?k__word_of_rows ?a__mended ?l__mended ?c__mended ?k__mended ?a_counting_in ?l_counting_in ?c_counting_in ?k_counting_in ?a_is_plain ?l_is_plain ?c_is_plain ?k_is_plain ?a_shows_whole ?l_shows_whole ?c_shows_whole ?k_shows_whole ?a__is_phase ?l__is_phase ?c__is_phase ?k__is_phase ?a__open_places ?l__open_places ?c__open_places ?k__open_places ?a__counts ?l__counts ?c__counts ?k__counts ?a__is_steering ?l__is_steering ?c__is_steering ?k__is_steering ?a__counting_of ?l__counting_of ?c__counting_of ?k__counting_of ?a__is_plain ?l__is_plain ?c__is_plain ?k__is_plain ?a__law_shed ?l__law_shed ?c__law_shed ?k__law_shed ?a__law_hang ?l__law_hang ?c__law_hang ?k__law_hang ?a__law_pick ?l__law_pick ?c__law_pick ?k__law_pick ?a__law_heard ?l__law_heard ?c__law_heard ?k__law_heard ?a__law_is_in ?l__law_is_in ?c__law_is_in ?k__law_is_in ?a__law_made_right ?l__law_made_right ?c__law_made_right ?k__law_made_right ?a__law_number ?l__law_number ?c__law_number ?k__law_number ?a__law_due ?l__law_due ?c__law_due ?k__law_due ?a__law_bent ?l__law_bent ?c__law_bent ?k__law_bent ?a_law ?l_law ?c_law ?k_law ?aF ?eF ?dF ?tF ?a_BadWord ?x_BadWord ?sa_BadWord ?e_BadWord ?t_BadWord ?k_BadWord ?i_BadWord ?ti_BadWord ?li_BadWord ?ci_BadWord ?ki_BadWord ?no_BadWord_part ?ga_BadWord ?gg_BadWord ?hd_BadWord ?ha_BadWord ?hm_BadWord ?sf_BadWord ?is_BadWord ?z_BadWord ?a_BadBits ?x_BadBits ?sa_BadBits ?e_BadBits ?t_BadBits ?k_BadBits ?i_BadBits ?ti_BadBits ?li_BadBits ?ci_BadBits ?ki_BadBits ?no_BadBits_part ?ga_BadBits ?gg_BadBits ?hd_BadBits ?ha_BadBits ?hm_BadBits ?sf_BadBits ?is_BadBits ?z_BadBits ?a_BadStore ?x_BadStore ?sa_BadStore ?e_BadStore ?t_BadStore ?k_BadStore ?i_BadStore ?ti_BadStore ?li_BadStore ?ci_BadStore ?ki_BadStore ?no_BadStore_part ?ga_BadStore ?gg_BadStore ?hd_BadStore ?ha_BadStore ?hm_BadStore ?sf_BadStore ?is_BadStore ?z_BadStore ?a_BadDeed ?x_BadDeed ?sa_BadDeed ?e_BadDeed ?t_BadDeed ?k_BadDeed ?i_BadDeed ?ti_BadDeed ?li_BadDeed ?ci_BadDeed ?ki_BadDeed ?no_BadDeed_part ?ga_BadDeed ?gg_BadDeed ?hd_BadDeed ?ha_BadDeed ?hm_BadDeed ?sf_BadDeed ?is_BadDeed ?z_BadDeed ?a_BadText ?x_BadText ?sa_BadText ?e_BadText ?t_BadText ?k_BadText ?i_BadText ?ti_BadText ?li_BadText ?ci_BadText ?ki_BadText ?no_BadText_line ?no_BadText_item ?ga_BadText ?gg_BadText ?hd_BadText ?ha_BadText ?hm_BadText ?sf_BadText ?is_BadText ?z_BadText ?sub_BadWord_BadWord ?sub_BadWord_BadBits ?sub_BadWord_BadStore ?sub_BadWord_BadDeed ?sub_BadWord_BadText ?sub_BadBits_BadWord ?sub_BadBits_BadBits ?sub_BadBits_BadStore ?sub_BadBits_BadDeed ?sub_BadBits_BadText ?sub_BadStore_BadWord ?sub_BadStore_BadBits ?sub_BadStore_BadStore ?sub_BadStore_BadDeed ?sub_BadStore_BadText ?sub_BadDeed_BadWord ?sub_BadDeed_BadBits ?sub_BadDeed_BadStore ?sub_BadDeed_BadDeed ?sub_BadDeed_BadText ?sub_BadText_BadWord ?sub_BadText_BadBits ?sub_BadText_BadStore ?sub_BadText_BadDeed ?sub_BadText_BadText ?spn ?tkn ?a_MOST_BIT ?a_MOST_DIGITS ?a_MOST_CELLS ?a_MOST_SIZE ?a_MOST_ROWS ?n_abs ?n_all ?n_bool ?n_enumerate ?n_int ?n_isinstance ?n_len ?n_list ?n_min ?n_range ?n_repr ?n_set ?n_sorted ?n_str ?n_sum ?n_tuple ?aC_Store ?pg_Store ?hdC_Store ?po_Store ?saC_Store ?mkC_Store ?kcC_Store ?haC_Store ?hmC_Store ?isC_Store ?tyC_Store ?sfC_Store ?suNoneType_Store ?suint_Store ?subool_Store ?sustr_Store ?sulist_Store ?sutuple_Store ?sudict_Store ?nC_Store_cells ?nC_Store_size ?nC_Store_most ?nC_Store_place_bits ?nC_Store_bits ?fi_Store_init ?if_Store_init ?l_Store_init ?c_Store_init ?k_Store_init ?fi_Store_eq ?if_Store_eq ?l_Store_eq ?c_Store_eq ?k_Store_eq ?ne_Store ?fi_Store_str ?if_Store_str ?l_Store_str ?c_Store_str ?k_Store_str ?sm_Store_read ?rc_Store_read ?l_Store_read ?c_Store_read ?k_Store_read ?rdC_Store ?gaC_Store ?l_code1 ?v111 ?hdc1 ?kPt1 ?hPt1 ?l_code2 ?v112 ?hdc2 ?kPt2 ?hPt2 ?nPt
    (case a_is_integer => k_is)
    (case l_is_integer => k_is)
    (case c_is_integer => k_is)
    (case k_is_integer => k_is)
    (case a_is_within => k_is)
    (case l_is_within => k_is)
    (case c_is_within => k_is)
    (case k_is_within => k_is)
    (case a_is_list => k_is)
    (case l_is_list => k_is)
    (case c_is_list => k_is)
    (case k_is_list => k_is)
    (case a_are_unlike => k_is)
    (case l_are_unlike => k_is)
    (case c_are_unlike => k_is)
    (case k_are_unlike => k_is)
    (case a_is_lot => k_is)
    (case l_is_lot => k_is)
    (case c_is_lot => k_is)
    (case k_is_lot => k_is)
    (case a_lot_of => k_is)
    (case l_lot_of => k_is)
    (case c_lot_of => k_is)
    (case k_lot_of => k_is)
    (case a_need_word => k_is)
    (case l_need_word => k_is)
    (case c_need_word => k_is)
    (case k_need_word => k_is)
    (case a_need_lot => k_is)
    (case l_need_lot => k_is)
    (case c_need_lot => k_is)
    (case k_need_lot => k_is)
    (case a_items_of => k_is)
    (case l_items_of => k_is)
    (case c_items_of => k_is)
    (case k_items_of => k_is)
    (case a_integer_of => k_is)
    (case l_integer_of => k_is)
    (case c_integer_of => k_is)
    (case k_integer_of => k_is)
    (case a_item_at => k_is)
    (case l_item_at => k_is)
    (case c_item_at => k_is)
    (case k_item_at => k_is)
    (case a_integer_at => k_is)
    (case l_integer_at => k_is)
    (case c_integer_at => k_is)
    (case k_integer_at => k_is)
    (case a_need_end => k_is)
    (case l_need_end => k_is)
    (case c_need_end => k_is)
    (case k_need_end => k_is)
    (case a_flipped => k_is)
    (case l_flipped => k_is)
    (case c_flipped => k_is)
    (case k_flipped => k_is)
    (case a_flipped_often => k_is)
    (case l_flipped_often => k_is)
    (case c_flipped_often => k_is)
    (case k_flipped_often => k_is)
    (case a_differing => k_is)
    (case l_differing => k_is)
    (case c_differing => k_is)
    (case k_differing => k_is)
    (case a__bits_of => k_is)
    (case l__bits_of => k_is)
    (case c__bits_of => k_is)
    (case k__bits_of => k_is)
    (case a_most_rows => k_is)
    (case l_most_rows => k_is)
    (case c_most_rows => k_is)
    (case k_most_rows => k_is)
    (case a_need_store => k_is)
    (case l_need_store => k_is)
    (case c_need_store => k_is)
    (case k_need_store => k_is)
    (case a_need_word_in => k_is)
    (case l_need_word_in => k_is)
    (case c_need_word_in => k_is)
    (case k_need_word_in => k_is)
    (case a_need_values => k_is)
    (case l_need_values => k_is)
    (case c_need_values => k_is)
    (case k_need_values => k_is)
    (case a_need_deed => k_is)
    (case l_need_deed => k_is)
    (case c_need_deed => k_is)
    (case k_need_deed => k_is)
    (case a_values_in => k_is)
    (case l_values_in => k_is)
    (case c_values_in => k_is)
    (case k_values_in => k_is)
    (case a_is_open => k_is)
    (case l_is_open => k_is)
    (case c_is_open => k_is)
    (case k_is_open => k_is)
    (case a_rows_in => k_is)
    (case l_rows_in => k_is)
    (case c_rows_in => k_is)
    (case k_rows_in => k_is)
    (case a_word_for => k_is)
    (case l_word_for => k_is)
    (case c_word_for => k_is)
    (case k_word_for => k_is)
    (case a_mend_plan => k_is)
    (case l_mend_plan => k_is)
    (case c_mend_plan => k_is)
    (case k_mend_plan => k_is)
    (case a_deed_plan => k_is)
    (case l_deed_plan => k_is)
    (case c_deed_plan => k_is)
    (case k_deed_plan => k_is)
    (case a_done_in => k_is)
    (case l_done_in => k_is)
    (case c_done_in => k_is)
    (case k_done_in => k_is)
    (case a_open_bit => k_is)
    (case l_open_bit => k_is)
    (case c_open_bit => k_is)
    (case k_open_bit => k_is)
    (case a__is_value => k_is)
    (case l__is_value => k_is)
    (case c__is_value => k_is)
    (case k__is_value => k_is)
    (case a__is_gift => k_is)
    (case l__is_gift => k_is)
    (case c__is_gift => k_is)
    (case k__is_gift => k_is)
    (case a__has_open => k_is)
    (case l__has_open => k_is)
    (case c__has_open => k_is)
    (case k__has_open => k_is)
    (case a__numbers_in => k_is)
    (case l__numbers_in => k_is)
    (case c__numbers_in => k_is)
    (case k__numbers_in => k_is)
    (case a__rows_of => k_is)
    (case l__rows_of => k_is)
    (case c__rows_of => k_is)
    (case k__rows_of => k_is)
    (case a__word_of_cells => k_is)
    (case l__word_of_cells => k_is)
    (case c__word_of_cells => k_is)
    (case k__word_of_cells => k_is)
    (case a__word_of_rows => k_is)
    (case l__word_of_rows => k_is)
    (case c__word_of_rows => k_is)
    (case k__word_of_rows => k_is)
    (case a__mended => k_is)
    (case l__mended => k_is)
    (case c__mended => k_is)
    (case k__mended => k_is)
    (case a_counting_in => k_is)
    (case l_counting_in => k_is)
    (case c_counting_in => k_is)
    (case k_counting_in => k_is)
    (case a_is_plain => k_is)
    (case l_is_plain => k_is)
    (case c_is_plain => k_is)
    (case k_is_plain => k_is)
    (case a_shows_whole => k_is)
    (case l_shows_whole => k_is)
    (case c_shows_whole => k_is)
    (case k_shows_whole => k_is)
    (case a__is_phase => k_is)
    (case l__is_phase => k_is)
    (case c__is_phase => k_is)
    (case k__is_phase => k_is)
    (case a__open_places => k_is)
    (case l__open_places => k_is)
    (case c__open_places => k_is)
    (case k__open_places => k_is)
    (case a__counts => k_is)
    (case l__counts => k_is)
    (case c__counts => k_is)
    (case k__counts => k_is)
    (case a__is_steering => k_is)
    (case l__is_steering => k_is)
    (case c__is_steering => k_is)
    (case k__is_steering => k_is)
    (case a__counting_of => k_is)
    (case l__counting_of => k_is)
    (case c__counting_of => k_is)
    (case k__counting_of => k_is)
    (case a__is_plain => k_is)
    (case l__is_plain => k_is)
    (case c__is_plain => k_is)
    (case k__is_plain => k_is)
    (case a__law_shed => k_is)
    (case l__law_shed => k_is)
    (case c__law_shed => k_is)
    (case k__law_shed => k_is)
    (case a__law_hang => k_is)
    (case l__law_hang => k_is)
    (case c__law_hang => k_is)
    (case k__law_hang => k_is)
    (case a__law_pick => k_is)
    (case l__law_pick => k_is)
    (case c__law_pick => k_is)
    (case k__law_pick => k_is)
    (case a__law_heard => k_is)
    (case l__law_heard => k_is)
    (case c__law_heard => k_is)
    (case k__law_heard => k_is)
    (case a__law_is_in => k_is)
    (case l__law_is_in => k_is)
    (case c__law_is_in => k_is)
    (case k__law_is_in => k_is)
    (case a__law_made_right => k_is)
    (case l__law_made_right => k_is)
    (case c__law_made_right => k_is)
    (case k__law_made_right => k_is)
    (case a__law_number => k_is)
    (case l__law_number => k_is)
    (case c__law_number => k_is)
    (case k__law_number => k_is)
    (case a__law_due => k_is)
    (case l__law_due => k_is)
    (case c__law_due => k_is)
    (case k__law_due => k_is)
    (case a__law_bent => k_is)
    (case l__law_bent => k_is)
    (case c__law_bent => k_is)
    (case k__law_bent => k_is)
    (case a_law => k_is)
    (case l_law => k_is)
    (case c_law => k_is)
    (case k_law => k_is)
    (case aF => k_is)
    (case eF => k_is)
    (case dF => k_is)
    (case tF => k_is)
    (case a_BadWord => k_is)
    (case x_BadWord => k_is)
    (case sa_BadWord => k_is)
    (case e_BadWord => k_is)
    (case t_BadWord => k_is)
    (case k_BadWord => k_is)
    (case i_BadWord => k_is)
    (case ti_BadWord => k_is)
    (case li_BadWord => k_is)
    (case ci_BadWord => k_is)
    (case ki_BadWord => k_is)
    (case no_BadWord_part => k_is)
    (case ga_BadWord => k_is)
    (case gg_BadWord => k_is)
    (case hd_BadWord => k_is)
    (case ha_BadWord => k_is)
    (case hm_BadWord => k_is)
    (case sf_BadWord => k_is)
    (case is_BadWord => k_is)
    (case z_BadWord => k_is)
    (case a_BadBits => k_is)
    (case x_BadBits => k_is)
    (case sa_BadBits => k_is)
    (case e_BadBits => k_is)
    (case t_BadBits => k_is)
    (case k_BadBits => k_is)
    (case i_BadBits => k_is)
    (case ti_BadBits => k_is)
    (case li_BadBits => k_is)
    (case ci_BadBits => k_is)
    (case ki_BadBits => k_is)
    (case no_BadBits_part => k_is)
    (case ga_BadBits => k_is)
    (case gg_BadBits => k_is)
    (case hd_BadBits => k_is)
    (case ha_BadBits => k_is)
    (case hm_BadBits => k_is)
    (case sf_BadBits => k_is)
    (case is_BadBits => k_is)
    (case z_BadBits => k_is)
    (case a_BadStore => k_is)
    (case x_BadStore => k_is)
    (case sa_BadStore => k_is)
    (case e_BadStore => k_is)
    (case t_BadStore => k_is)
    (case k_BadStore => k_is)
    (case i_BadStore => k_is)
    (case ti_BadStore => k_is)
    (case li_BadStore => k_is)
    (case ci_BadStore => k_is)
    (case ki_BadStore => k_is)
    (case no_BadStore_part => k_is)
    (case ga_BadStore => k_is)
    (case gg_BadStore => k_is)
    (case hd_BadStore => k_is)
    (case ha_BadStore => k_is)
    (case hm_BadStore => k_is)
    (case sf_BadStore => k_is)
    (case is_BadStore => k_is)
    (case z_BadStore => k_is)
    (case a_BadDeed => k_is)
    (case x_BadDeed => k_is)
    (case sa_BadDeed => k_is)
    (case e_BadDeed => k_is)
    (case t_BadDeed => k_is)
    (case k_BadDeed => k_is)
    (case i_BadDeed => k_is)
    (case ti_BadDeed => k_is)
    (case li_BadDeed => k_is)
    (case ci_BadDeed => k_is)
    (case ki_BadDeed => k_is)
    (case no_BadDeed_part => k_is)
    (case ga_BadDeed => k_is)
    (case gg_BadDeed => k_is)
    (case hd_BadDeed => k_is)
    (case ha_BadDeed => k_is)
    (case hm_BadDeed => k_is)
    (case sf_BadDeed => k_is)
    (case is_BadDeed => k_is)
    (case z_BadDeed => k_is)
    (case a_BadText => k_is)
    (case x_BadText => k_is)
    (case sa_BadText => k_is)
    (case e_BadText => k_is)
    (case t_BadText => k_is)
    (case k_BadText => k_is)
    (case i_BadText => k_is)
    (case ti_BadText => k_is)
    (case li_BadText => k_is)
    (case ci_BadText => k_is)
    (case ki_BadText => k_is)
    (case no_BadText_line => k_is)
    (case no_BadText_item => k_is)
    (case ga_BadText => k_is)
    (case gg_BadText => k_is)
    (case hd_BadText => k_is)
    (case ha_BadText => k_is)
    (case hm_BadText => k_is)
    (case sf_BadText => k_is)
    (case is_BadText => k_is)
    (case z_BadText => k_is)
    (case sub_BadWord_BadWord => k_is)
    (case sub_BadWord_BadBits => k_is)
    (case sub_BadWord_BadStore => k_is)
    (case sub_BadWord_BadDeed => k_is)
    (case sub_BadWord_BadText => k_is)
    (case sub_BadBits_BadWord => k_is)
    (case sub_BadBits_BadBits => k_is)
    (case sub_BadBits_BadStore => k_is)
    (case sub_BadBits_BadDeed => k_is)
    (case sub_BadBits_BadText => k_is)
    (case sub_BadStore_BadWord => k_is)
    (case sub_BadStore_BadBits => k_is)
    (case sub_BadStore_BadStore => k_is)
    (case sub_BadStore_BadDeed => k_is)
    (case sub_BadStore_BadText => k_is)
    (case sub_BadDeed_BadWord => k_is)
    (case sub_BadDeed_BadBits => k_is)
    (case sub_BadDeed_BadStore => k_is)
    (case sub_BadDeed_BadDeed => k_is)
    (case sub_BadDeed_BadText => k_is)
    (case sub_BadText_BadWord => k_is)
    (case sub_BadText_BadBits => k_is)
    (case sub_BadText_BadStore => k_is)
    (case sub_BadText_BadDeed => k_is)
    (case sub_BadText_BadText => k_is)
    (case spn => k_is)
    (case tkn => k_is)
    (case a_MOST_BIT => k_is)
    (case a_MOST_DIGITS => k_is)
    (case a_MOST_CELLS => k_is)
    (case a_MOST_SIZE => k_is)
    (case a_MOST_ROWS => k_is)
    (case n_abs => k_is)
    (case n_all => k_is)
    (case n_bool => k_is)
    (case n_enumerate => k_is)
    (case n_int => k_is)
    (case n_isinstance => k_is)
    (case n_len => k_is)
    (case n_list => k_is)
    (case n_min => k_is)
    (case n_range => k_is)
    (case n_repr => k_is)
    (case n_set => k_is)
    (case n_sorted => k_is)
    (case n_str => k_is)
    (case n_sum => k_is)
    (case n_tuple => k_is)
    (case aC_Store => k_is)
    (case pg_Store => k_is)
    (case hdC_Store => k_is)
    (case po_Store => k_is)
    (case saC_Store => k_is)
    (case mkC_Store => k_is)
    (case kcC_Store => k_is)
    (case haC_Store => k_is)
    (case hmC_Store => k_is)
    (case isC_Store => k_is)
    (case tyC_Store => k_is)
    (case sfC_Store => k_is)
    (case suNoneType_Store => k_is)
    (case suint_Store => k_is)
    (case subool_Store => k_is)
    (case sustr_Store => k_is)
    (case sulist_Store => k_is)
    (case sutuple_Store => k_is)
    (case sudict_Store => k_is)
    (case nC_Store_cells => k_is)
    (case nC_Store_size => k_is)
    (case nC_Store_most => k_is)
    (case nC_Store_place_bits => k_is)
    (case nC_Store_bits => k_is)
    (case fi_Store_init => k_is)
    (case if_Store_init => k_is)
    (case l_Store_init => k_is)
    (case c_Store_init => k_is)
    (case k_Store_init => k_is)
    (case fi_Store_eq => k_is)
    (case if_Store_eq => k_is)
    (case l_Store_eq => k_is)
    (case c_Store_eq => k_is)
    (case k_Store_eq => k_is)
    (case ne_Store => k_is)
    (case fi_Store_str => k_is)
    (case if_Store_str => k_is)
    (case l_Store_str => k_is)
    (case c_Store_str => k_is)
    (case k_Store_str => k_is)
    (case sm_Store_read => k_is)
    (case rc_Store_read => k_is)
    (case l_Store_read => k_is)
    (case c_Store_read => k_is)
    (case k_Store_read => k_is)
    (case rdC_Store => k_is)
    (case gaC_Store => k_is)
    (case l_code1 => k_is)
    (case v111 => rfl)
    (case hdc1 => kernel_rfl)
    (case kPt1 => kernel_rfl)
    (case l_code2 => k_is)
    (case v112 => rfl)
    (case hdc2 => kernel_rfl)
    (case kPt2 => kernel_rfl)
    (case nPt => decide)
    (case hPt1 => exact PySem.W.km_tabs_of Y _ (by k_mem))
    (case hPt2 => exact PySem.W.km_tabs_of Y _ (by k_mem))
